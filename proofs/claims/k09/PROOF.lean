import PyProof.Rows.All
import Wide.All
import OpenK.AllK
import Wide.FinOn
import Lean
import PyProof.EqAt
import PyProof.EqKinds
import PyProof.TupleCall
import PySem.Challenge.RW_rollmend_k09_whole_talk
set_option genSizeOf false
set_option Elab.async false
set_option linter.all false
set_option maxRecDepth 100000
namespace L2
open PySem PySem.Spec PyProof.Rows
noncomputable abbrev Key := Sum Int Str
noncomputable def keyIs : Key → Value → Bool
 | .inl k, v => Value.isInt k v
 | .inr x, v => Value.isStrOf x v
noncomputable def keyH (w : World) : Key → Int
 | .inl k => hashInt k
 | .inr x => hashStr w x
theorem keyIs_shape : ∀ {k : Key} {v : Value}, keyIs k v = true → (∃ i t, k = Sum.inl i ∧ v = Value.int i t) ∨ (∃ x t, k = Sum.inr x ∧ v = Value.str x t)
 | .inl i, v, h => by
  obtain ⟨t, e⟩ := Value.isInt_shape (k := i) (v := v) h
  exact .inl ⟨i, t, rfl, e⟩
 | .inr x, v, h => by
  obtain ⟨t, e⟩ := Value.isStrOf_shape (x := x) (v := v) h
  exact .inr ⟨x, t, rfl, e⟩
theorem keyIs_int (i : Int) (t : Tok) : keyIs (.inl i) (.int i t) = true := by simp [keyIs, Value.isInt]
theorem keyIs_str (x : Str) (t : Tok) : keyIs (.inr x) (.str x t) = true := by simp [keyIs, Value.isStrOf]
theorem key_ll (a b : Int) : decide ((Sum.inl a : Key) = Sum.inl b) = (a == b) := by
 by_cases e : a = b
 ·subst e; simp
 ·have h : ¬ (Sum.inl a : Key) = Sum.inl b := fun q => e (Sum.inl.inj q)
  rw [decide_eq_false h]
  exact (beq_eq_false_iff_ne.mpr e).symm
theorem key_rr (a b : Str) : decide ((Sum.inr a : Key) = Sum.inr b) = decide (a = b) := by
 by_cases e : a = b
 ·subst e; simp
 ·have h : ¬ (Sum.inr a : Key) = Sum.inr b := fun q => e (Sum.inr.inj q)
  rw [decide_eq_false h, decide_eq_false e]
theorem key_lr (a : Int) (b : Str) : decide ((Sum.inl a : Key) = Sum.inr b) = false := decide_eq_false (fun q => nomatch q)
theorem key_rl (a : Str) (b : Int) : decide ((Sum.inr a : Key) = Sum.inl b) = false := decide_eq_false (fun q => nomatch q)
noncomputable def mixKind (prog : Program) (w : World) : PySem.KeyKind prog w Key where
 is := keyIs
 hash := keyH w
 inj := fun v a b ha hb => by
  rcases keyIs_shape ha with ⟨i, t, rfl, rfl⟩ | ⟨x, t, rfl, rfl⟩
  ·rcases keyIs_shape hb with ⟨j, u, rfl, e⟩ | ⟨y, u, rfl, e⟩
   ·injection e with e1 _; rw [e1]
   ·exact nomatch e
  ·rcases keyIs_shape hb with ⟨j, u, rfl, e⟩ | ⟨y, u, rfl, e⟩
   ·exact nomatch e
   ·injection e with e1 _; rw [e1]
 byValue := fun k v h => by
  rcases keyIs_shape h with ⟨i, t, rfl, rfl⟩ | ⟨x, t, rfl, rfl⟩ <;> rfl
 pyHash := fun hv h => by
  rcases keyIs_shape hv with ⟨i, t, rfl, rfl⟩ | ⟨x, t, rfl, rfl⟩
  ·exact wpAny_pyHash_int h
  ·exact wpAny_pyHash_str h
 eqBool := fun hu hv h => by
  rcases keyIs_shape hu with ⟨i, t, rfl, rfl⟩ | ⟨x, t, rfl, rfl⟩
  ·rcases keyIs_shape hv with ⟨j, u, rfl, rfl⟩ | ⟨y, u, rfl, rfl⟩
   ·rw [key_ll] at h; exact wpAny_eqBool_int h
   ·rw [key_lr] at h; exact SeqAt.EqAt.int_str i t y u _ _ _ _ h
  ·rcases keyIs_shape hv with ⟨j, u, rfl, rfl⟩ | ⟨y, u, rfl, rfl⟩
   ·rw [key_rl] at h; exact SeqAt.EqAt.str_int x t j u _ _ _ _ h
   ·rw [key_rr] at h; exact wpAny_eqBool_str h
 «strs» := fun k x t v h => by
  rcases keyIs_shape h with ⟨i, u, rfl, e⟩ | ⟨y, u, rfl, e⟩
  ·exact nomatch e
  ·injection e with e1 _
   subst e1
   cases v <;> rfl
theorem mixKind_int (prog : Program) (w : World) (i : Int) (t : Tok) : (mixKind prog w).is (.inl i) (.int i t) = true := keyIs_int i t
theorem mixKind_str (prog : Program) (w : World) (x : Str) (t : Tok) : (mixKind prog w).is (.inr x) (.str x t) = true := keyIs_str x t
end L2
namespace L2
open PySem PySem.Spec PyProof.Rows
inductive V where
 | non | bl (b : Bool) | int (i : Int) | str (x : Str) | byt (b : Array UInt8) | flt (b : UInt64) | ref (a : Addr) | ty (n : String)
 deriving DecidableEq
noncomputable def RelV : V → Value → Prop
 | .non, u => u = Value.none
 | .bl b, u => u = Value.bool b
 | .int i, u => ∃ t, u = Value.int i t
 | .str x, u => ∃ t, u = Value.str x t
 | .byt b, u => ∃ t, u = Value.bytes b t
 | .flt b, u => ∃ t, u = Value.float b t
 | .ref a, u => u = Value.ref a
 | .ty n, u => u = Value.type n
noncomputable abbrev Vals : List V → List Value → Prop := Paired RelV
theorem Vals.length {xs : List V} {us : List Value} (r : Vals xs us) : xs.length = us.length := Paired.length r
theorem Vals.get : ∀ {xs : List V} {us : List Value} {i : Nat} {x : V}, Vals xs us → xs[i]? = some x → ∃ u, us[i]? = some u ∧ RelV x u
 | _, _, _, _, .nil, e => by simp at e
 | _, _, 0, _, .cons r _, e => by simp at e; subst e; exact ⟨_, rfl, r⟩
 | _, _, i + 1, x, .cons _ t, e => by
  obtain ⟨u, h1, h2⟩ := Vals.get (i := i) (x := x) t (by simpa using e)
  exact ⟨u, by simpa using h1, h2⟩
theorem Vals.set {x : V} {u : Value} (r : RelV x u) : ∀ {xs : List V} {us : List Value} (i : Nat), Vals xs us → Vals (xs.set i x) (us.set i u)
 | _, _, _, .nil => .nil
 | _, _, 0, .cons _ t => .cons r t
 | _, _, i + 1, .cons q t => .cons q (Vals.set r i t)
theorem Vals.append : ∀ {xs ys : List V} {us ws : List Value}, Vals xs us → Vals ys ws → Vals (xs ++ ys) (us ++ ws)
 | _, _, _, _, .nil, s => s
 | _, _, _, _, .cons r t, s => .cons r (Vals.append t s)
theorem Vals.take : ∀ {xs : List V} {us : List Value} (n : Nat), Vals xs us → Vals (xs.take n) (us.take n)
 | _, _, 0, _ => .nil
 | _, _, _ + 1, .nil => .nil
 | _, _, n + 1, .cons r t => .cons r (Vals.take n t)
theorem Vals.drop : ∀ {xs : List V} {us : List Value} (n : Nat), Vals xs us → Vals (xs.drop n) (us.drop n)
 | _, _, 0, r => r
 | _, _, _ + 1, .nil => .nil
 | _, _, n + 1, .cons _ t => Vals.drop n t
noncomputable def RelO : Option V → Option Value → Prop
 | some v, some u => RelV v u
 | none, none => True
 | _, _ => False
noncomputable def KV {κ : Type} : List (κ × V) → List (κ × Value) → Prop := Paired fun (p : κ × V) (q : κ × Value) => p.1 = q.1 ∧ RelV p.2 q.2
noncomputable def kV : Key → V
 | .inl i => .int i
 | .inr x => .str x
inductive HO where
 | lst (xs : List V)
 | tup (xs : List V)
 | dK (kvs : List (Key × V)) | dT (kvs : List (List Key × V))
 | set (S : Int → Bool) (n : Nat)
 | ins (C dx : Addr) (fs : List (Str × V))
 | own (x : Addr)
 | xd (fs : List (Str × V))
 | met (f x : Addr)
 | rng (lo hi : Int)
 | frz (o : Obj) (u : HO)
 | tbl (ps : Array Value)
 | ext (φ : Heap → Prop)
noncomputable abbrev Hp := Addr → Option HO
noncomputable def upd (H : Hp) (a : Addr) (o : HO) : Hp := fun b => if b = a then some o else H b
theorem upd_same {H : Hp} {a : Addr} {o : HO} : upd H a o a = some o := by unfold upd; rw [if_pos rfl]
theorem upd_ne {H : Hp} {a b : Addr} {o : HO} (h : b ≠ a) : upd H a o b = H b := by unfold upd; rw [if_neg h]
theorem ne_of {H : Hp} {a b : Addr} {o u : HO} (h : H a = some o) (h' : H b = some u) (d : o ≠ u) : a ≠ b := by
 intro e; subst e; rw [h] at h'; exact d (Option.some.inj h')
theorem ne_of_none {H : Hp} {a b : Addr} {o : HO} (h : H a = some o) (h' : H b = none) : a ≠ b := by
 intro e; subst e; rw [h] at h'; cases h'
section
variable (P : Program) (w : World)
noncomputable def ObjOk (H : Hp) (h : Heap) (a : Addr) : HO → Prop
 | .lst xs => xs.length ≤ sizeLine ∧ ∃ (its : List Value) (n : Nat), Vals xs its ∧ h.get? a = some { cls := .type "list", data := .seq its.toArray n }
 | .tup xs => xs.length ≤ sizeLine ∧ ∃ its : List Value, Vals xs its ∧ IsTup h a its.toArray
 | .dK kvs => kvs.length ≤ sizeLine ∧ (a == sysModules) = false ∧ ∃ vs, KV kvs vs ∧ h.DictOf (mixKind P w) a vs
 | .dT kvs => kvs.length ≤ sizeLine ∧ (a == sysModules) = false ∧ ∃ xs : List (List Key × Addr × Value),
   Paired (fun (p : List Key × V) (q : List Key × Addr × Value) => p.1 = q.1 ∧ H q.2.1 = some (.tup (p.1.map kV)) ∧ RelV p.2 q.2.2) kvs xs ∧
   ∃ o es ep, h.get? a = some o ∧ o.ExactDict ∧ o.data = .dict es ep ∧ es.toList = xs.map (entryOfKey (tupleKind (mixKind P w))) ∧ (xs.map (·.1)).Nodup
 | .set S n => h.SetOf (intKind P w) a S n
 | .ins C dx fs => H dx = some (.own a) ∧ fs.length ≤ 1000 ∧ dx ≠ a ∧ h.get? a = some (PySem.W.instObj C dx) ∧
   ∃ mA, h.Ns1 dx mA ∧ (∀ f, RelO (fs.lookup f) (mA f)) ∧ PySem.Within mA (fs.map (·.1))
 | .own _ => ∃ o, h.get? a = some o
 | .xd fs => ∃ mA, h.Ns1 a mA ∧ ∀ f, RelO (fs.lookup f) (mA f)
 | .rng lo hi => ∃ t u v, h.get? a = some { cls := .type "range", data := .fields #[.int lo t, .int hi u, .int 1 v] }
 | .frz o u => h.get? a = some o ∧ ObjOk H h a u
 | .tbl ps => h.get? a = some { cls := .none, data := .fields ps }
 | .met f x => h.get? a = some (PySem.W.methodObj (.ref f) (.ref x))
 | .ext φ => φ h ∧ (∃ o, h.get? a = some o) ∧ ∀ h1 h2 : Heap, φ h1 → (∀ o, h1.get? a = some o → h2.get? a = some o) → φ h2
noncomputable def HOk (H : Hp) (h : Heap) : Prop := ∀ a o, H a = some o → ObjOk P w H h a o
end
section
variable {P : Program} {w : World} {H H' : Hp} {h h' : Heap} {a : Addr} {o : HO}
theorem ObjOk.lt (x : ObjOk P w H h a o) : a < h.objs.size := by
 cases o with
 | lst xs => obtain ⟨_, _, _, _, e⟩ := x; exact Heap.lt_size e
 | tup xs => obtain ⟨_, _, _, p⟩ := x; exact p.lt
 | dK kvs => obtain ⟨_, _, _, _, o, _, _, e, _⟩ := x; exact Heap.lt_size e
 | dT kvs => obtain ⟨_, _, _, _, o, _, _, e, _⟩ := x; exact Heap.lt_size e
 | set S n => obtain ⟨o, _, _, _, e, _⟩ := x; exact Heap.lt_size e
 | ins C dx fs => obtain ⟨_, _, _, e, _⟩ := x; exact Heap.lt_size e
 | own y => obtain ⟨_, e⟩ := x; exact Heap.lt_size e
 | xd fs => obtain ⟨_, ⟨_, _, _, e, _⟩, _⟩ := x; exact Heap.lt_size e
 | rng lo hi => obtain ⟨_, _, _, e⟩ := x; exact Heap.lt_size e
 | frz ob u => obtain ⟨e, _⟩ := x; exact Heap.lt_size e
 | tbl ps => exact Heap.lt_size (show h.get? a = some _ from x)
 | met f y => exact Heap.lt_size (show h.get? a = some _ from x)
 | ext φ => obtain ⟨_, ⟨_, e⟩, _⟩ := x; exact Heap.lt_size e
theorem Paired.mapP {α β : Type} {F G : α → β → Prop} : ∀ {l₁ : List α} {l₂ : List β}, Paired F l₁ l₂ → (∀ a b, F a b → G a b) → Paired G l₁ l₂
 | _, _, .nil, _ => .nil
 | _, _, .cons r t, f => .cons (f _ _ r) (Paired.mapP t f)
theorem ObjOk.stay (x : ObjOk P w H h a o) (k : ∀ b u, (b = a ∨ H b = some (.own a)) → h.get? b = some u → h'.get? b = some u)
  (ho : ∀ b, H b = some (.own a) → H' b = some (.own a)) (ht : ∀ b xs, H b = some (.tup xs) → H' b = some (.tup xs)) : ObjOk P w H' h' a o := by
 induction o with
 | lst xs => obtain ⟨z, its, n, r, e⟩ := x; exact ⟨z, its, n, r, k _ _ (.inl rfl) e⟩
 | tup xs => obtain ⟨z, its, r, ob, e, c⟩ := x; exact ⟨z, its, r, ob, k _ _ (.inl rfl) e, c⟩
 | dK kvs => obtain ⟨z, y, vs, r, ob, es, ep, e, c⟩ := x; exact ⟨z, y, vs, r, ob, es, ep, k _ _ (.inl rfl) e, c⟩
 | dT kvs =>
  obtain ⟨z, y, xs, r, ob, es, ep, e, c⟩ := x
  exact ⟨z, y, xs, Paired.mapP r fun p q z => ⟨z.1, ht _ _ z.2.1, z.2.2⟩, ob, es, ep, k _ _ (.inl rfl) e, c⟩
 | set S n => obtain ⟨ob, es, ep, t, e, c⟩ := x; exact ⟨ob, es, ep, t, k _ _ (.inl rfl) e, c⟩
 | ins C dx fs =>
  obtain ⟨d, z, ne, e, mA, ⟨od, es, ep, e2, c⟩, r⟩ := x
  exact ⟨ho _ d, z, ne, k _ _ (.inl rfl) e, mA, ⟨od, es, ep, k _ _ (.inr d) e2, c⟩, r⟩
 | own y => obtain ⟨ob, e⟩ := x; exact ⟨ob, k _ _ (.inl rfl) e⟩
 | xd fs => obtain ⟨mA, ⟨od, es, ep, e, c⟩, r⟩ := x; exact ⟨mA, ⟨od, es, ep, k _ _ (.inl rfl) e, c⟩, r⟩
 | rng lo hi => obtain ⟨t, u, v, e⟩ := x; exact ⟨t, u, v, k _ _ (.inl rfl) e⟩
 | frz ob u ih => obtain ⟨e, q⟩ := x; exact ⟨k _ _ (.inl rfl) e, ih q⟩
 | tbl ps =>
  have e : h.get? a = some { cls := .none, data := .fields ps } := x
  show h'.get? a = some { cls := .none, data := .fields ps }
  exact k a _ (.inl rfl) e
 | met f y =>
  have e : h.get? a = some (PySem.W.methodObj (.ref f) (.ref y)) := x
  show h'.get? a = some (PySem.W.methodObj (.ref f) (.ref y))
  exact k a _ (.inl rfl) e
 | ext φ => obtain ⟨p, ⟨o, e⟩, st⟩ := x; exact ⟨st _ _ p fun o q => k _ _ (.inl rfl) q, ⟨o, k _ _ (.inl rfl) e⟩, st⟩
theorem HOk.lt (x : HOk P w H h) (e : H a = some o) : a < h.objs.size := (x a o e).lt
theorem HOk.fresh (x : HOk P w H h) (e : h.objs.size ≤ a) : H a = none := by
 cases q : H a with
 | none => rfl
 | some u => exact absurd (Nat.lt_of_lt_of_le (x.lt q) e) (Nat.lt_irrefl _)
theorem HOk.kept (x : HOk P w H h) (k : ∀ b u, h.get? b = some u → h'.get? b = some u) : HOk P w H h' := fun a o e =>
 (x a o e).stay (fun b u _ q => k b u q) (fun _ q => q) fun _ _ q => q
theorem HOk.laid (x : HOk P w H h) (k : ∀ b u, h.get? b = some u → h'.get? b = some u) (hp : h.objs.size ≤ a) (new : ObjOk P w (upd H a o) h' a o) : HOk P w (upd H a o) h' := fun b u e => by
 have hn := x.fresh hp
 by_cases hb : b = a
 ·subst hb; rw [upd_same] at e; cases e; exact new
 ·rw [upd_ne hb] at e
  exact (x b u e).stay (fun c v _ q => k c v q) (fun c q => by rw [upd_ne (ne_of_none q hn)]; exact q) fun c xs q => by rw [upd_ne (ne_of_none q hn)]; exact q
end
noncomputable def Rd (H : Hp) (a : Addr) (u : HO) : Prop := H a = some u ∨ ∃ o, H a = some (.frz o u)
theorem Rd.of {H : Hp} {a : Addr} {u : HO} (h : H a = some u) : Rd H a u := .inl h
theorem Rd.ok {P : Program} {w : World} {H : Hp} {h : Heap} {a : Addr} {u : HO} (r : Rd H a u) (x : HOk P w H h) : ObjOk P w H h a u := by
 rcases r with r | ⟨o, r⟩
 ·exact x a u r
 ·obtain ⟨_, q⟩ := x a _ r
  exact q
noncomputable def Mut : Option HO → Prop
 | some (.lst _) => True
 | some (.dK _) => True
 | some (.dT _) => True
 | some (.set _ _) => True
 | some (.ins _ _ _) => True
 | some (.ext _) => True
 | _ => False
section
variable {P : Program} {w : World} {H : Hp} {h h' : Heap} {x e : Addr} {o' : HO}
theorem HOk.write (ok : HOk P w H h) (mu : Mut (H x)) (he : e = x ∨ H e = some (.own x)) (k : ∀ b u, b ≠ e → h.get? b = some u → h'.get? b = some u) (heo : ∃ u, h'.get? e = some u)
  (new : ObjOk P w (upd H x o') h' x o') : HOk P w (upd H x o') h' := fun b u q => by
 have nown : ∀ c y, H c = some (.own y) → c ≠ x := fun c y r z => by subst z; rw [r] at mu; exact mu
 have ntup : ∀ c xs, H c = some (.tup xs) → c ≠ x := fun c xs r z => by subst z; rw [r] at mu; exact mu
 by_cases hb : b = x
 ·subst hb; rw [upd_same] at q; cases q; exact new
 ·rw [upd_ne hb] at q
  by_cases hbe : b = e
  ·have q' : H b = some (.own x) := by
    rcases he with z | z
    ·exact absurd (hbe.trans z) hb
    ·rw [hbe]; exact z
   rw [q] at q'; cases q'
   obtain ⟨v, hv⟩ := heo
   exact ⟨v, by rw [hbe]; exact hv⟩
  ·refine (ok b u q).stay (fun c v hc r => k c v ?_ r) (fun c r => by rw [upd_ne (nown c b r)]; exact r) fun c xs r => by rw [upd_ne (ntup c xs r)]; exact r
   rcases hc with rfl | hc
   ·exact hbe
   ·rintro rfl
    rcases he with z | z
    ·exact nown c b hc z
    ·rw [hc] at z; cases z; exact hb rfl
end
structure Un (fs ex : List Addr) (H H' : Hp) (h h' : Heap) : Prop where
 keep : ∀ b o, h.get? b = some o → H b = none → b ∉ fs → b ∉ ex → h'.get? b = some o
 slot : ∀ b o, h.get? b = some o → H b = none → b ∈ fs → b ∉ ex → ∃ sl, h'.get? b = some { o with slots := sl }
 free : ∀ b o, h.get? b = some o → H b = none → b ∉ ex → H' b = none
 there : ∀ b o, h.get? b = some o → b ∉ ex → ∃ o', h'.get? b = some o'
 tups : ∀ b xs, H b = some (.tup xs) → H' b = some (.tup xs)
 frzs : ∀ b o u, H b = some (.frz o u) → H' b = some (.frz o u)
 tbls : ∀ b ps, H b = some (.tbl ps) → ∃ more, H' b = some (.tbl (ps ++ more))
section
variable {fs fs' ex ex' : List Addr} {H H1 H2 : Hp} {h h1 h2 h' : Heap} {a x e : Addr} {o : HO}
theorem Un.any (u : Un fs ex H H1 h h1) {b : Addr} {ob : Obj} (q : h.get? b = some ob) (n : H b = none) (hx : b ∉ ex) : ∃ sl, h1.get? b = some { ob with slots := sl } := by
 by_cases hb : b ∈ fs
 ·exact u.slot b ob q n hb hx
 ·exact ⟨ob.slots, u.keep b ob q n hb hx⟩
theorem Un.trans (a : Un fs ex H H1 h h1) (b : Un fs ex H1 H2 h1 h2) : Un fs ex H H2 h h2 where
 keep := fun c ob q n hc hx => b.keep c ob (a.keep c ob q n hc hx) (a.free c ob q n hx) hc hx
 slot := fun c ob q n hc hx => by
  obtain ⟨sl, e1⟩ := a.slot c ob q n hc hx
  obtain ⟨sl', e2⟩ := b.slot c _ e1 (a.free c ob q n hx) hc hx
  exact ⟨sl', e2⟩
 free := fun c ob q n hx => by
  obtain ⟨o', e1⟩ := a.there c ob q hx
  exact b.free c o' e1 (a.free c ob q n hx) hx
 there := fun c ob q hx => by
  obtain ⟨o', e1⟩ := a.there c ob q hx
  exact b.there c o' e1 hx
 tups := fun c xs q => b.tups c xs (a.tups c xs q)
 frzs := fun c ob xs q => b.frzs c ob xs (a.frzs c ob xs q)
 tbls := fun c ps q => by
  obtain ⟨m1, e1⟩ := a.tbls c ps q
  obtain ⟨m2, e2⟩ := b.tbls c _ e1
  exact ⟨m1 ++ m2, by rw [e2, Array.append_assoc]⟩
theorem Un.kept (k : ∀ b u, h.get? b = some u → h'.get? b = some u) : Un fs ex H H h h' :=
 ⟨fun b ob q _ _ _ => k b ob q, fun b ob q _ _ _ => ⟨ob.slots, k b ob q⟩, fun _ _ _ n _ => n, fun b ob q _ => ⟨ob, k b ob q⟩, fun _ _ q => q, fun _ _ _ q => q, fun _ ps q => ⟨#[], by rw [q]; simp⟩⟩
theorem Un.refl : Un fs ex H H h h := Un.kept fun _ _ q => q
theorem Un.laid (k : ∀ b u, h.get? b = some u → h'.get? b = some u) (hp : h.objs.size ≤ a) (hn : H a = none) : Un fs ex H (upd H a o) h h' where
 keep := fun b u q _ _ _ => k b u q
 slot := fun b u q _ _ _ => ⟨u.slots, k b u q⟩
 free := fun b u q n _ => by rw [upd_ne (Nat.ne_of_lt (Nat.lt_of_lt_of_le (Heap.lt_size q) hp))]; exact n
 there := fun b u q _ => ⟨u, k b u q⟩
 tups := fun b xs q => by rw [upd_ne (ne_of_none q hn)]; exact q
 frzs := fun b u xs q => by rw [upd_ne (ne_of_none q hn)]; exact q
 tbls := fun b ps q => ⟨#[], by rw [upd_ne (ne_of_none q hn), q]; simp⟩
theorem Un.write (mu : Mut (H x)) (he : e = x ∨ H e = some (.own x)) (k : ∀ b u, b ≠ e → h.get? b = some u → h'.get? b = some u) (heo : ∃ u, h'.get? e = some u) : Un fs ex H (upd H x o) h h' := by
 have hx : ∀ b, H b = none → b ≠ x := fun b n z => by subst z; rw [n] at mu; exact mu
 have hb : ∀ b, H b = none → b ≠ e := fun b n z => by
  subst z
  rcases he with r | r
  ·exact hx b n r
  ·rw [n] at r; cases r
 have hm : ∀ b u, H b = some u → ¬ Mut (some u) → b ≠ x := fun b u q nm z => by subst z; rw [q] at mu; exact nm mu
 refine ⟨fun b u q n _ _ => k b u (hb b n) q, fun b u q n _ _ => ⟨u.slots, k b u (hb b n) q⟩, fun b u q n _ => by rw [upd_ne (hx b n)]; exact n, fun b u q _ => ?_,
  fun b xs q => by rw [upd_ne (hm b _ q fun z => z)]; exact q, fun b u xs q => by rw [upd_ne (hm b _ q fun z => z)]; exact q, fun b ps q => ⟨#[], by rw [upd_ne (hm b _ q fun z => z), q]; simp⟩⟩
 by_cases hbe : b = e
 ·subst hbe; exact heo
 ·exact ⟨u, k b u hbe q⟩
end
noncomputable def trk (h : Heap) (H : Hp) : List Addr := (List.range h.objs.size).filter fun a => (H a).isSome
noncomputable def hidT (h : Heap) (H : Hp) : Heap := PySem.W.hideAll h (trk h H)
theorem hidT_size (h : Heap) (H : Hp) : (hidT h H).objs.size = h.objs.size := PySem.W.hideAll_size _ _
theorem hidT_get {h : Heap} {H : Hp} {b : Addr} {o : Obj} (e : h.get? b = some o) (n : H b = none) : (hidT h H).get? b = some o :=
 PySem.W.hideAll_get _ e fun hm => by
  have q : (H b).isSome = true := (List.mem_filter.mp hm).2
  rw [n] at q; simp at q
theorem of_hidT {h : Heap} {H : Hp} {b : Addr} {o : Obj} (e : (hidT h H).get? b = some o) : h.get? b = some o ∧ H b = none := by
 have e' : h.get? b = some o := PySem.W.of_hideAll (trk h H) e
 refine ⟨e', ?_⟩
 cases q : H b with
 | none => rfl
 | some x =>
  have hm : b ∈ trk h H := List.mem_filter.mpr ⟨List.mem_range.mpr (Heap.lt_size e'), by simp [q]⟩
  have z : (hidT h H).get? b = none := PySem.W.hideAll_none (trk h H) hm
  rw [z] at e; cases e
end L2
namespace L2
open PySem PySem.Spec PyProof.Rows
structure Mod (K : PySem.W.Frag) (mg : Str → Option Value) (base : Heap) : Prop where
 kin : K.In base
 glob : base.Ns mainGlobals mg
 blt : ∃ mb, base.Ns builtinsNs mb ∧ ∀ x : Str, x ≠ "__name__" → mb x = bootBuiltins x
 nolimit : base.NoLimit
structure Cx where
 prog : Program
 w : World
 K : PySem.W.Frag
 mg : Str → Option Value
 base : Heap
 A : Around
 N : List Str
 s₀ : Shared
 H₀ : Hp
 env : Env
 outer : List Env
 stack : List Env
 ex : List Addr
 fn : Str → Bool
 calm : Bool
 pn : List (Addr × Obj)
 xe : Value → Shared → Prop
noncomputable def frs (l : List Env) : List Addr := l.filterMap (·.frame)
noncomputable abbrev Cx.fs (X : Cx) : List Addr := frs X.outer
noncomputable def Vis (sc : Scope) (x : Str) : Prop := sc.names.lookup x = some .local ∨ sc.names.lookup x = some .cell ∨ sc.names.lookup x = some .free
noncomputable def Loc (sc : Scope) (x : Str) : Prop := sc.names.lookup x = some .local ∨ sc.names.lookup x = some .cell
noncomputable def Look (env : Env) (h : Heap) (m : Str → Option Value) (x : Str) (u : Value) : Prop :=
 (env.kindOf x = some .local ∧ m x = some u) ∨ ((env.kindOf x = some .cell ∨ env.kindOf x = some .free) ∧ ∃ c, env.cells.lookup x = some c ∧ h.IsCell c (some u))
structure Cx.Ok (X : Cx) : Prop where
 mod : Mod X.K X.mg X.base
 kind : X.env.scope.kind = .function
 glob : X.env.globals = mainGlobals
 blt : X.env.builtins = builtinsNs
 above : X.s₀.heap.objs.size ≤ X.env.locals
 inj : ∀ x y c, X.env.cells.lookup x = some c → X.env.cells.lookup y = some c → x = y
 has : ∀ x, (X.env.kindOf x = some .cell ∨ X.env.kindOf x = some .free) → ∃ c, X.env.cells.lookup x = some c
 cab : ∀ x c, X.fn x = true → X.env.cells.lookup x = some c → X.s₀.heap.objs.size ≤ c
 hd : X.calm = true → X.A.handled = none
 frames : X.A.frames = some X.stack
 stk : X.stack = X.outer ∨ (X.stack = X.env :: X.outer ∧ X.env.frame = some X.env.locals)
 exf : ∀ b ∈ X.ex, b ≠ X.env.locals ∧ ∀ x c, X.env.cells.lookup x = some c → c ≠ b
 bs : ∀ b o, X.base.get? b = some o → X.s₀.heap.get? b = some o ∧ X.H₀ b = none
 bsz : X.base.objs.size ≤ X.s₀.heap.objs.size
 noex : ∀ b o, X.base.get? b = some o → b ∉ X.ex
 exfs : ∀ b ∈ X.ex, b ∉ X.fs
 funs : X.s₀.heap.FunFrames X.base X.outer
 frf : ∀ b ∈ X.fs, X.H₀ b = none
structure Inv (X : Cx) (pins : List (Addr × Obj)) (σ : List (Option V)) (H : Hp) (s : Shared) : Prop where
 ok : X.Ok
 os : s.os = X.s₀.os
 bare : AllBare s.gens
 base : Un X.fs X.ex X.H₀ H X.s₀.heap s.heap
 loc : ∃ m, s.heap.Ns X.env.locals m ∧ ∀ (i : Nat) (x : Str) (v : V), X.N[i]? = some x → σ[i]? = some (some v) → Vis X.env.scope x → ∃ u, RelV v u ∧ Look X.env s.heap m x u
 cell : ∀ x c, X.env.cells.lookup x = some c → ∃ v, s.heap.IsCell c v
 free : H X.env.locals = none
 freeC : ∀ x c, X.env.cells.lookup x = some c → H c = none
 pin : ∀ p ∈ X.pn ++ pins, s.heap.get? p.1 = some p.2 ∧ H p.1 = none ∧ p.1 ≠ X.env.locals ∧ p.1 ∉ X.fs ∧ ∀ v, p.2.data ≠ .cell v
 hok : HOk X.prog X.w H s.heap
 len : σ.length = X.N.length
section
variable {X : Cx} {pins : List (Addr × Obj)} {σ : List (Option V)} {H H' : Hp} {s : Shared} {h' : Heap}
theorem Cx.Ok.nofr (ok : X.Ok) {b : Addr} {o : Obj} (e : X.base.get? b = some o) : b ∉ X.fs := fun hb => by
 have := (ok.funs.mem hb).1
 rw [e] at this; cases this
theorem Inv.bs (I : Inv X pins σ H s) : ∀ b o, X.base.get? b = some o → s.heap.get? b = some o ∧ H b = none := fun b o e =>
 ⟨I.base.keep b o (I.ok.bs b o e).1 (I.ok.bs b o e).2 (I.ok.nofr e) (I.ok.noex b o e), I.base.free b o (I.ok.bs b o e).1 (I.ok.bs b o e).2 (I.ok.noex b o e)⟩
theorem Inv.bk (I : Inv X pins σ H s) : ∀ b o, X.base.get? b = some o → s.heap.get? b = some o := fun b o e => (I.bs b o e).1
theorem Inv.mod (I : Inv X pins σ H s) : Mod X.K X.mg X.base := I.ok.mod
theorem Inv.kIn (I : Inv X pins σ H s) : X.K.In s.heap := I.ok.mod.kin.keeps I.bk
theorem Inv.lt (I : Inv X pins σ H s) : X.env.locals < s.heap.objs.size := let ⟨_, hn, _⟩ := I.loc; hn.lt
theorem Inv.sz (I : Inv X pins σ H s) : X.s₀.heap.objs.size ≤ s.heap.objs.size := Nat.le_trans I.ok.above (Nat.le_of_lt I.lt)
theorem Inv.nofs (I : Inv X pins σ H s) {a : Addr} (h : s.heap.objs.size ≤ a) : a ∉ X.fs := fun hb => by
 obtain ⟨_, o, ho, _⟩ := I.ok.funs.mem hb
 exact absurd (Nat.lt_of_lt_of_le (Heap.lt_size ho) (Nat.le_trans I.sz h)) (Nat.lt_irrefl _)
theorem Inv.cne (I : Inv X pins σ H s) : ∀ x c, X.env.cells.lookup x = some c → c ≠ X.env.locals := fun x c e z => by
 obtain ⟨v, o, ho, hd⟩ := I.cell x c e
 obtain ⟨m, ⟨o', es, ep, ho', hd', _⟩, _⟩ := I.loc
 rw [z, ho'] at ho; cases ho; rw [hd'] at hd; cases hd
theorem Inv.funs (I : Inv X pins σ H s) : s.heap.FunFrames X.base X.outer := by
 have all : ∀ (l : List Env), (∀ b ∈ frs l, b ∈ X.fs) → X.s₀.heap.FunFrames X.base l → s.heap.FunFrames X.base l := by
  intro l
  induction l with
  | nil => intro _ _; trivial
  | cons env r ih =>
   intro hs hl
   obtain ⟨hk, ⟨L, o, hf, hn, ho, hd⟩, hr⟩ := hl
   have hL : L ∈ X.fs := hs L (by unfold frs; rw [List.filterMap_cons, hf]; exact List.mem_cons_self)
   obtain ⟨sl, e⟩ := I.base.slot L o ho (I.ok.frf L hL) hL fun z => I.ok.exfs L z hL
   exact ⟨hk, ⟨L, _, hf, hn, e, hd⟩, ih (fun b hb => hs b (by unfold frs; rw [List.filterMap_cons, hf]; exact List.mem_cons_of_mem _ hb)) hr⟩
 exact all X.outer (fun _ hb => hb) I.ok.funs
theorem Inv.stack (I : Inv X pins σ H s) : s.heap.FunFrames X.base X.stack := by
 rcases I.ok.stk with e | ⟨e, hf⟩
 ·rw [e]; exact I.funs
 ·rw [e]
  obtain ⟨m, hn, _⟩ := I.loc
  refine .cons (by rw [I.ok.kind]; decide) hf hn ?_ I.funs
  exact Heap.get?_none_of_le (Nat.le_trans I.ok.bsz I.ok.above)
theorem Inv.stkSub (I : Inv X pins σ H s) : ∀ b ∈ frs X.stack, b ∈ X.env.locals :: X.fs := fun b hb => by
 rcases I.ok.stk with e | ⟨e, hf⟩
 ·rw [e] at hb; exact List.mem_cons_of_mem _ hb
 ·rw [e] at hb
  unfold frs at hb
  rw [List.filterMap_cons, hf] at hb
  exact hb
theorem Inv.stkFree (I : Inv X pins σ H s) : ∀ b ∈ frs X.stack, H b = none := fun b hb => by
 rcases List.mem_cons.mp (I.stkSub b hb) with e | hb
 ·rw [e]; exact I.free
 ·obtain ⟨_, o, ho, _⟩ := I.ok.funs.mem hb
  exact I.base.free b o ho (I.ok.frf b hb) fun z => I.ok.exfs b z hb
theorem Inv.step {g' : Array GenState} {t' : Nat} {d' : Drawn} {ch : List Addr} (I : Inv X pins σ H s)
  (hch : ∀ b ∈ ch, (b ∈ X.ex ∨ X.s₀.heap.objs.size ≤ b) ∧ b ≠ X.env.locals ∧ (∀ x c, X.env.cells.lookup x = some c → c ≠ b) ∧ ∀ p ∈ X.pn ++ pins, p.1 ≠ b)
  (keep : ∀ b o, b ≠ X.env.locals → b ∉ X.fs → b ∉ ch → s.heap.get? b = some o → H b = none → h'.get? b = some o)
  (slot : ∀ b o, b ≠ X.env.locals → b ∈ X.fs → b ∉ ch → s.heap.get? b = some o → H b = none → ∃ sl, h'.get? b = some { o with slots := sl }) (free : ∀ b o, b ∉ ch → s.heap.get? b = some o → H b = none → H' b = none)
  (there : ∀ b o, b ∉ ch → s.heap.get? b = some o → ∃ o', h'.get? b = some o')
  (tups : ∀ b xs, H b = some (.tup xs) → H' b = some (.tup xs)) (frzs : ∀ b o u, H b = some (.frz o u) → H' b = some (.frz o u)) (tbls : ∀ b ps, H b = some (.tbl ps) → ∃ more, H' b = some (.tbl (ps ++ more)))
  (ns : ∀ m, s.heap.Ns X.env.locals m → h'.Ns X.env.locals m) (hok : HOk X.prog X.w H' h') (hg : AllBare g') :
  Inv X pins σ H' { s with heap := h', gens := g', drawn := d', toks := t' } := by
 have neL : ∀ b o, X.s₀.heap.get? b = some o → b ≠ X.env.locals := fun b o e => Nat.ne_of_lt (Nat.lt_of_lt_of_le (Heap.lt_size e) I.ok.above)
 have neC : ∀ b o, X.s₀.heap.get? b = some o → b ∉ X.ex → b ∉ ch := fun b o e hx hb => by
  rcases (hch b hb).1 with z | z
  ·exact hx z
  ·exact absurd (Nat.lt_of_lt_of_le (Heap.lt_size e) z) (Nat.lt_irrefl _)
 have cellK : ∀ x c, X.env.cells.lookup x = some c → ∀ v, s.heap.IsCell c v → h'.IsCell c v := fun x c e v ⟨o, ho, hd⟩ => by
  have nch : c ∉ ch := fun z => (hch c z).2.2.1 x c e rfl
  by_cases hc : c ∈ X.fs
  ·obtain ⟨sl, q⟩ := slot c o (I.cne x c e) hc nch ho (I.freeC x c e)
   exact ⟨_, q, hd⟩
  ·exact ⟨o, keep c o (I.cne x c e) hc nch ho (I.freeC x c e), hd⟩
 refine ⟨I.ok, I.os, hg, ⟨fun b o e n hb hx => ?_, fun b o e n hb hx => ?_, fun b o e n hx => ?_, fun b o e hx => ?_, fun b xs e => tups b xs (I.base.tups b xs e), fun b o xs e => frzs b o xs (I.base.frzs b o xs e), fun b ps e => ?_⟩, ?_, fun x c e => ?_, ?_, fun x c e => ?_, fun p hp => ?_, hok, I.len⟩
 ·exact keep b o (neL b o e) hb (neC b o e hx) (I.base.keep b o e n hb hx) (I.base.free b o e n hx)
 ·obtain ⟨sl, e1⟩ := I.base.slot b o e n hb hx
  obtain ⟨sl', e2⟩ := slot b _ (neL b o e) hb (neC b o e hx) e1 (I.base.free b o e n hx)
  exact ⟨sl', e2⟩
 ·obtain ⟨o', e1⟩ := I.base.there b o e hx
  exact free b o' (neC b o e hx) e1 (I.base.free b o e n hx)
 ·obtain ⟨o', e1⟩ := I.base.there b o e hx
  exact there b o' (neC b o e hx) e1
 ·obtain ⟨m1, e1⟩ := I.base.tbls b ps e
  obtain ⟨m2, e2⟩ := tbls b _ e1
  exact ⟨m1 ++ m2, by rw [e2, Array.append_assoc]⟩
 ·obtain ⟨m, hn, hl⟩ := I.loc
  refine ⟨m, ns m hn, fun i x v e1 e2 e3 => ?_⟩
  obtain ⟨u, r, l⟩ := hl i x v e1 e2 e3
  refine ⟨u, r, ?_⟩
  rcases l with l | ⟨k, c, e, z⟩
  ·exact .inl l
  ·exact .inr ⟨k, c, e, cellK x c e _ z⟩
 ·obtain ⟨v, z⟩ := I.cell x c e
  exact ⟨v, cellK x c e v z⟩
 ·obtain ⟨m, ⟨o, _, _, ho, _⟩, _⟩ := I.loc
  exact free _ o (fun z => (hch _ z).2.1 rfl) ho I.free
 ·obtain ⟨v, o, ho, hd⟩ := I.cell x c e
  exact free c o (fun z => (hch c z).2.2.1 x c e rfl) ho (I.freeC x c e)
 ·obtain ⟨e, n, ne, nf, d⟩ := I.pin p hp
  have nch : p.1 ∉ ch := fun z => (hch p.1 z).2.2.2 p hp rfl
  exact ⟨keep p.1 p.2 ne nf nch e n, free p.1 p.2 nch e n, ne, nf, d⟩
theorem Inv.un {t' : Nat} (I : Inv X pins σ H s) (u : Un X.fs [] H H' s.heap h') (hok : HOk X.prog X.w H' h') : Inv X pins σ H' { s with heap := h', toks := t' } := by
 obtain ⟨m, ⟨o, es, ep, ho, r⟩, _⟩ := id I.loc
 obtain ⟨sl, hL⟩ := u.any ho I.free (by simp)
 exact I.step (g' := s.gens) (d' := s.drawn) (ch := []) (fun _ z => nomatch z) (fun b o _ hb _ e n => u.keep b o e n hb (by simp)) (fun b o _ hb _ e n => u.slot b o e n hb (by simp)) (fun b o _ e n => u.free b o e n (by simp)) (fun b o _ e => u.there b o e (by simp)) u.tups u.frzs u.tbls (fun m' hm => by
  obtain ⟨o', es', ep', ho', r'⟩ := hm
  rw [ho] at ho'; cases ho'
  exact ⟨_, es', ep', hL, r'⟩) hok I.bare
theorem Inv.call {g' : Array GenState} {t' : Nat} {d' : Drawn} {ch : List Addr} (I : Inv X pins σ H s) (u : Un (frs X.stack) ch H H' s.heap h') (hok : HOk X.prog X.w H' h') (hg : AllBare g')
  (hch : ∀ b ∈ ch, (b ∈ X.ex ∨ X.s₀.heap.objs.size ≤ b) ∧ b ≠ X.env.locals ∧ (∀ x c, X.env.cells.lookup x = some c → c ≠ b) ∧ ∀ p ∈ X.pn ++ pins, p.1 ≠ b) :
  Inv X pins σ H' { s with heap := h', gens := g', drawn := d', toks := t' } := by
 obtain ⟨m, ⟨o, es, ep, ho, r⟩, _⟩ := id I.loc
 obtain ⟨sl, hL⟩ := u.any ho I.free fun z => (hch _ z).2.1 rfl
 exact I.step (ch := ch) hch (fun b o hL hb hc e n => u.keep b o e n (fun z => (List.mem_cons.mp (I.stkSub b z)).elim hL hb) hc) (fun b o _ _ hc e n => u.any e n hc) (fun b o hc e n => u.free b o e n hc) (fun b o hc e => u.there b o e hc) u.tups u.frzs u.tbls (fun m' hm => by
  obtain ⟨o', es', ep', ho', r'⟩ := hm
  rw [ho] at ho'; cases ho'
  exact ⟨_, es', ep', hL, r'⟩) hok hg
theorem Inv.turned {t' : Nat} {it : Addr} (I : Inv X pins σ H s) (k : ∀ b o, b ≠ it → s.heap.get? b = some o → h'.get? b = some o) (hn : H it = none) (hL : it ≠ X.env.locals)
  (h1 : it ∈ X.ex ∨ X.s₀.heap.objs.size ≤ it) (h2 : ∀ x c, X.env.cells.lookup x = some c → c ≠ it) (h3 : ∀ p ∈ X.pn ++ pins, p.1 ≠ it) : Inv X pins σ H { s with heap := h', toks := t' } := by
 have nit : ∀ b u, H b = some u → b ≠ it := fun b u e z => by rw [z, hn] at e; cases e
 refine I.step (g' := s.gens) (d' := s.drawn) (ch := [it]) (fun b hb => ?_) (fun b o _ _ hc e _ => k b o (fun z => hc (by simp [z])) e) (fun b o _ _ hc e _ => ⟨o.slots, k b o (fun z => hc (by simp [z])) e⟩) (fun _ _ _ _ n => n)
  (fun b o hc e => ⟨o, k b o (fun z => hc (by simp [z])) e⟩) (fun _ _ e => e) (fun _ _ _ e => e) (fun b ps e => ⟨#[], by rw [e]; simp⟩) (fun m hm => ?_) (fun b u e => ?_) I.bare
 ·have e : b = it := by simpa using hb
  subst e
  exact ⟨h1, hL, h2, h3⟩
 ·obtain ⟨o, es, ep, ho, r⟩ := hm
  exact ⟨o, es, ep, k _ o (Ne.symm hL) ho, r⟩
 ·refine (I.hok b u e).stay (fun c v hc q => k c v ?_ q) (fun _ q => q) fun _ _ q => q
  rcases hc with z | z
  ·rw [z]; exact nit b u e
  ·exact nit c _ z
theorem Inv.tok (I : Inv X pins σ H s) (t : Nat) : Inv X pins σ H { s with toks := t } := I.un (h' := s.heap) (t' := t) Un.refl I.hok
theorem Inv.kept {t' : Nat} (I : Inv X pins σ H s) (k : ∀ b u, s.heap.get? b = some u → h'.get? b = some u) : Inv X pins σ H { s with heap := h', toks := t' } := I.un (Un.kept k) (I.hok.kept k)
theorem Inv.laid {a : Addr} {o : HO} {t' : Nat} (I : Inv X pins σ H s) (k : ∀ b u, s.heap.get? b = some u → h'.get? b = some u) (hp : s.heap.objs.size ≤ a) (new : ObjOk X.prog X.w (upd H a o) h' a o) :
  Inv X pins σ (upd H a o) { s with heap := h', toks := t' } := I.un (Un.laid k hp (I.hok.fresh hp)) (I.hok.laid k hp new)
theorem Inv.write {x e : Addr} {o : HO} {t' : Nat} (I : Inv X pins σ H s) (mu : Mut (H x)) (he : e = x ∨ H e = some (.own x)) (k : ∀ b u, b ≠ e → s.heap.get? b = some u → h'.get? b = some u) (heo : ∃ u, h'.get? e = some u)
  (new : ObjOk X.prog X.w (upd H x o) h' x o) : Inv X pins σ (upd H x o) { s with heap := h', toks := t' } := I.un (Un.write mu he k heo) (I.hok.write mu he k heo new)
theorem Inv.pins_of {pins' : List (Addr × Obj)} (I : Inv X pins σ H s) (h : ∀ p ∈ pins', s.heap.get? p.1 = some p.2 ∧ H p.1 = none ∧ p.1 ≠ X.env.locals ∧ p.1 ∉ X.fs ∧ ∀ v, p.2.data ≠ .cell v) : Inv X pins' σ H s :=
 ⟨I.ok, I.os, I.bare, I.base, I.loc, I.cell, I.free, I.freeC, fun p hp => (List.mem_append.mp hp).elim (fun z => I.pin p (List.mem_append_left _ z)) (h p), I.hok, I.len⟩
theorem nodup_ix {N : List Str} (hN : N.Nodup) {i j : Nat} {x : Str} (a : N[i]? = some x) (b : N[j]? = some x) : i = j := by
 obtain ⟨h1, e1⟩ := List.getElem?_eq_some_iff.mp a
 obtain ⟨h2, e2⟩ := List.getElem?_eq_some_iff.mp b
 exact (List.getElem_inj hN).mp (e1.trans e2.symm)
theorem store_ok2 {M : Model} {A : Around} {E : Value → Shared → Prop} {i : Nat} {x : Str} {v : V} {u : Value} {Q : Unit → Shared → Prop} (I : Inv X pins σ H s) (hN : X.N.Nodup) (hi : X.N[i]? = some x) (hx : Loc X.env.scope x) (r : RelV v u)
  (h : ∀ s', Inv X pins (σ.set i (some v)) H s' → (∃ a, Heap.SameBut a s.heap s'.heap ∧ (a = X.env.locals ∨ X.env.cells.lookup x = some a)) → Q () s') (hf : X.fn x = true ∨ X.env.scope.names.lookup x = some .local := by first | exact .inl rfl | exact .inr rfl | assumption) : wpAny M A (storeName X.env x u) Q E s := by
 obtain ⟨m, hn, hl⟩ := id I.loc
 have hcls : (X.env.scope.kind == .class || (X.env.scope.kind == .module && X.env.locals != X.env.globals)) = false := by rw [I.ok.kind]; rfl
 have hiσ : i < σ.length := by rw [I.len]; exact (List.getElem?_eq_some_iff.mp hi).1
 have cne := I.cne
 have tracked : ∀ {a : Addr} {h' : Heap}, (∃ o, s.heap.get? a = some o ∧ H a = none) → Heap.SameBut a s.heap h' → HOk X.prog X.w H h' := fun {a h'} ha hs b ob e => by
  obtain ⟨_, _, hfree⟩ := ha
  refine (I.hok b ob e).stay (fun c w' hc q => (hs.2 c ?_).trans q) (fun _ q => q) fun _ _ q => q
  rintro rfl
  rcases hc with rfl | hc
  ·rw [hfree] at e; cases e
  ·rw [hfree] at hc; cases hc
 rcases hx with hk | hk
 ·refine wpAny_storeName_local hk hn (fun h' hn' hs => ?_) hcls
  obtain ⟨oL, _, _, hoL, _⟩ := id hn
  refine h _ ⟨I.ok, I.os, I.bare, ⟨fun b o e n hb hx => ?_, fun b o e n hb hx => ?_, I.base.free, fun b o e hx => ?_, I.base.tups, I.base.frzs, I.base.tbls⟩, ⟨_, hn', fun j y v' e1 e2 e3 => ?_⟩, fun y c e => ?_, I.free, I.freeC, fun p hp => ?_, tracked ⟨oL, hoL, I.free⟩ hs, by simpa using I.len⟩ ⟨_, hs, .inl rfl⟩
  ·exact (hs.2 b (Nat.ne_of_lt (Nat.lt_of_lt_of_le (Heap.lt_size e) I.ok.above))).trans (I.base.keep b o e n hb hx)
  ·obtain ⟨sl, e1⟩ := I.base.slot b o e n hb hx
   exact ⟨sl, (hs.2 b (Nat.ne_of_lt (Nat.lt_of_lt_of_le (Heap.lt_size e) I.ok.above))).trans e1⟩
  ·obtain ⟨o', e1⟩ := I.base.there b o e hx
   exact ⟨o', (hs.2 b (Nat.ne_of_lt (Nat.lt_of_lt_of_le (Heap.lt_size e) I.ok.above))).trans e1⟩
  ·by_cases hj : j = i
   ·subst hj
    rw [hi] at e1; cases e1
    rw [List.getElem?_set_self hiσ] at e2
    cases e2
    exact ⟨u, r, .inl ⟨hk, by simp⟩⟩
   ·rw [List.getElem?_set_ne (Ne.symm hj)] at e2
    obtain ⟨u', r', q⟩ := hl j y v' e1 e2 e3
    refine ⟨u', r', ?_⟩
    rcases q with ⟨k, e⟩ | ⟨k, c, e, z⟩
    ·refine .inl ⟨k, ?_⟩
     have : y ≠ x := fun e => hj (nodup_ix hN e1 (e ▸ hi))
     simp [this, e]
    ·exact .inr ⟨k, c, e, z.sameBut hs (cne y c e)⟩
  ·obtain ⟨w', z⟩ := I.cell y c e
   exact ⟨w', z.sameBut hs (cne y c e)⟩
  ·obtain ⟨e, n, ne, nf, d⟩ := I.pin p hp
   exact ⟨(hs.2 p.1 ne).trans e, n, ne, nf, d⟩
 ·have hfn : X.fn x = true := by
   rcases hf with z | z
   ·exact z
   ·rw [z] at hk; cases hk
  obtain ⟨c, hc⟩ := I.ok.has x (.inl hk)
  obtain ⟨w', z⟩ := I.cell x c hc
  refine wpAny_storeName_cell I.ok.kind hk hc z (fun h' hc' hs => ?_)
  obtain ⟨oc, hoc, hocd⟩ := id z
  refine h { s with heap := h' } ⟨I.ok, I.os, I.bare, ⟨fun b o e n hb hx => ?_, fun b o e n hb hx => ?_, I.base.free, fun b o e hx => ?_, I.base.tups, I.base.frzs, I.base.tbls⟩, ⟨m, hn.sameBut hs (Ne.symm (cne x c hc)), fun j y v' e1 e2 e3 => ?_⟩, fun y c' e => ?_, I.free, I.freeC, fun p hp => ?_, tracked ⟨oc, hoc, I.freeC x c hc⟩ hs, by simpa using I.len⟩ ⟨c, hs, .inr hc⟩
  ·exact (hs.2 b (Nat.ne_of_lt (Nat.lt_of_lt_of_le (Heap.lt_size e) (I.ok.cab x c hfn hc)))).trans (I.base.keep b o e n hb hx)
  ·obtain ⟨sl, e1⟩ := I.base.slot b o e n hb hx
   exact ⟨sl, (hs.2 b (Nat.ne_of_lt (Nat.lt_of_lt_of_le (Heap.lt_size e) (I.ok.cab x c hfn hc)))).trans e1⟩
  ·obtain ⟨o', e1⟩ := I.base.there b o e hx
   exact ⟨o', (hs.2 b (Nat.ne_of_lt (Nat.lt_of_lt_of_le (Heap.lt_size e) (I.ok.cab x c hfn hc)))).trans e1⟩
  ·by_cases hj : j = i
   ·subst hj
    rw [hi] at e1; cases e1
    rw [List.getElem?_set_self hiσ] at e2
    cases e2
    exact ⟨u, r, .inr ⟨.inl hk, c, hc, hc'⟩⟩
   ·rw [List.getElem?_set_ne (Ne.symm hj)] at e2
    obtain ⟨u', r', q⟩ := hl j y v' e1 e2 e3
    refine ⟨u', r', ?_⟩
    rcases q with q | ⟨k, c', e, z'⟩
    ·exact .inl q
    ·refine .inr ⟨k, c', e, z'.sameBut hs ?_⟩
     rintro rfl
     exact hj (nodup_ix hN e1 (I.ok.inj _ _ _ e hc ▸ hi))
  ·by_cases hcc : c' = c
   ·subst hcc; exact ⟨_, hc'⟩
   ·obtain ⟨w2, z2⟩ := I.cell y c' e
    exact ⟨w2, z2.sameBut hs hcc⟩
  ·obtain ⟨e, n, ne, nf, d⟩ := I.pin p hp
   refine ⟨(hs.2 p.1 ?_).trans e, n, ne, nf, d⟩
   intro q
   rw [q, hoc] at e
   have q' : oc = p.2 := Option.some.inj e
   exact d w' (by rw [← q']; exact hocd)
theorem store_ok {M : Model} {A : Around} {E : Value → Shared → Prop} {i : Nat} {x : Str} {v : V} {u : Value} {Q : Unit → Shared → Prop} (I : Inv X pins σ H s) (hN : X.N.Nodup) (hi : X.N[i]? = some x) (hx : Loc X.env.scope x) (r : RelV v u)
  (h : ∀ s', Inv X pins (σ.set i (some v)) H s' → Q () s') (hf : X.fn x = true ∨ X.env.scope.names.lookup x = some .local := by first | exact .inl rfl | exact .inr rfl | assumption) : wpAny M A (storeName X.env x u) Q E s :=
 store_ok2 I hN hi hx r (fun s' I' _ => h s' I') hf
theorem Inv.call' {s' : Shared} {ch : List Addr} (I : Inv X pins σ H s) (ho : s'.os = s.os) (u : Un (frs X.stack) ch H H' s.heap s'.heap) (hok : HOk X.prog X.w H' s'.heap) (hg : AllBare s'.gens)
  (hch : ∀ b ∈ ch, (b ∈ X.ex ∨ X.s₀.heap.objs.size ≤ b) ∧ b ≠ X.env.locals ∧ (∀ x c, X.env.cells.lookup x = some c → c ≠ b) ∧ ∀ p ∈ X.pn ++ pins, p.1 ≠ b) : Inv X pins σ H' s' := by
 obtain ⟨h', g', d', t', o'⟩ := s'
 have e : o' = s.os := ho
 subst e
 exact I.call (g' := g') (t' := t') (d' := d') u hok hg hch
end
noncomputable abbrev XK := Value → Option Addr → Hp → Prop
noncomputable abbrev St := List (Option V)
noncomputable abbrev VK := V → Hp → Prop
noncomputable abbrev TE := St → Hp → VK → Prop
noncomputable abbrev TT := St → Hp → (Bool → Hp → Prop) → Prop
noncomputable abbrev TA := St → Hp → (List V → Hp → Prop) → Prop
structure Ends where
 nx : St → Hp → Prop
 rt : VK
 bk : St → Hp → Prop := fun _ _ => False
 ct : St → Hp → Prop := fun _ _ => False
noncomputable abbrev TS := Ends → St → Hp → Prop
noncomputable def EP (X : Cx) (pins : List (Addr × Obj)) (σ : St) (Q : VK) (u : Value) (s' : Shared) : Prop := ∃ v H', Inv X pins σ H' s' ∧ RelV v u ∧ Q v H'
noncomputable def TP (X : Cx) (pins : List (Addr × Obj)) (σ : St) (Q : Bool → Hp → Prop) (b : Bool) (s' : Shared) : Prop := ∃ H', Inv X pins σ H' s' ∧ Q b H'
noncomputable def AP (X : Cx) (pins : List (Addr × Obj)) (σ : St) (Q : List V → Hp → Prop) (us : List Value) (s' : Shared) : Prop := ∃ vs H', Inv X pins σ H' s' ∧ Vals vs us ∧ Q vs H'
noncomputable def SP (X : Cx) (pins : List (Addr × Obj)) (D : Ends) (f : Flow) (s' : Shared) : Prop :=
 match f with
 | .next => ∃ σ' H', Inv X pins σ' H' s' ∧ D.nx σ' H'
 | .brk => ∃ σ' H', Inv X pins σ' H' s' ∧ D.bk σ' H'
 | .cont => ∃ σ' H', Inv X pins σ' H' s' ∧ D.ct σ' H'
 | .ret u => ∃ v σ' H', Inv X pins σ' H' s' ∧ RelV v u ∧ D.rt v H'
noncomputable def PE (X : Cx) (e : Expr) (t : TE) : Prop :=
 ∀ (pins : List (Addr × Obj)) (s : Shared) (σ : St) (H : Hp) (Q : VK), Inv X pins σ H s → t σ H Q → wpAny (model X.prog X.w) X.A (eval e X.env) (EP X pins σ Q) X.xe s
noncomputable def PT (X : Cx) (e : Expr) (t : TT) : Prop :=
 ∀ (pins : List (Addr × Obj)) (s : Shared) (σ : St) (H : Hp) (Q : Bool → Hp → Prop), Inv X pins σ H s → t σ H Q → wpAny (model X.prog X.w) X.A (isTrue e X.env (eval e X.env)) (TP X pins σ Q) X.xe s
noncomputable def PW (X : Cx) (e : Expr) (t : TT) : Prop :=
 ∀ (whole : Sem Value) (pins : List (Addr × Obj)) (s : Shared) (σ : St) (H : Hp) (Q : Bool → Hp → Prop), Inv X pins σ H s → t σ H Q → wpAny (model X.prog X.w) X.A (isTrue e X.env whole) (TP X pins σ Q) X.xe s
theorem PW.pt {X : Cx} {e : Expr} {t : TT} (h : PW X e t) : PT X e t := h _
noncomputable def PA (X : Cx) (es : List Expr) (t : TA) : Prop :=
 ∀ (pos : Pos) (pins : List (Addr × Obj)) (s : Shared) (σ : St) (H : Hp) (Q : List V → Hp → Prop), Inv X pins σ H s → t σ H Q → wpAny (model X.prog X.w) X.A (spliced (backTo pos (starEach es X.env))) (AP X pins σ Q) X.xe s
noncomputable def PS (X : Cx) (st : Stmt) (t : TS) : Prop :=
 ∀ (pins : List (Addr × Obj)) (s : Shared) (σ : St) (H : Hp) (D : Ends), Inv X pins σ H s → t D σ H → wpAny (model X.prog X.w) X.A (exec st X.env) (SP X pins D) X.xe s
noncomputable def PSs (X : Cx) (st : List Stmt) (t : TS) : Prop :=
 ∀ (pins : List (Addr × Obj)) (s : Shared) (σ : St) (H : Hp) (D : Ends), Inv X pins σ H s → t D σ H → wpAny (model X.prog X.w) X.A (execs st X.env) (SP X pins D) X.xe s
theorem thn {α : Type} {t : Sem α} {Q Q' : α → Shared → Prop} {M : Model} {A : Around} {E : Value → Shared → Prop} {s : Shared} (h : wpAny M A t Q E s) (hQ : ∀ a s, Q a s → Q' a s) : wpAny M A t Q' E s := wpAny_mono h hQ fun _ _ x => x
end L2
namespace L2
open PySem PySem.Spec PyProof.Rows
section
variable {X : Cx}
noncomputable def tVar (i : Nat) : TE := fun σ H Q => ∃ v, σ[i]? = some (some v) ∧ Q v H
noncomputable def tC (v : V) : TE := fun _ H Q => Q v H
theorem pe_var {i : Nat} {x : Str} {pos : Pos} (hN : X.N[i]? = some x) (hv : Vis X.env.scope x) (hd : (x == ("__debug__" : Str)) = false := by decide) (hcd : (x == ("__classdict__" : Str)) = false := by decide) : PE X (.Name x pos) (tVar i) := by
 intro pins s σ H Q I h
 obtain ⟨v, e, h⟩ := h
 obtain ⟨m, hn, hl⟩ := I.loc
 obtain ⟨u, r, l⟩ := hl i x v hN e hv
 have fin : EP X pins σ Q u s := ⟨v, H, I, r, h⟩
 rcases l with ⟨hk, hm⟩ | ⟨hk, c, hc, hcell⟩
 ·exact wpAny_Name (wpAny_loadName_local I.ok.kind hk hn hm fin) hd
 ·rcases hk with hk | hk
  ·exact wpAny_Name (wpAny_loadName_cell I.ok.kind hk hc hcell fin) hd
  ·exact wpAny_Name (wpAny_loadName_free I.ok.kind hk hc hcell fin hcd) hd
theorem pe_int {i j pos} : PE X (.Constant (.int i) j pos) (tC (.int i)) := fun _ _ _ H _ I h => wpAny_Constant_int ⟨.int i, H, I.tok _, ⟨_, rfl⟩, h⟩
theorem pe_bl {b j pos} : PE X (.Constant (.bool b) j pos) (tC (.bl b)) := fun _ _ _ H _ I h => Constant_bool ⟨.bl b, H, I, rfl, h⟩
theorem pe_non {j pos} : PE X (.Constant .none j pos) (tC .non) := fun _ _ _ H _ I h => Constant_none ⟨.non, H, I, rfl, h⟩
theorem pe_str {x j pos} : PE X (.Constant (.str x) j pos) (tC (.str x)) := fun _ _ _ H _ I h => Calls.Constant_str ⟨.str x, H, I.tok _, ⟨_, rfl⟩, h⟩
noncomputable def Gl (X : Cx) (x : Str) : Prop := X.env.kindOf x = some .globalImplicit
theorem ld_glob {E : Value → Shared → Prop} {pins : List (Addr × Obj)} {s : Shared} {σ : St} {H : Hp} {x : Str} {u : Value} {pos : Pos} {Q : Value → Shared → Prop} (I : Inv X pins σ H s) (hg : Gl X x) (hm : X.mg x = some u) (h : Q u s)
  (hd : (x == ("__debug__" : Str)) = false := by decide) : wpAny (model X.prog X.w) X.A (eval (.Name x pos) X.env) Q E s :=
 Calls.Name_function_global I.ok.kind hg (Calls.loadGlobal_global (by rw [I.ok.glob]; exact I.mod.glob.keeps I.bk) hm h) hd
theorem ld_blt {E : Value → Shared → Prop} {pins : List (Addr × Obj)} {s : Shared} {σ : St} {H : Hp} {x : Str} {u : Value} {pos : Pos} {Q : Value → Shared → Prop} (I : Inv X pins σ H s) (hg : Gl X x) (hm : X.mg x = none) (hv : bootBuiltins x = some u) (h : Q u s)
  (hn : x ≠ "__name__" := by decide) (hd : (x == ("__debug__" : Str)) = false := by decide) : wpAny (model X.prog X.w) X.A (eval (.Name x pos) X.env) Q E s := by
 obtain ⟨mb, h1, h2⟩ := I.mod.blt
 exact Calls.Name_function_global I.ok.kind hg (Calls.loadGlobal_builtin (by rw [I.ok.glob]; exact I.mod.glob.keeps I.bk) hm (by rw [I.ok.blt]; exact h1.keeps I.bk) ((h2 x hn).trans hv) h) hd
theorem pe_glob {x : Str} {v : V} {u : Value} {pos : Pos} (hg : Gl X x) (hm : X.mg x = some u) (r : RelV v u) (hd : (x == ("__debug__" : Str)) = false := by decide) : PE X (.Name x pos) (tC v) :=
 fun _ _ _ H _ I h => ld_glob I hg hm ⟨v, H, I, r, h⟩ hd
theorem pe_bltn {x : Str} {v : V} {u : Value} {pos : Pos} (hg : Gl X x) (hm : X.mg x = none) (hv : bootBuiltins x = some u) (r : RelV v u) (hn : x ≠ "__name__" := by decide) (hd : (x == ("__debug__" : Str)) = false := by decide) : PE X (.Name x pos) (tC v) :=
 fun _ _ _ H _ I h => ld_blt I hg hm hv ⟨v, H, I, r, h⟩ hn hd
variable {a b : Expr} {ta tb : TE} {pos : Pos}
theorem nobehind (b : Expr) {op : CmpOp} (h : op ≠ .In) (h2 : op ≠ .NotIn) : behindInMarks op b = false := by
 have e1 : (op == CmpOp.In) = false := by cases op <;> first | rfl | exact absurd rfl h
 have e2 : (op == CmpOp.NotIn) = false := by cases op <;> first | rfl | exact absurd rfl h2
 cases b <;> simp [behindInMarks, e1, e2]
variable {tA tB' : TT} {rest : List Expr}
theorem pw_and1 (ha : PT X a tA) : PW X (.BoolOp .And [a] pos) tA := by
 intro wh pins s σ H Q I h
 refine isTrue_and (thn (ha pins s σ H Q I h) fun c s1 e => ?_)
 cases c with
 | true => exact isTrue_and_nil e
 | false => exact e
theorem pw_or1 (ha : PT X a tA) : PW X (.BoolOp .Or [a] pos) tA := by
 intro wh pins s σ H Q I h
 refine isTrue_or (thn (ha pins s σ H Q I h) fun c s1 e => ?_)
 cases c with
 | false => exact isTrue_or_nil e
 | true => exact e
theorem pe_one {op} {t : TE} (h : PE X a t) : PE X (.BoolOp op [a] pos) t := fun pins s σ H Q I hw => BoolOp_one (h pins s σ H Q I hw)
end
end L2
namespace L2
open PySem PySem.Spec PyProof.Rows
noncomputable def SqL (K : PySem.W.Frag) (H : Hp) (a : Addr) (xs : List V) : Prop :=
 Rd H a (.lst xs) ∨
  ∃ (o : Obj) (its : Array Value) (n : Nat), K.lookup a = some o ∧ o.cls = .type "list" ∧ o.dict = none ∧ o.data = .seq its n ∧ its.size ≤ sizeLine ∧ Vals xs its.toList
noncomputable def SqT (K : PySem.W.Frag) (H : Hp) (a : Addr) (xs : List V) : Prop :=
 Rd H a (.tup xs) ∨
  ∃ (o : Obj) (its : Array Value) (n : Nat), K.lookup a = some o ∧ o.cls = .type "tuple" ∧ o.data = .seq its n ∧ its.size ≤ sizeLine ∧ Vals xs its.toList
noncomputable def absV : Value → Option V
 | .none => some .non
 | .bool b => some (.bl b)
 | .int i _ => some (.int i)
 | .str x _ => some (.str x)
 | .bytes b _ => some (.byt b)
 | .float b _ => some (.flt b)
 | .ref a => some (.ref a)
 | .type n => some (.ty n)
 | _ => none
theorem RelV.abs {x : V} {u : Value} (r : RelV x u) : absV u = some x := by
 cases x with
 | non => cases r; rfl
 | bl _ => cases r; rfl
 | int _ => obtain ⟨t, rfl⟩ := r; rfl
 | str _ => obtain ⟨t, rfl⟩ := r; rfl
 | byt _ => obtain ⟨t, rfl⟩ := r; rfl
 | flt _ => obtain ⟨t, rfl⟩ := r; rfl
 | ref _ => cases r; rfl
 | ty _ => cases r; rfl
theorem RelV.inj {x y : V} {u : Value} (r : RelV x u) (q : RelV y u) : x = y := Option.some.inj (r.abs.symm.trans q.abs)
theorem Vals.inj : ∀ {xs ys : List V} {us : List Value}, Vals xs us → Vals ys us → xs = ys
 | _, _, _, .nil, .nil => rfl
 | _, _, _, .cons r t, .cons r' t' => by rw [r.inj r', Vals.inj t t']
section
variable {X : Cx} {pins : List (Addr × Obj)} {σ : St} {H : Hp} {s : Shared} {a : Addr} {xs ys : List V}
theorem SqL.of {K : PySem.W.Frag} (h : H a = some (.lst xs)) : SqL K H a xs := .inl (.inl h)
theorem SqT.of {K : PySem.W.Frag} (h : H a = some (.tup xs)) : SqT K H a xs := .inl (.inl h)
theorem Inv.list (I : Inv X pins σ H s) (h : SqL X.K H a xs) : ∃ its : List Value, Vals xs its ∧ PlainL s.heap a its.toArray ∧ xs.length ≤ sizeLine := by
 rcases h with h | ⟨o, its, n, hk, hc, hd, hs, hz, r⟩
 ·obtain ⟨z, its, n, r, e⟩ := h.ok I.hok
  exact ⟨its, r, ⟨_, n, e, rfl, rfl, rfl⟩, z⟩
 ·refine ⟨its.toList, r, ⟨o, n, I.kIn a o hk, hc, hd, by simpa using hs⟩, ?_⟩
  have e := r.length
  simp only [Array.length_toList] at e
  omega
theorem Inv.tuple (I : Inv X pins σ H s) (h : SqT X.K H a xs) : ∃ its : List Value, Vals xs its ∧ IsTup s.heap a its.toArray ∧ xs.length ≤ sizeLine := by
 rcases h with h | ⟨o, its, n, hk, hc, hs, hz, r⟩
 ·obtain ⟨z, its, r, p⟩ := h.ok I.hok
  exact ⟨its, r, p, z⟩
 ·refine ⟨its.toList, r, ⟨o, I.kIn a o hk, hc, n, by simpa using hs⟩, ?_⟩
  have e := r.length
  simp only [Array.length_toList] at e
  omega
theorem Inv.list_inj (I : Inv X pins σ H s) (h : SqL X.K H a xs) (h' : SqL X.K H a ys) : xs = ys := by
 obtain ⟨its, r, ⟨o, n, e, _, _, d⟩, _⟩ := I.list h
 obtain ⟨its', r', ⟨o', n', e', _, _, d'⟩, _⟩ := I.list h'
 rw [e] at e'; cases e'
 rw [d] at d'
 injection d' with d1 _
 have : its = its' := by simpa using congrArg Array.toList d1
 subst this
 exact r.inj r'
theorem Inv.tuple_inj (I : Inv X pins σ H s) (h : SqT X.K H a xs) (h' : SqT X.K H a ys) : xs = ys := by
 obtain ⟨its, r, ⟨o, e, _, n, d⟩, _⟩ := I.tuple h
 obtain ⟨its', r', ⟨o', e', _, n', d'⟩, _⟩ := I.tuple h'
 rw [e] at e'; cases e'
 rw [d] at d'
 injection d' with d1 _
 have : its = its' := by simpa using congrArg Array.toList d1
 subst this
 exact r.inj r'
end
noncomputable abbrev Cx.wish (X : Cx) (E : Value → Shared → Prop) : Cx := { X with xe := E }
noncomputable abbrev Cx.nox (X : Cx) : Cx := X.wish fun _ _ => False
theorem Cx.Ok.wish {X : Cx} (ok : X.Ok) (E : Value → Shared → Prop) : (X.wish E).Ok :=
 ⟨ok.mod, ok.kind, ok.glob, ok.blt, ok.above, ok.inj, ok.has, ok.cab, ok.hd, ok.frames, ok.stk, ok.exf, ok.bs, ok.bsz, ok.noex, ok.exfs, ok.funs, ok.frf⟩
theorem Cx.Ok.unwish {X : Cx} {E : Value → Shared → Prop} (ok : (X.wish E).Ok) : X.Ok :=
 ⟨ok.mod, ok.kind, ok.glob, ok.blt, ok.above, ok.inj, ok.has, ok.cab, ok.hd, ok.frames, ok.stk, ok.exf, ok.bs, ok.bsz, ok.noex, ok.exfs, ok.funs, ok.frf⟩
section
variable {X : Cx} {pins : List (Addr × Obj)} {σ : St} {H : Hp} {s : Shared} {E : Value → Shared → Prop}
theorem Inv.wish (I : Inv X pins σ H s) (E : Value → Shared → Prop) : Inv (X.wish E) pins σ H s := ⟨I.ok.wish E, I.os, I.bare, I.base, I.loc, I.cell, I.free, I.freeC, I.pin, I.hok, I.len⟩
theorem Inv.unwish (I : Inv (X.wish E) pins σ H s) : Inv X pins σ H s := ⟨I.ok.unwish, I.os, I.bare, I.base, I.loc, I.cell, I.free, I.freeC, I.pin, I.hok, I.len⟩
theorem SP.unwish {D : Ends} {f : Flow} {s' : Shared} (h : SP (X.wish E) pins D f s') : SP X pins D f s' := by
 cases f with
 | next => obtain ⟨σ', H', I, q⟩ := h; exact ⟨σ', H', I.unwish, q⟩
 | brk => obtain ⟨σ', H', I, q⟩ := h; exact ⟨σ', H', I.unwish, q⟩
 | cont => obtain ⟨σ', H', I, q⟩ := h; exact ⟨σ', H', I.unwish, q⟩
 | ret u => obtain ⟨v, σ', H', I, r, q⟩ := h; exact ⟨v, σ', H', I.unwish, r, q⟩
theorem PSs.nox {st : List Stmt} {t : TS} (h : PSs X.nox st t) : PSs X st t := fun pins s σ H D I hw =>
 wpAny_mono (h pins s σ H D (I.wish _) hw) (fun _ _ q => q.unwish) fun _ _ z => False.elim z
end
section
variable {X : Cx} {st : Stmt} {rest : List Stmt} {t u : TS} {e : Expr} {te : TE} {pos : Pos}
noncomputable def tNext : TS := fun D σ H => D.nx σ H
noncomputable def tSeq (t u : TS) : TS := fun D σ H => t { D with nx := u D } σ H
theorem pss_nil : PSs X [] tNext := fun _ _ σ H _ I h => wpAny_execs_nil ⟨σ, H, I, h⟩
theorem pss_cons (h1 : PS X st t) (h2 : PSs X rest u) : PSs X (st :: rest) (tSeq t u) := by
 intro pins s σ H D I h
 refine wpAny_execs_cons (thn (h1 pins s σ H { D with nx := u D } I h) fun f s1 q => ?_)
 cases f with
 | next =>
  obtain ⟨σ', H', I', q⟩ := q
  exact h2 pins s1 σ' H' D I' q
 | ret v => exact q
 | brk => exact q
 | cont => exact q
theorem pss_one (h1 : PS X st t) : PSs X [st] t := by
 intro pins s σ H D I h
 refine wpAny_execs_cons (thn (h1 pins s σ H D I h) fun f s1 q => ?_)
 cases f with
 | next => exact wpAny_execs_nil q
 | ret v => exact q
 | brk => exact q
 | cont => exact q
noncomputable def tCont : TS := fun D σ H => D.ct σ H
theorem ps_continue : PS X (.Continue pos) tCont := fun _ _ σ H _ I h => wpAny_Continue ⟨σ, H, I, h⟩
theorem Inv.quiet {pins : List (Addr × Obj)} {σ : St} {H : Hp} {s : Shared} (I : Inv X pins σ H s) : interactive X.env = false := by simp [interactive, I.ok.kind]
noncomputable def tDrop (te : TE) : TS := fun D σ H => te σ H fun _ H1 => D.nx σ H1
theorem ps_expr (he : PE X e te) (hs : swapsWith e none pos.line X.env = pure false := by rfl) : PS X (.Expr e pos) (tDrop te) := by
 intro pins s σ H D I h
 exact wpAny_Expr_any (thn (he pins s σ H _ I h) fun v s1 ⟨x, H1, I1, r1, q1⟩ => ⟨σ, H1, I1, q1⟩) I.quiet hs
noncomputable def tRet (te : TE) : TS := fun D σ H => te σ H D.rt
theorem ps_ret (he : PE X e te) : PS X (.Return (some e) pos) (tRet te) := by
 intro pins s σ H D I h
 exact wpAny_Return_some (thn (he pins s σ H _ I h) fun v s1 ⟨x, H1, I1, r1, q1⟩ => ⟨x, σ, H1, I1, r1, q1⟩)
noncomputable def tIfS (c : TT) (t u : TS) : TS := fun D σ H => c σ H fun b H1 => if b = true then t D σ H1 else u D σ H1
theorem ps_if {c : Expr} {a b : List Stmt} {tc : TT} (hc : PT X c tc) (ha : PSs X a t) (hb : PSs X b u) : PS X (.If c a b pos) (tIfS tc t u) := by
 intro pins s σ H D I h
 refine wpAny_If (thn (hc pins s σ H _ I h) fun d s1 ⟨H1, I1, q1⟩ => ?_)
 cases d with
 | true => exact ha pins s1 σ H1 D I1 q1
 | false => exact hb pins s1 σ H1 D I1 q1
noncomputable def tNever : TS := fun _ _ _ => False
theorem ps_never : PS X st tNever := fun _ _ _ _ _ _ h => h.elim
end
noncomputable abbrev TG := V → St → Hp → (St → Hp → Prop) → Prop
noncomputable abbrev TGs := List V → St → Hp → (St → Hp → Prop) → Prop
noncomputable def PG (X : Cx) (target : Expr) (t : TG) : Prop :=
 ∀ (pins : List (Addr × Obj)) (s : Shared) (σ : St) (H : Hp) (v : V) (u : Value) (Q : St → Hp → Prop), Inv X pins σ H s → RelV v u → t v σ H Q →
  wpAny (model X.prog X.w) X.A (assign target X.env u) (fun _ s' => ∃ σ' H', Inv X pins σ' H' s' ∧ Q σ' H') X.xe s
noncomputable def PGs (X : Cx) (ts : List Expr) (t : TGs) : Prop :=
 ∀ (pins : List (Addr × Obj)) (s : Shared) (σ : St) (H : Hp) (vs : List V) (us : List Value) (Q : St → Hp → Prop), Inv X pins σ H s → Vals vs us → t vs σ H Q →
  wpAny (model X.prog X.w) X.A (assignInOrder ((assignEach ts X.env).map (·.2)) us) (fun _ s' => ∃ σ' H', Inv X pins σ' H' s' ∧ Q σ' H') X.xe s
noncomputable abbrev TSet := V → V → V → Hp → (Hp → Prop) → Prop
noncomputable def PSet (X : Cx) (t : TSet) : Prop :=
 ∀ (pins : List (Addr × Obj)) (s : Shared) (σ : St) (H : Hp) (o i v : V) (ov iv u : Value) (Q : Hp → Prop), Inv X pins σ H s → RelV o ov → RelV i iv → RelV v u → t o i v H Q →
  wpAny (model X.prog X.w) X.A (setItem ov iv u) (fun _ s' => ∃ H', Inv X pins σ H' s' ∧ Q H') X.xe s
section
variable {X : Cx} {pos : Pos}
noncomputable def gName (i : Nat) : TG := fun v σ H Q => Q (σ.set i (some v)) H
theorem pg_name {i : Nat} {x : Str} (hN : X.N.Nodup) (hi : X.N[i]? = some x) (hx : Loc X.env.scope x) (hf : X.fn x = true ∨ X.env.scope.names.lookup x = some .local := by first | exact .inl rfl | exact .inr rfl | assumption) : PG X (.Name x pos) (gName i) := by
 intro pins s σ H v u Q I r h
 exact wpAny_assign_Name (store_ok I hN hi hx r (fun s' I' => ⟨_, H, I', h⟩) hf)
noncomputable def gNil : TGs := fun vs σ H Q => vs = [] ∧ Q σ H
noncomputable def gCons (t : TG) (u : TGs) : TGs := fun vs σ H Q => ∃ v r, vs = v :: r ∧ t v σ H fun σ' H' => u r σ' H' Q
theorem pgs_nil : PGs X [] gNil := by
 intro pins s σ H vs us Q I r h
 obtain ⟨e, h⟩ := h
 subst e
 cases r
 exact assignInOrder_nil ⟨σ, H, I, h⟩
theorem pgs_cons {e : Expr} {es : List Expr} {t : TG} {u : TGs} (h1 : PG X e t) (h2 : PGs X es u)
  (hs : (assignEach (e :: es) X.env).map (·.2) = assign e X.env :: (assignEach es X.env).map (·.2) := by rfl) : PGs X (e :: es) (gCons t u) := by
 intro pins s σ H vs us Q I r h
 obtain ⟨v, vr, e1, h⟩ := h
 subst e1
 cases r with
 | cons r rr =>
  rw [hs]
  refine assignInOrder_cons (thn (h1 pins s σ H _ _ _ I r h) fun _ s1 ⟨σ1, H1, I1, q1⟩ => ?_)
  exact h2 pins s1 σ1 H1 _ _ Q I1 rr q1
noncomputable def gTup (K : PySem.W.Frag) (n : Nat) (t : TGs) : TG := fun v σ H Q => ∃ a xs, v = .ref a ∧ SqT K H a xs ∧ xs.length = n ∧ t xs σ H Q
theorem pg_tup {es : List Expr} {k : Nat} {t : TGs} {n : Nat} (hc : X.calm = true) (h : PGs X es t)
  (hn : (assignEach es X.env).length = n := by rfl) (hst : (assignEach es X.env).findIdx? (·.1) = none := by rfl) : PG X (.Tuple es k pos) (gTup X.K n t) := by
 intro pins s σ H v u Q I r hw
 obtain ⟨a, xs, e1, hq, hl, hw⟩ := hw
 subst e1
 cases r
 obtain ⟨its, rv, ht, hz⟩ := I.tuple hq
 refine assign_Tuple_tuple (I.ok.hd hc) ht (by simp [hn, ← hl, rv.length]) hst fun h' hx => ?_
 have I1 : Inv X pins σ H { s with heap := h' } := I.kept (t' := s.toks) fun b o e => hx b o (Nat.ne_of_lt (Heap.lt_size e)) e
 exact h pins _ σ H xs _ Q I1 (by simpa using rv) hw
noncomputable def gSub (to ti : TE) (t : TSet) : TG := fun v σ H Q => to σ H fun o H1 => ti σ H1 fun i H2 => t o i v H2 fun H3 => Q σ H3
theorem pg_sub {o i : Expr} {to ti : TE} {t : TSet} (ho : PE X o to) (hi : PE X i ti) (hs : PSet X t)
  (ha : ∀ v, assign (.Subscript o i pos) X.env v = (do
   let ov ← holding [v] (eval o X.env)
   let iv ← holding [v, ov] (eval i X.env)
   standAt pos
   holding [v, ov, iv] (setItem ov iv v)
   release [v, ov, iv] []) := by intro _; rfl) : PG X (.Subscript o i pos) (gSub to ti t) := by
 intro pins s σ H v u Q I r h
 rw [ha]
 refine wpAny_bind (wpAny_holding (thn (ho pins s σ H _ I h) fun ov s1 ⟨x, H1, I1, r1, q1⟩ => ?_))
 refine wpAny_bind (wpAny_holding (thn (hi pins s1 σ H1 _ I1 q1) fun iv s2 ⟨y, H2, I2, r2, q2⟩ => ?_))
 refine wpAny_bind (wpAny_standAt (wpAny_bind (wpAny_holding (thn (hs pins s2 σ H2 x y v ov iv u _ I2 r1 r2 r q2) fun _ s3 ⟨H3, I3, q3⟩ => ?_))))
 exact wpAny_release ⟨σ, H3, I3, q3⟩
noncomputable def tAsg (te : TE) (g : TG) : TS := fun D σ H => te σ H fun x H1 => g x σ H1 D.nx
theorem ps_asg {tg e : Expr} {te : TE} {g : TG} (he : PE X e te) (hg : PG X tg g) (hs : swapsWithSole [tg] e pos.line X.env = pure false := by rfl) (hw : swappedStores [tg] e X.env = pure none := by rfl)
  (h1 : (assignEach [tg] X.env).map (·.2) = [assign tg X.env] := by rfl) : PS X (.Assign [tg] e pos) (tAsg te g) := by
 intro pins s σ H D I h
 refine wpAny_Assign_stores (thn (he pins s σ H _ I h) fun v s1 ⟨x, H1, I1, r1, q1⟩ => ?_) hs hw
 rw [h1]
 exact thn (hg pins s1 σ H1 x v _ I1 r1 q1) fun _ s2 q => q
theorem ps_set {i : Nat} {x : Str} {e : Expr} {te : TE} {pos' : Pos} (hN : X.N.Nodup) (hi : X.N[i]? = some x) (hx : Loc X.env.scope x) (he : PE X e te) (hs : swapsWith e (some (.Name x pos')) pos.line X.env = pure false := by rfl) (hf : X.fn x = true ∨ X.env.scope.names.lookup x = some .local := by first | exact .inl rfl | exact .inr rfl | assumption) :
  PS X (.Assign [.Name x pos'] e pos) (tAsg te (gName i)) := by
 intro pins s σ H D I h
 refine wpAny_Assign_Name (thn (he pins s σ H _ I h) fun v s1 ⟨y, H1, I1, r1, q1⟩ => ?_) hs
 exact store_ok I1 hN hi hx r1 (fun s2 I2 => ⟨_, H1, I2, q1⟩) hf
end
section
variable {X : Cx} {pos : Pos}
noncomputable def tWhile (c : TT) (tb : TS) : TS := fun D σ H => ∃ W : Nat → St → Hp → Prop, (∃ m, W m σ H) ∧ ∀ m σ H, W m σ H →
 c σ H fun b H1 => if b = true then ∃ N : St → Hp → Prop, (∀ σ' H', N σ' H' → ∃ m', m' < m ∧ W m' σ' H') ∧ tb { D with nx := N, ct := N, bk := D.nx } σ H1 else D.nx σ H1
theorem ps_while {c : Expr} {body : List Stmt} {tc : TT} {tb : TS} (hp : PassesOwn (model X.prog X.w) X.A X.env X.xe) (hc : PT X c tc) (hb : PSs X body tb) : PS X (.While c body [] pos) (tWhile tc tb) := by
 intro pins s σ H D I h
 obtain ⟨W, ⟨m0, w0⟩, turn⟩ := h
 refine wpAny_While (codeAny_whileLoop (fun n s' => ∃ σ' H', Inv X pins σ' H' s' ∧ W n σ' H') ?_ m0 ⟨σ, H, I, w0⟩)
 rintro n s1 ⟨σ1, H1, I1, w1⟩
 refine wpAny_passesOwn hp (thn (hc pins s1 σ1 H1 _ I1 (turn n σ1 H1 w1)) fun b s2 ⟨H2, I2, q2⟩ => ?_)
 cases b with
 | true =>
  obtain ⟨N, hN, q2⟩ := q2
  rw [if_pos rfl]
  refine wpAny_passesOwn hp (thn (hb pins s2 σ1 H2 _ I2 q2) fun f s3 q3 => ?_)
  cases f with
  | next =>
   obtain ⟨σ3, H3, I3, n3⟩ := q3
   obtain ⟨m', hm, w3⟩ := hN σ3 H3 n3
   exact ⟨m', hm, σ3, H3, I3, w3⟩
  | cont =>
   obtain ⟨σ3, H3, I3, n3⟩ := q3
   obtain ⟨m', hm, w3⟩ := hN σ3 H3 n3
   exact ⟨m', hm, σ3, H3, I3, w3⟩
  | brk => exact q3
  | ret v => exact q3
 | false =>
  rw [if_neg Bool.false_ne_true]
  exact wpAny_execs_nil ⟨σ1, H2, I2, q2⟩
end
structure It where
 go : Nat → Hp → Prop
 yld : Nat → Hp → V → Hp → Prop
 stop : Nat → Hp → Prop
noncomputable def FpOk (X : Cx) (pins : List (Addr × Obj)) (H : Hp) (b : Addr) : Prop :=
 H b = none ∧ b ≠ X.env.locals ∧ b ∉ X.fs ∧ (b ∈ X.ex ∨ X.s₀.heap.objs.size ≤ b) ∧ (∀ x c, X.env.cells.lookup x = some c → c ≠ b) ∧ ∀ p ∈ X.pn ++ pins, p.1 ≠ b
theorem Inv.fpOk {X : Cx} {pins : List (Addr × Obj)} {σ : St} {H H' : Hp} {s : Shared} {b : Addr} (I : Inv X pins σ H s) (hb : s.heap.objs.size ≤ b) (hn : H' b = none) : FpOk X pins H' b := by
 refine ⟨hn, Nat.ne_of_gt (Nat.lt_of_lt_of_le I.lt hb), I.nofs hb, .inr (Nat.le_trans I.sz hb), fun x c e z => ?_, fun p hp z => ?_⟩
 ·obtain ⟨v, q⟩ := I.cell x c e
  exact absurd (Nat.lt_of_lt_of_le q.lt (by rw [z]; exact hb)) (Nat.lt_irrefl _)
 ·exact absurd (Nat.lt_of_lt_of_le (Heap.lt_size (I.pin p hp).1) (by rw [z]; exact hb)) (Nat.lt_irrefl _)
structure Turn (P : Program) (w : World) (K : PySem.W.Frag) (tg : Expr) (J : It) (fp : List Addr) (it : Addr) (tn : Nat → Heap → Prop) : Prop where
 mem : it ∈ fp
 obj : ∀ i h, tn i h → ∀ b ∈ fp, ∃ o, h.get? b = some o ∧ ∀ v, o.data ≠ .cell v
 keep : ∀ i h h', tn i h → (∀ b ∈ fp, ∀ o, h.get? b = some o → h'.get? b = some o) → tn i h'
 item : ∀ (X : Cx), X.prog = P → X.w = w → X.K = K → X.calm = true → ∀ (i : Nat) (pins : List (Addr × Obj)) (s : Shared) (σ : St) (H : Hp) (E : Value → Shared → Prop), Inv X pins σ H s → (∀ b ∈ fp, FpOk X pins H b) → tn i s.heap → J.go i H →
  wpAny (model P w) X.A (pyNext (.ref it)) (fun r s1 => ∃ u, r = some u ∧
   wpAny (model P w) X.A (letOwnedTupleGo tg (.ref it) u) (fun _ s2 => ∃ x H', Inv X pins σ H' s2 ∧ RelV x u ∧ J.yld i H x H' ∧ tn (i + 1) s2.heap ∧ ∀ b ∈ fp, H' b = none) E s1) E s
 done : ∀ (X : Cx), X.prog = P → X.w = w → X.K = K → X.calm = true → ∀ (i : Nat) (pins : List (Addr × Obj)) (s : Shared) (σ : St) (H : Hp) (E : Value → Shared → Prop), Inv X pins σ H s → (∀ b ∈ fp, FpOk X pins H b) → tn i s.heap → J.stop i H →
  wpAny (model P w) X.A (pyNext (.ref it)) (fun r s1 => r = none ∧ Inv X pins σ H s1) E s
 self : ∀ (A : Around) (i : Nat) (s : Shared) (Q : Value → Shared → Prop) (E : Value → Shared → Prop), tn i s.heap → Q (.ref it) s → wpAny (model P w) A (pyIter (.ref it)) Q E s
noncomputable abbrev TI := St → Hp → (It → Hp → Prop) → Prop
noncomputable def PIE (X : Cx) (pins : List (Addr × Obj)) (σ : St) (tg : Expr) (R : It → Hp → Prop) (itv : Value) (s2 : Shared) : Prop :=
 ∃ (it : Addr) (fp : List Addr) (tn : Nat → Heap → Prop) (J : It) (H' : Hp), itv = .ref it ∧ Inv X pins σ H' s2 ∧ Turn X.prog X.w X.K tg J fp it tn ∧ tn 0 s2.heap ∧ (∀ b ∈ fp, FpOk X pins H' b) ∧ R J H'
noncomputable def PI (X : Cx) (tg iter : Expr) (wi : TI) : Prop :=
 ∀ (pins : List (Addr × Obj)) (s : Shared) (σ : St) (H : Hp) (R : It → Hp → Prop), Inv X pins σ H s → wi σ H R →
  wpAny (model X.prog X.w) X.A (eval iter X.env) (fun v s1 => wpAny (model X.prog X.w) X.A (pyIter v) (PIE X pins σ tg R) X.xe s1) X.xe s
theorem go_of {M : Model} {A : Around} {E : Value → Shared → Prop} {s : Shared} {tg : Expr} {it : Addr} {u : Value} {o : Obj} {n : String} {vs : Array Value} {Q : Unit → Shared → Prop} (ho : s.heap.get? it = some o) (hc : o.cls = .type n) (hd : o.data = .fields vs)
  (hn : ["enumerate", "zip", "dict_itemiterator", "dict_reverseitemiterator", "odict_iterator", "itertools.zip_longest", "itertools.pairwise"].contains n = false) (hQ : Q () s) : wpAny M A (letOwnedTupleGo tg (.ref it) u) Q E s := by
 unfold letOwnedTupleGo
 cases tg <;> first
  | exact wpAny_pure hQ
  | (cases u <;> first
      | exact wpAny_pure hQ
      | (refine wpAny_bind (wpAny_load ho ?_)
         rw [hc, hd]
         show wpAny M A (if (["enumerate", "zip", "dict_itemiterator", "dict_reverseitemiterator", "odict_iterator", "itertools.zip_longest", "itertools.pairwise"].contains n && vs[0]? == some (rawInt _)) = true then _ else _) Q E s
         rw [if_neg (by intro h; rw [hn, Bool.false_and] at h; cases h)]
         exact wpAny_pure hQ))
noncomputable def Itl (K : PySem.W.Frag) (a : Addr) : It :=
 ⟨fun i H => ∃ xs x, SqL K H a xs ∧ xs[i]? = some x, fun i H x H' => H' = H ∧ ∀ xs, SqL K H a xs → xs[i]? = some x, fun i H => ∃ xs, SqL K H a xs ∧ xs.length ≤ i⟩
noncomputable def Itt (K : PySem.W.Frag) (a : Addr) : It :=
 ⟨fun i H => ∃ xs x, SqT K H a xs ∧ xs[i]? = some x, fun i H x H' => H' = H ∧ ∀ xs, SqT K H a xs → xs[i]? = some x, fun i H => ∃ xs, SqT K H a xs ∧ xs.length ≤ i⟩
noncomputable def Itr (lo : Int) (n : Nat) : It := ⟨fun i _ => i < n, fun i H x H' => H' = H ∧ x = .int (lo + i), fun i _ => n ≤ i⟩
theorem turn_list {P : Program} {w : World} {K : PySem.W.Frag} {tg : Expr} (a it : Addr) : Turn P w K tg (Itl K a) [it] it (fun i h => h.IsListIter it a i) where
 mem := by simp
 obj := fun i h st b hb => by
  have e : b = it := by simpa using hb
  subst e
  obtain ⟨o, e, c, d⟩ := st
  exact ⟨o, e, fun v z => by rw [d] at z; cases z⟩
 keep := fun i h h' st k => st.at fun o e => k it (by simp) o e
 item := by
  intro X hP hw hK hc i pins s σ H E I hf st hg
  subst hP hw hK
  obtain ⟨xs, x, hq, hx⟩ := hg
  obtain ⟨its, rv, p, hz⟩ := I.list hq
  obtain ⟨u, hu, ru⟩ := rv.get hx
  obtain ⟨f0, f1, f2, f3, f4, f5⟩ := hf it (by simp)
  refine wpAny_pyNext_list_item st p.isList (x := u) (by simpa using hu) fun h' st' sb => ?_
  have I1 : Inv X pins σ H { s with heap := h' } := I.turned (t' := s.toks) (fun b o hb e => (sb.2 b hb).trans e) f0 f1 f3 f4 f5
  obtain ⟨o, e, c, d⟩ := id st'
  exact ⟨u, rfl, go_of (s := { s with heap := h' }) e c d (by decide) ⟨x, H, I1, ru, ⟨rfl, fun ys hy => by rw [I.list_inj hy hq]; exact hx⟩, st', fun b hb => (hf b hb).1⟩⟩
 done := by
  intro X hP hw hK hc i pins s σ H E I hf st hg
  subst hP hw hK
  obtain ⟨xs, hq, hx⟩ := hg
  obtain ⟨its, rv, p, hz⟩ := I.list hq
  obtain ⟨f0, f1, f2, f3, f4, f5⟩ := hf it (by simp)
  have hl := rv.length
  exact wpAny_pyNext_list_end (I.ok.hd hc) st p.isList (by simp; omega) fun h' eb => ⟨rfl, I.turned (t' := s.toks) (fun b o hb e => eb b o hb e) f0 f1 f3 f4 f5⟩
 self := fun _ _ _ _ _ st h => wpAny_pyIter_listiter st h
theorem turn_tuple {P : Program} {w : World} {K : PySem.W.Frag} {tg : Expr} (a it : Addr) : Turn P w K tg (Itt K a) [it] it (fun i h => h.IsTupleIter it a i) where
 mem := by simp
 obj := fun i h st b hb => by
  have e : b = it := by simpa using hb
  subst e
  obtain ⟨o, e, c, d⟩ := st
  exact ⟨o, e, fun v z => by rw [d] at z; cases z⟩
 keep := fun i h h' st k => st.at fun o e => k it (by simp) o e
 item := by
  intro X hP hw hK hc i pins s σ H E I hf st hg
  subst hP hw hK
  obtain ⟨xs, x, hq, hx⟩ := hg
  obtain ⟨its, rv, p, hz⟩ := I.tuple hq
  obtain ⟨u, hu, ru⟩ := rv.get hx
  obtain ⟨f0, f1, f2, f3, f4, f5⟩ := hf it (by simp)
  refine wpAny_pyNext_tuple_item st (show s.heap.IsTuple a its.toArray from p) (x := u) (by simpa using hu) fun h' st' sb => ?_
  have I1 : Inv X pins σ H { s with heap := h' } := I.turned (t' := s.toks) (fun b o hb e => (sb.2 b hb).trans e) f0 f1 f3 f4 f5
  obtain ⟨o, e, c, d⟩ := id st'
  exact ⟨u, rfl, go_of (s := { s with heap := h' }) e c d (by decide) ⟨x, H, I1, ru, ⟨rfl, fun ys hy => by rw [I.tuple_inj hy hq]; exact hx⟩, st', fun b hb => (hf b hb).1⟩⟩
 done := by
  intro X hP hw hK hc i pins s σ H E I hf st hg
  subst hP hw hK
  obtain ⟨xs, hq, hx⟩ := hg
  obtain ⟨its, rv, p, hz⟩ := I.tuple hq
  obtain ⟨f0, f1, f2, f3, f4, f5⟩ := hf it (by simp)
  have hl := rv.length
  exact wpAny_pyNext_tuple_end (I.ok.hd hc) st (show s.heap.IsTuple a its.toArray from p) (by simp; omega) fun h' eb => ⟨rfl, I.turned (t' := s.toks) (fun b o hb e => eb b o hb e) f0 f1 f3 f4 f5⟩
 self := fun _ _ _ _ _ st h => wpAny_pyIter_tupleiter st h
theorem turn_range {P : Program} {w : World} {K : PySem.W.Frag} {tg : Expr} (it : Addr) (lo : Int) (n : Nat) : Turn P w K tg (Itr lo n) [it] it (fun i h => IsRangeIter h it (lo + (i : Nat) * 1) ((n : Int) - (i : Nat)) 1) where
 mem := by simp
 obj := fun i h st b hb => by
  have e : b = it := by simpa using hb
  subst e
  exact ⟨_, st, fun v z => by
   have z' : Data.fields _ = Data.cell v := z
   cases z'⟩
 keep := fun i h h' st k => k it (by simp) _ st
 item := by
  intro X hP hw hK hc i pins s σ H E I hf st hg
  subst hP hw hK
  obtain ⟨f0, f1, f2, f3, f4, f5⟩ := hf it (by simp)
  have W := Walks.range (prog := X.prog) (w := X.w) (I.ok.hd hc) it lo 1 n
  refine W.item i s _ _ hg st fun v h' tk hv st' kk => ?_
  obtain ⟨t, rfl⟩ := hv
  have I1 : Inv X pins σ H { s with heap := h', toks := tk } := I.turned (fun b o hb e => kk b o (by simpa using hb) e) f0 f1 f3 f4 f5
  refine ⟨_, rfl, go_of (s := { s with heap := h', toks := tk }) (n := "range_iterator") st' rfl rfl (by decide) ⟨.int (lo + i), H, I1, ⟨t, ?_⟩, ⟨rfl, rfl⟩, st', fun b hb => (hf b hb).1⟩⟩
  rw [Int.mul_one]
 done := by
  intro X hP hw hK hc i pins s σ H E I hf st hg
  subst hP hw hK
  obtain ⟨f0, f1, f2, f3, f4, f5⟩ := hf it (by simp)
  exact wpAny_pyNext_range_end (I.ok.hd hc) st (by have : n ≤ i := hg; omega) fun h' eb => ⟨rfl, I.turned (t' := s.toks) (fun b o hb e => eb b o hb e) f0 f1 f3 f4 f5⟩
 self := fun _ _ _ _ _ st h => wpAny_pyIter_rangeiter st h
end L2
namespace L2
open PySem PySem.Spec PyProof.Rows
section
variable {X : Cx} {tg : Expr}
theorem range_it {pins : List (Addr × Obj)} {σ : St} {H : Hp} {s : Shared} {R : It → Hp → Prop} {E : Value → Shared → Prop} {lo hi : Int} {t u v : Tok} {tk : Nat} (I : Inv X pins σ H s) (h1 : -(2 ^ 62) ≤ lo) (h2 : lo < 2 ^ 62) (h3 : -(2 ^ 62) ≤ hi) (h4 : hi < 2 ^ 62)
  (q : R (Itr lo (hi - lo).toNat) H) : wpAny (model X.prog X.w) X.A (pyIter (.ref s.heap.objs.size)) (PIE X pins σ tg R) E { s with heap := s.heap.push { cls := .type "range", data := .fields #[.int lo t, .int hi u, .int 1 v] }, toks := tk } := by
 refine wpAny_pyIter_range (IsRange.new ..) (small_one h1 h2 h3 h4) ?_
 have I1 : Inv X pins σ H { s with heap := s.heap.push { cls := .type "range", data := .fields #[.int lo t, .int hi u, .int 1 v] }, toks := tk } := I.kept fun b o e => Heap.get?_push_of_some _ e
 refine ⟨(s.heap.push { cls := .type "range", data := .fields #[.int lo t, .int hi u, .int 1 v] }).objs.size, [(s.heap.push { cls := .type "range", data := .fields #[.int lo t, .int hi u, .int 1 v] }).objs.size], _, _, H, rfl,
  I1.kept (t' := tk) fun b o e => Heap.get?_push_of_some _ e, turn_range _ lo (hi - lo).toNat, ?_, fun b hb => ?_, q⟩
 ·have e1 : lo + ((0 : Nat) : Int) * 1 = lo := by simp
  have e2 : (((hi - lo).toNat : Nat) : Int) - ((0 : Nat) : Int) = Builtin.Range.rangeSize lo hi 1 := by rw [rangeSize_one]; split <;> omega
  show IsRangeIter _ _ (lo + ((0 : Nat) : Int) * 1) ((((hi - lo).toNat : Nat) : Int) - ((0 : Nat) : Int)) 1
  rw [e1, e2]
  exact Heap.get?_push_size _ rfl
 ·have e : b = (s.heap.push { cls := .type "range", data := .fields #[.int lo t, .int hi u, .int 1 v] }).objs.size := by simpa using hb
  subst e
  exact I1.fpOk (Nat.le_refl _) (I1.hok.fresh (Nat.le_refl _))
noncomputable def iRng1 (ta : TA) : TI := fun σ H R => ta σ H fun vs H1 => ∃ j : Int, vs = [.int j] ∧ -(2 ^ 62) ≤ j ∧ j < 2 ^ 62 ∧ R (Itr 0 j.toNat) H1
theorem pi_range1 {a : Expr} {ta : TA} {p pos : Pos} (hg : Gl X "range") (hm : X.mg "range" = none) (ha : PA X [a] ta) (hs : starEach [a] X.env = [(false, eval a X.env)] := by rfl) : PI X tg (.Call (.Name "range" p) [a] [] pos) (iRng1 ta) := by
 intro pins s σ H R I h
 refine Call_ (ld_blt I hg hm boot_range (PyProof.Rows.callWith_type1 (thn (ha pos pins s σ H _ I h) fun us s1 ⟨vs, H1, I1, r1, q1⟩ => ?_) hs rfl))
 obtain ⟨j, e, q1, q2, q⟩ := q1
 subst e
 cases r1 with
 | cons r rr =>
  cases rr
  obtain ⟨t, rfl⟩ := r
  exact call_range_1 (range_it I1 (by omega) (by omega) q1 q2 (by simpa using q))
noncomputable def tFor (wi : TI) (g : TG) (tb : TS) : TS := fun D σ H => wi σ H fun J H1 => ∃ W : Nat → Nat → St → Hp → Prop, (∃ m, W 0 m σ H1) ∧ ∀ i m σ H, W i m σ H →
 (J.stop i H ∧ D.nx σ H) ∨ (J.go i H ∧ ∃ N : St → Hp → Prop, (∀ σ' H', N σ' H' → ∃ m', m' < m ∧ W (i + 1) m' σ' H') ∧ ∀ x H', J.yld i H x H' → g x σ H' fun σ2 H2 => tb { D with nx := N, ct := N, bk := D.nx } σ2 H2)
noncomputable def pinsAt (fp : List Addr) (h : Heap) : List (Addr × Obj) := fp.filterMap fun b => (h.get? b).map fun o => (b, o)
theorem mem_pinsAt {fp : List Addr} {h : Heap} {b : Addr} {o : Obj} (hb : b ∈ fp) (e : h.get? b = some o) : (b, o) ∈ pinsAt fp h := List.mem_filterMap.mpr ⟨b, hb, by rw [e]; rfl⟩
theorem of_pinsAt {fp : List Addr} {h : Heap} {p : Addr × Obj} (hp : p ∈ pinsAt fp h) : p.1 ∈ fp ∧ h.get? p.1 = some p.2 := by
 obtain ⟨b, hb, e⟩ := List.mem_filterMap.mp hp
 cases q : h.get? b with
 | none => rw [q] at e; cases e
 | some o =>
  rw [q] at e
  have e' : (b, o) = p := Option.some.inj e
  subst e'
  exact ⟨hb, q⟩
theorem Inv.pinned {pins : List (Addr × Obj)} {σ : St} {H : Hp} {s : Shared} {fp : List Addr} (I : Inv X pins σ H s) (hf : ∀ b ∈ fp, FpOk X pins H b) (ho : ∀ b ∈ fp, ∃ o, s.heap.get? b = some o ∧ ∀ v, o.data ≠ .cell v) : Inv X (pins ++ pinsAt fp s.heap) σ H s :=
 I.pins_of fun p hp => (List.mem_append.mp hp).elim (fun z => I.pin p (List.mem_append_right _ z)) fun z => by
  obtain ⟨hb, e⟩ := of_pinsAt z
  obtain ⟨f0, f1, f2, _⟩ := hf p.1 hb
  obtain ⟨o, e', d⟩ := ho p.1 hb
  rw [e] at e'; cases e'
  exact ⟨e, f0, f1, f2, d⟩
theorem Inv.unpinned {pins pl : List (Addr × Obj)} {σ : St} {H : Hp} {s : Shared} (I : Inv X (pins ++ pl) σ H s) : Inv X pins σ H s := I.pins_of fun p hp => I.pin p (List.mem_append_right _ (List.mem_append_left _ hp))
theorem ps_for {iter : Expr} {body : List Stmt} {wi : TI} {g : TG} {tb : TS} {pos : Pos} (hp : PassesOwn (model X.prog X.w) X.A X.env X.xe) (hc : X.calm = true) (hi : PI X tg iter wi) (hg : PG X tg g) (hb : PSs X body tb)
  (hs : ∀ x, foldedSetIterable iter X.env x = pure x := by intro _; rfl) : PS X (.For tg iter body [] pos) (tFor wi g tb) := by
 intro pins s σ H D I h
 refine wpAny_For (thn (hi pins s σ H _ I h) fun v s1 h1 => thn h1 fun itv s2 h2 => ?_) hs
 obtain ⟨it, fp, tn, J, H2, e, I2, T, st2, f2, W, ⟨m0, w0⟩, turn⟩ := h2
 subst e
 have stat : ∀ {H' : Hp}, (∀ b ∈ fp, H' b = none) → ∀ b ∈ fp, FpOk X pins H' b := fun hn b hb => ⟨hn b hb, (f2 b hb).2⟩
 refine codeAny_forLoop_any (fun n s' => ∃ i σ' H', Inv X pins σ' H' s' ∧ tn i s'.heap ∧ (∀ b ∈ fp, H' b = none) ∧ W i n σ' H') ?_ m0 ⟨0, σ, H2, I2, st2, fun b hb => (f2 b hb).1, w0⟩
 rintro n s3 ⟨i, σ3, H3, I3, st3, fr3, w3⟩
 rcases turn i n σ3 H3 w3 with ⟨stop, qn⟩ | ⟨go, N, hN, step⟩
 ·refine wpAny_passesOwn hp (thn (T.done X rfl rfl rfl hc i pins s3 σ3 H3 X.xe I3 (stat fr3) st3 stop) fun r s4 ⟨hr, I4⟩ => ?_)
  subst hr
  exact wpAny_execs_nil ⟨σ3, H3, I4, qn⟩
 ·refine wpAny_passesOwn hp (thn (T.item X rfl rfl rfl hc i pins s3 σ3 H3 X.xe I3 (stat fr3) st3 go) fun r s4 ⟨u, hr, h4⟩ => ?_)
  subst hr
  refine wpAny_passesOwn hp (thn h4 fun _ s5 ⟨x, H5, I5, r5, y5, st5, fr5⟩ => ?_)
  have I5' := I5.pinned (stat fr5) (T.obj _ _ st5)
  refine wpAny_passesOwn hp (thn (hg _ s5 σ3 H5 x u _ I5' r5 (step x H5 y5)) fun _ s6 ⟨σ6, H6, I6, q6⟩ => ?_)
  refine wpAny_passesOwn hp (thn (hb _ s6 σ6 H6 _ I6 q6) fun f s7 q7 => ?_)
  have again : ∀ {σ7 : St} {H7 : Hp}, Inv X (pins ++ pinsAt fp s5.heap) σ7 H7 s7 → N σ7 H7 → ∃ m, m < n ∧ ∃ i σ' H', Inv X pins σ' H' s7 ∧ tn i s7.heap ∧ (∀ b ∈ fp, H' b = none) ∧ W i m σ' H' := fun {σ7 H7} I7 n7 => by
   obtain ⟨m', hm, w7⟩ := hN σ7 H7 n7
   refine ⟨m', hm, i + 1, σ7, H7, I7.unpinned, T.keep _ _ _ st5 fun b hb o e => (I7.pin (b, o) (List.mem_append_right _ (List.mem_append_right _ (mem_pinsAt hb e)))).1, fun b hb => ?_, w7⟩
   obtain ⟨o, e, d⟩ := T.obj _ _ st5 b hb
   exact (I7.pin (b, o) (List.mem_append_right _ (List.mem_append_right _ (mem_pinsAt hb e)))).2.1
  cases f with
  | next => obtain ⟨σ7, H7, I7, n7⟩ := q7; exact again I7 n7
  | cont => obtain ⟨σ7, H7, I7, n7⟩ := q7; exact again I7 n7
  | brk => obtain ⟨σ7, H7, I7, q7⟩ := q7; exact ⟨σ7, H7, I7.unpinned, q7⟩
  | ret v => obtain ⟨x7, σ7, H7, I7, r7, q7⟩ := q7; exact ⟨x7, σ7, H7, I7.unpinned, r7, q7⟩
end
end L2
namespace L2
open PySem PySem.Spec PyProof.Rows
noncomputable abbrev R2 := V → V → Hp → VK → Prop
noncomputable def OpR (X : Cx) (f : Value → Value → Sem Value) (r : R2) : Prop :=
 ∀ (pins : List (Addr × Obj)) (s : Shared) (σ : St) (H : Hp) (x y : V) (v u : Value) (Q : VK), Inv X pins σ H s → RelV x v → RelV y u → r x y H Q →
  wpAny (model X.prog X.w) X.A (f v u) (EP X pins σ Q) X.xe s
noncomputable def UnR (X : Cx) (f : Value → Sem Value) (r : V → Hp → VK → Prop) : Prop :=
 ∀ (pins : List (Addr × Obj)) (s : Shared) (σ : St) (H : Hp) (x : V) (v : Value) (Q : VK), Inv X pins σ H s → RelV x v → r x H Q →
  wpAny (model X.prog X.w) X.A (f v) (EP X pins σ Q) X.xe s
noncomputable def CallR (X : Cx) (f : Value) (r : List V → Hp → VK → Prop) : Prop :=
 ∀ (pins : List (Addr × Obj)) (s : Shared) (σ : St) (H : Hp) (xs : List V) (us : List Value) (Q : VK), Inv X pins σ H s → Vals xs us → r xs H Q →
  wpAny (model X.prog X.w) X.A (call f us) (EP X pins σ Q) X.xe s
noncomputable def TruR (X : Cx) (r : V → Hp → (Bool → Hp → Prop) → Prop) : Prop :=
 ∀ (pins : List (Addr × Obj)) (s : Shared) (σ : St) (H : Hp) (x : V) (v : Value) (Q : Bool → Hp → Prop), Inv X pins σ H s → RelV x v → r x H Q →
  wpAny (model X.prog X.w) X.A (truthy v) (TP X pins σ Q) X.xe s
noncomputable def tOp (r : R2) (ta tb : TE) : TE := fun σ H Q => ta σ H fun x H1 => tb σ H1 fun y H2 => r x y H2 Q
noncomputable def tUn (r : V → Hp → VK → Prop) (ta : TE) : TE := fun σ H Q => ta σ H fun x H1 => r x H1 Q
noncomputable def rI (C : Int → Int → Prop) (g : Int → Int → V) : R2 := fun x y H Q => ∃ i j, x = .int i ∧ y = .int j ∧ C i j ∧ Q (g i j) H
noncomputable def rI0 (g : Int → Int → V) : R2 := fun x y H Q => ∃ i j, x = .int i ∧ y = .int j ∧ Q (g i j) H
noncomputable def rU (g : Int → V) : V → Hp → VK → Prop := fun x H Q => ∃ i, x = .int i ∧ Q (g i) H
section
variable {X : Cx} {a b c : Expr} {ta tb tc : TE} {pos : Pos}
theorem binT (ha : PE X a ta) (hb : PE X b tb) {pins : List (Addr × Obj)} {s : Shared} {σ : St} {H : Hp} {R : V → V → Hp → Prop} (I : Inv X pins σ H s)
  (h : ta σ H fun x H1 => tb σ H1 fun y H2 => R x y H2) {Q : Value → Shared → Prop} {f : Value → Value → Sem Value}
  (hf : ∀ v u s2 x y H2, Inv X pins σ H2 s2 → RelV x v → RelV y u → R x y H2 → wpAny (model X.prog X.w) X.A (f v u) Q X.xe s2) :
  wpAny (model X.prog X.w) X.A (eval a X.env) (fun v s₁ => wpAny (model X.prog X.w) X.A (eval b X.env) (fun u s₂ => wpAny (model X.prog X.w) X.A (f v u) Q X.xe s₂) X.xe s₁) X.xe s := by
 refine thn (ha pins s σ H _ I h) fun v s1 ⟨x, H1, I1, r1, q1⟩ => ?_
 refine thn (hb pins s1 σ H1 _ I1 q1) fun u s2 ⟨y, H2, I2, r2, q2⟩ => ?_
 exact hf v u s2 x y H2 I2 r1 r2 q2
theorem pe_un {op : UnaryOp} {r : V → Hp → VK → Prop} (ho : UnR X (unaryOp op) r) (ha : PE X a ta) : PE X (.UnaryOp op a pos) (tUn r ta) := by
 intro pins s σ H Q I h
 exact UnaryOp_ (thn (ha pins s σ H _ I h) fun v s1 ⟨x, H1, I1, r1, q1⟩ => ho pins s1 σ H1 x v Q I1 r1 q1)
theorem opI {f : Value → Value → Sem Value} {C : Int → Int → Prop} {g : Int → Int → Int}
  (rule : ∀ (i j : Int) (t u : Tok) (s : Shared) (Q : Value → Shared → Prop) (E : Value → Shared → Prop), C i j → Q (.int (g i j) s.toks) { s with toks := s.toks + 1 } → wpAny (model X.prog X.w) X.A (f (.int i t) (.int j u)) Q E s) :
  OpR X f (rI C fun i j => .int (g i j)) := by
 intro pins s σ H x y v u Q I rx ry h
 obtain ⟨i, j, rfl, rfl, hc, q⟩ := h
 obtain ⟨t, rfl⟩ := rx
 obtain ⟨t', rfl⟩ := ry
 exact rule i j t t' s _ _ hc ⟨.int (g i j), H, I.tok _, ⟨_, rfl⟩, q⟩
theorem opI0 {f : Value → Value → Sem Value} {g : Int → Int → Int}
  (rule : ∀ (i j : Int) (t u : Tok) (s : Shared) (Q : Value → Shared → Prop) (E : Value → Shared → Prop), Q (.int (g i j) s.toks) { s with toks := s.toks + 1 } → wpAny (model X.prog X.w) X.A (f (.int i t) (.int j u)) Q E s) :
  OpR X f (rI0 fun i j => .int (g i j)) := by
 intro pins s σ H x y v u Q I rx ry h
 obtain ⟨i, j, rfl, rfl, q⟩ := h
 obtain ⟨t, rfl⟩ := rx
 obtain ⟨t', rfl⟩ := ry
 exact rule i j t t' s _ _ ⟨.int (g i j), H, I.tok _, ⟨_, rfl⟩, q⟩
theorem opB0 {f : Value → Value → Sem Value} {g : Int → Int → Bool}
  (rule : ∀ (i j : Int) (t u : Tok) (s : Shared) (Q : Value → Shared → Prop) (E : Value → Shared → Prop), Q (.bool (g i j)) s → wpAny (model X.prog X.w) X.A (f (.int i t) (.int j u)) Q E s) :
  OpR X f (rI0 fun i j => .bl (g i j)) := by
 intro pins s σ H x y v u Q I rx ry h
 obtain ⟨i, j, rfl, rfl, q⟩ := h
 obtain ⟨t, rfl⟩ := rx
 obtain ⟨t', rfl⟩ := ry
 exact rule i j t t' s _ _ ⟨.bl (g i j), H, I, rfl, q⟩
noncomputable def CDiv (i j : Int) : Prop := 0 < j ∧ j < 1073741824
noncomputable def CPow (i j : Int) : Prop := 0 ≤ j ∧ j ≤ 1000000 ∧ i.natAbs < 2 ^ 64
noncomputable def CMul (i j : Int) : Prop := (-(2 ^ 64) < i ∧ i < 2 ^ 64) ∨ (-(2 ^ 64) < j ∧ j < 2 ^ 64)
theorem CMul.ok {i j : Int} (h : CMul i j) : IntMulOk i j := by
 rcases h with ⟨h1, h2⟩ | ⟨h1, h2⟩
 ·exact .of_left (intBits_le_64 h1 h2)
 ·exact .of_right (intBits_le_64 h1 h2)
theorem op_add : OpR X (binaryOp .Add) (rI0 fun i j => .int (i + j)) := opI0 fun _ _ _ _ _ _ _ q => add_int q
theorem op_sub : OpR X (binaryOp .Sub) (rI0 fun i j => .int (i - j)) := opI0 fun _ _ _ _ _ _ _ q => sub_int q
theorem op_mul : OpR X (binaryOp .Mult) (rI CMul fun i j => .int (i * j)) := opI fun _ _ _ _ _ _ _ hc q => mul_int q hc.ok
theorem op_fdiv : OpR X (binaryOp .FloorDiv) (rI CDiv fun i j => .int (i / j)) := opI fun i j _ _ _ _ _ hc q => by
 have h1 : (0 : Int) < j := hc.1
 have h2 : j < 1073741824 := hc.2
 exact floordiv_int (by omega) (by rw [Int.fdiv_eq_ediv_of_nonneg i (by omega)]; exact q) (.inl (PyProof.noPylong_small (by omega)))
theorem op_mod : OpR X (binaryOp .Mod) (rI (fun _ j => 0 < j) fun i j => .int (i % j)) := opI fun i j _ _ _ _ _ hc q => by
 have h1 : (0 : Int) < j := hc
 exact mod_int' (by omega) (by rw [Int.fmod_eq_emod_of_nonneg i (by omega)]; exact q)
theorem op_pow : OpR X (binaryOp .Pow) (rI CPow fun i j => .int (i ^ j.toNat)) := opI fun _ _ _ _ _ _ _ hc q => pow_int_small hc.1 hc.2.1 hc.2.2 q
theorem iop_add : OpR X (inplaceOp .Add) (rI0 fun i j => .int (i + j)) := opI0 fun _ _ _ _ _ _ _ q => iadd_int q
theorem unI {f : Value → Sem Value} {g : Int → Int}
  (rule : ∀ (i : Int) (t : Tok) (s : Shared) (Q : Value → Shared → Prop) (E : Value → Shared → Prop), Q (.int (g i) s.toks) { s with toks := s.toks + 1 } → wpAny (model X.prog X.w) X.A (f (.int i t)) Q E s) :
  UnR X f (rU fun i => .int (g i)) := by
 intro pins s σ H x v Q I rx h
 obtain ⟨i, rfl, q⟩ := h
 obtain ⟨t, rfl⟩ := rx
 exact rule i t s _ _ ⟨.int (g i), H, I.tok _, ⟨_, rfl⟩, q⟩
theorem un_neg : UnR X (unaryOp .USub) (rU fun i => .int (-i)) := unI fun _ _ _ _ _ q => neg_int q
end
section
variable {X : Cx} {a b c : Expr} {ta tb tc : TE} {pos : Pos}
theorem fin_bl {pins : List (Addr × Obj)} {σ : St} {H : Hp} {s : Shared} {Q : VK} {k k' : Bool} (I : Inv X pins σ H s) (q : Q (.bl k) H) (e : k = k') : EP X pins σ Q (.bool k') s := by
 subst e
 exact ⟨.bl k, H, I, rfl, q⟩
theorem op_lt : OpR X (compareOp .Lt) (rI0 fun i j => .bl (decide (i < j))) := opB0 fun _ _ _ _ _ _ _ q => lt_int q
theorem op_le : OpR X (compareOp .LtE) (rI0 fun i j => .bl (decide (i ≤ j))) := opB0 fun _ _ _ _ _ _ _ q => le_int q
theorem op_gt : OpR X (compareOp .Gt) (rI0 fun i j => .bl (decide (j < i))) := opB0 fun _ _ _ _ _ _ _ q => gt_int q
theorem op_ge : OpR X (compareOp .GtE) (rI0 fun i j => .bl (decide (j ≤ i))) := opB0 fun _ _ _ _ _ _ _ q => ge_int q
theorem op_in_str : OpR X (compareOp .In) (fun x y H Q => ∃ i j, x = .str i ∧ y = .str j ∧ Q (.bl (!(Builtin.Str.occurrences j i 0 j.length 1).isEmpty)) H) := by
 intro pins s σ H x y v u Q I rx ry h
 obtain ⟨i, j, rfl, rfl, q⟩ := h
 obtain ⟨t, rfl⟩ := rx
 obtain ⟨t', rfl⟩ := ry
 exact in_str (fin_bl I q rfl)
theorem op_isN : OpR X (compareOp .Is) (fun x y H Q => y = .non ∧ Q (.bl (decide (x = .non))) H) := by
 intro pins s σ H x y v u Q I rx ry h
 obtain ⟨rfl, q⟩ := h
 cases ry
 refine is_none_gen (fin_bl I q ?_)
 cases x <;> first
  | (cases rx; rfl)
  | (obtain ⟨t, rfl⟩ := rx; rfl)
theorem op_notN : OpR X (compareOp .IsNot) (fun x y H Q => y = .non ∧ Q (.bl (!decide (x = .non))) H) := by
 intro pins s σ H x y v u Q I rx ry h
 obtain ⟨rfl, q⟩ := h
 cases ry
 refine isnot_none_gen (fin_bl I q ?_)
 cases x <;> first
  | (cases rx; rfl)
  | (obtain ⟨t, rfl⟩ := rx; rfl)
noncomputable def TruV (K : PySem.W.Frag) (x : V) (H : Hp) (k : Bool) : Prop :=
 match x with
 | .non => k = false
 | .bl b => k = b
 | .int i => k = (i != 0)
 | .str y => y.length ≤ sizeLine ∧ k = ((y.length : Int) != 0)
 | .byt y => y.size ≤ sizeLine ∧ k = ((y.size : Int) != 0)
 | .ref p => (∃ xs, SqL K H p xs ∧ k = !xs.isEmpty) ∨ (∃ xs, SqT K H p xs ∧ k = !xs.isEmpty) ∨ ∃ kvs, H p = some (.dK kvs) ∧ k = !kvs.isEmpty
 | _ => False
theorem isEmpty_kv {κ : Type} {kvs : List (κ × V)} {vs : List (κ × Value)} (r : KV kvs vs) : (!vs.isEmpty) = !kvs.isEmpty := by
 cases r <;> rfl
theorem isEmpty_of {xs : List V} {its : List Value} (r : Vals xs its) : (!its.toArray.isEmpty) = !xs.isEmpty := by
 cases r <;> simp
theorem line63 : (sizeLine : Nat) < 2 ^ 63 := by rw [sizeLine_eq]; decide
theorem tru_ok : TruR X (fun x H Q => ∃ k, TruV X.K x H k ∧ Q k H) := by
 intro pins s σ H x v Q I rx h
 obtain ⟨k, e, q⟩ := h
 have hl := line63
 have hs : sizeLine = 16777216 := sizeLine_eq
 cases x with
 | non =>
  cases rx
  have e' : k = false := e
  subst e'
  exact truthy_none ⟨H, I, q⟩
 | bl b =>
  cases rx
  have e' : k = b := e
  subst e'
  exact wpAny_truthy_bool ⟨H, I, q⟩
 | int i =>
  obtain ⟨t, rfl⟩ := rx
  have e' : k = (i != 0) := e
  subst e'
  exact PySem.P.truthy_int ⟨H, I, q⟩
 | str y =>
  obtain ⟨t, rfl⟩ := rx
  obtain ⟨hy, e'⟩ : y.length ≤ sizeLine ∧ k = ((y.length : Int) != 0) := e
  subst e'
  exact PySem.P.truthy_str (by omega) ⟨H, I.tok _, q⟩
 | byt y =>
  obtain ⟨t, rfl⟩ := rx
  obtain ⟨hy, e'⟩ : y.size ≤ sizeLine ∧ k = ((y.size : Int) != 0) := e
  subst e'
  exact PySem.W.truthy_bytes (by omega) ⟨H, I.tok _, q⟩
 | ref p =>
  cases rx
  have e' : (∃ xs, SqL X.K H p xs ∧ k = !xs.isEmpty) ∨ (∃ xs, SqT X.K H p xs ∧ k = !xs.isEmpty) ∨ ∃ kvs, H p = some (.dK kvs) ∧ k = !kvs.isEmpty := e
  rcases e' with ⟨xs, hx, e'⟩ | ⟨xs, hx, e'⟩ | ⟨kvs, hx, e'⟩
  ·subst e'
   obtain ⟨its, r, pl, hz⟩ := I.list hx
   have hlen := r.length
   exact wpAny_truthy_list pl.isList (by simp only [List.size_toArray]; omega) ⟨H, I.tok _, by rw [isEmpty_of r]; exact q⟩
  ·subst e'
   obtain ⟨its, r, pl, hz⟩ := I.tuple hx
   have hlen := r.length
   exact truthy_tuple pl (by simp only [List.size_toArray]; omega) ⟨H, I.tok _, by rw [isEmpty_of r]; exact q⟩
  ·subst e'
   obtain ⟨hz, hS, vs, r, m⟩ : kvs.length ≤ sizeLine ∧ (p == sysModules) = false ∧ ∃ vs, KV kvs vs ∧ s.heap.DictOf (mixKind X.prog X.w) p vs := I.hok p _ hx
   have hlen : kvs.length = vs.length := Paired.length r
   exact wpAny_truthy_dict hS m (by omega) ⟨H, I.tok _, by rw [isEmpty_kv r]; exact q⟩
 | _ => exact (show False from e).elim
theorem op_add_str : OpR X (binaryOp .Add) (fun x y H Q => ∃ i j, x = .str i ∧ y = .str j ∧ i.length + j.length ≤ sizeLine ∧ Q (.str (i ++ j)) H) := by
 intro pins s σ H x y v u Q I rx ry h
 obtain ⟨i, j, rfl, rfl, hz, q⟩ := h
 obtain ⟨t, rfl⟩ := rx
 obtain ⟨t', rfl⟩ := ry
 exact add_str (fun t' tk => ⟨.str (i ++ j), H, I.tok _, ⟨_, rfl⟩, q⟩) hz
theorem iop_add_str : OpR X (inplaceOp .Add) (fun x y H Q => ∃ i j, x = .str i ∧ y = .str j ∧ i.length + j.length ≤ sizeLine ∧ Q (.str (i ++ j)) H) := by
 intro pins s σ H x y v u Q I rx ry h
 obtain ⟨i, j, rfl, rfl, hz, q⟩ := h
 obtain ⟨t, rfl⟩ := rx
 obtain ⟨t', rfl⟩ := ry
 exact iadd_str (fun t' tk => ⟨.str (i ++ j), H, I.tok _, ⟨_, rfl⟩, q⟩) hz
theorem vals1 {x : V} {us : List Value} (r : Vals [x] us) : ∃ u, us = [u] ∧ RelV x u := by
 cases r with
 | cons r1 r2 => cases r2; exact ⟨_, rfl, r1⟩
theorem vals2 {x y : V} {us : List Value} (r : Vals [x, y] us) : ∃ u w', us = [u, w'] ∧ RelV x u ∧ RelV y w' := by
 cases r with
 | cons r1 r2 =>
  cases r2 with
  | cons r3 r4 => cases r4; exact ⟨_, _, rfl, r1, r3⟩
theorem call_int1 : CallR X (.type "int") (fun xs H Q => (∃ i, xs = [.int i] ∧ Q (.int i) H) ∨ ∃ k, xs = [.bl k] ∧ Q (.int (if k then 1 else 0)) H) := by
 intro pins s σ H xs us Q I r h
 rcases h with ⟨i, rfl, q⟩ | ⟨k, rfl, q⟩
 ·obtain ⟨u, rfl, t, rfl⟩ := vals1 r
  exact call_int_int ⟨.int i, H, I, ⟨_, rfl⟩, q⟩
 ·obtain ⟨u, rfl, r1⟩ := vals1 r
  cases r1
  exact call_int_bool ⟨.int (if k then 1 else 0), H, I.tok _, ⟨_, rfl⟩, q⟩
theorem call_ord : CallR X (.builtin "ord") (fun xs H Q => ∃ x, xs = [.str x] ∧ x.length = 1 ∧ Q (.int (x.cps.getD 0 0 : Nat)) H) := by
 intro pins s σ H xs us Q I r h
 obtain ⟨x, rfl, hz, q⟩ := h
 obtain ⟨u, rfl, t, rfl⟩ := vals1 r
 exact ord_of_one hz ⟨.int _, H, I.tok _, ⟨_, rfl⟩, q⟩
noncomputable def LenV (K : PySem.W.Frag) (x : V) (H : Hp) (n : Nat) : Prop :=
 match x with
 | .str y => y.length ≤ sizeLine ∧ n = y.length
 | .byt y => y.size ≤ sizeLine ∧ n = y.size
 | .ref p => (∃ xs, SqL K H p xs ∧ n = xs.length) ∨ ∃ xs, SqT K H p xs ∧ n = xs.length
 | _ => False
theorem call_len : CallR X (.builtin "len") (fun xs H Q => ∃ x n, xs = [x] ∧ LenV X.K x H n ∧ Q (.int n) H) := by
 intro pins s σ H xs us Q I r h
 obtain ⟨x, n, rfl, e, q⟩ := h
 obtain ⟨u, rfl, rx⟩ := vals1 r
 have hl := line63
 have hs : sizeLine = 16777216 := sizeLine_eq
 cases x with
 | str y =>
  obtain ⟨t, rfl⟩ := rx
  obtain ⟨hy, e'⟩ : y.length ≤ sizeLine ∧ n = y.length := e
  subst e'
  exact len_str (by omega) ⟨.int _, H, I.tok _, ⟨_, rfl⟩, q⟩
 | byt y =>
  obtain ⟨t, rfl⟩ := rx
  obtain ⟨hy, e'⟩ : y.size ≤ sizeLine ∧ n = y.size := e
  subst e'
  exact PySem.W.len_bytes (by omega) ⟨.int _, H, I.tok _, ⟨_, rfl⟩, q⟩
 | ref p =>
  cases rx
  have e' : (∃ xs, SqL X.K H p xs ∧ n = xs.length) ∨ ∃ xs, SqT X.K H p xs ∧ n = xs.length := e
  rcases e' with ⟨xs, hx, e'⟩ | ⟨xs, hx, e'⟩
  ·subst e'
   obtain ⟨its, r', pl, hz⟩ := I.list hx
   have hlen := r'.length
   exact Calls.call_len_list pl.isList (by simp only [List.size_toArray]; omega) ⟨.int xs.length, H, I.tok _, ⟨_, by simp only [List.size_toArray]; rw [hlen]⟩, q⟩
  ·subst e'
   obtain ⟨its, r', pl, hz⟩ := I.tuple hx
   have hlen := r'.length
   exact len_tuple pl (by simp only [List.size_toArray]; omega) ⟨.int xs.length, H, I.tok _, ⟨_, by simp only [List.size_toArray]; rw [hlen]⟩, q⟩
 | _ => exact (show False from e).elim
end
end L2
namespace L2
open PySem PySem.Spec PyProof.Rows
structure ObjM (h : Heap) (x dx C : Addr) (mA : Str → Option Value) : Prop where
 obj : h.get? x = some (PySem.W.instObj C dx)
 ns : h.Ns1 dx mA
 ne : dx ≠ x
section
variable {prog : Program} {w : World} {A : Around} {E : Value → Shared → Prop} {s : Shared} {K : PySem.W.Frag} {x dx C f : Addr} {mA : Str → Option Value} {name : Str} {v : Value}
end
theorem RelO.some_of {v : V} {o : Option Value} (r : RelO (some v) o) : ∃ u, o = some u ∧ RelV v u := by
 cases o with
 | none => exact (show False from r).elim
 | some u => exact ⟨u, rfl, r⟩
section
variable {P : Program} {w : World} {H H' : Hp} {h h' : Heap} {a C dx : Addr} {fs fs' : List (Str × V)}
end
structure Cls (K : PySem.W.Frag) (C : Addr) : Prop where
 pg : PySem.W.plainGet K C Str.empty = true
 hd : PySem.W.hasDictIn K C = true
 po : PySem.W.plainOver K C = true
 sa : PySem.W.findIn K (.ref C) "__setattr__" = some (some (.builtin "object.__setattr__"))
structure Con (K : PySem.W.Frag) (C : Addr) (f : Str) (v : V) (u : Value) : Prop where
 at_ : PySem.W.findIn K (.ref C) f = some (some u)
 rel : RelV v u
 get : PySem.W.specialIn K u "__get__" = some none
 cp : PySem.W.copiedNames.contains f = false
structure Meth (K : PySem.W.Frag) (C : Addr) (m : Str) (f : Addr) : Prop where
 at_ : PySem.W.findIn K (.ref C) m = some (some (.ref f))
 fn : PySem.W.isFn K (.ref f) = true
 kp : PySem.W.keepIn K (.ref f) = true
section
variable {X : Cx} {pins : List (Addr × Obj)} {σ : St} {H : Hp} {s : Shared} {a C dx : Addr} {fs : List (Str × V)} {f : Str} {v : V} {A : Around} {E : Value → Shared → Prop}
end
section
variable {X : Cx} {o e value : Expr} {f : Str} {pos pos' tpos : Pos} {ta tv : TE}
end
section
variable {X : Cx} {pins : List (Addr × Obj)} {σ : St} {H : Hp} {s : Shared} {A : Around} {E : Value → Shared → Prop} {Q : Value → Shared → Prop} {c : Value} {b : Bool}
inductive TyOf (K : PySem.W.Frag) (H : Hp) : V → Value → Prop where
 | non : TyOf K H .non (.type "NoneType")
 | bl (x : Bool) : TyOf K H (.bl x) (.type "bool")
 | int (i : Int) : TyOf K H (.int i) (.type "int")
 | str (x : Str) : TyOf K H (.str x) (.type "str")
 | flt (x : UInt64) : TyOf K H (.flt x) (.type "float")
 | lst {a : Addr} {xs : List V} (e : H a = some (.lst xs)) : TyOf K H (.ref a) (.type "list")
 | frz {a : Addr} {o : Obj} {xs : List V} (e : H a = some (.frz o (.lst xs))) : TyOf K H (.ref a) (.type "list")
 | tup {a : Addr} {xs : List V} (e : H a = some (.tup xs)) : TyOf K H (.ref a) (.type "tuple")
 | dK {a : Addr} {kvs : List (Key × V)} (e : H a = some (.dK kvs)) : TyOf K H (.ref a) (.type "dict")
 | dT {a : Addr} {kvs : List (List Key × V)} (e : H a = some (.dT kvs)) : TyOf K H (.ref a) (.type "dict")
 | ins {a C dx : Addr} {fs : List (Str × V)} (e : H a = some (.ins C dx fs)) (cl : Cls K C) (ha : PySem.W.findIn K (.ref C) "__class__" = some (some (.builtin "object.__class__")))
   (hn : PySem.W.specialIn K (.builtin "object.__class__") "__get__" = some (some (.builtin "getset_descriptor.__get__"))) (htk : PySem.W.takesIn K (.builtin "object.__class__") = some true)
   (hm : PySem.W.mroIn K C (.type "object") = some true) : TyOf K H (.ref a) (.ref C)
end
end L2
namespace L2
open PySem PySem.Spec PyProof.Rows
structure Room (k : Nat) (A : Around) : Prop where
 hd : A.handled = none
 dp : A.depth + 3 * k + 5 < recursionLimit
 un : A.units + 16 * k + 200 < cLine
theorem Room.mono {j k : Nat} {A : Around} (r : Room k A) (h : j ≤ k) : Room j A := ⟨r.hd, by have := r.dp; omega, by have := r.un; omega⟩
theorem Room.deeper {k : Nat} {A : Around} (r : Room (k + 1) A) (env : Env) : Room k (A.deeper env) :=
 ⟨r.hd, by have := r.dp; show A.depth + 1 + 3 * k + 5 < _; omega, by have := r.un; show A.units + 3 + 16 * k + 200 < _; omega⟩
theorem Room.depth {k : Nat} {A : Around} (r : Room k A) : A.depth < recursionLimit := by have := r.dp; omega
theorem Room.units {k : Nat} {A : Around} (r : Room k A) : A.units + 64 < cLine := by have := r.un; omega
noncomputable def tNil : TA := fun _ H Q => Q [] H
noncomputable def tCons (ta : TE) (tr : TA) : TA := fun σ H Q => ta σ H fun x H1 => tr σ H1 fun xs H2 => Q (x :: xs) H2
section
variable {X : Cx} {e : Expr} {es : List Expr} {te : TE} {t : TA} {pos : Pos}
theorem pa_nil : PA X [] tNil := fun _ _ _ _ H Q I h => Calls.spliced_nil ⟨[], H, I, .nil, h⟩
theorem pa_cons (ha : PE X e te) (hr : PA X es t) (hs : starEach (e :: es) X.env = (false, eval e X.env) :: starEach es X.env := by rfl) : PA X (e :: es) (tCons te t) := by
 intro pos pins s σ H Q I h
 rw [hs]
 show wpAny _ _ (spliced ((false, eval e X.env) :: backTo pos (starEach es X.env))) _ _ s
 refine Calls.spliced_cons (thn (ha pins s σ H _ I h) fun u s1 ⟨x, H1, I1, r1, q1⟩ => ?_)
 exact thn (hr pos pins s1 σ H1 _ I1 q1) fun us s2 ⟨xs, H2, I2, r2, q2⟩ => ⟨x :: xs, H2, I2, .cons r1 r2, q2⟩
noncomputable def tTup (t : TA) : TE := fun σ H Q => t σ H fun xs H1 => xs.length ≤ sizeLine ∧ ∀ p, H1 p = none → Q (.ref p) (upd H1 p (.tup xs))
noncomputable def tLst (t : TA) : TE := fun σ H Q => t σ H fun xs H1 => xs.length ≤ sizeLine ∧ ∀ p, H1 p = none → Q (.ref p) (upd H1 p (.lst xs))
theorem pe_tup {x1} (h : PA X es t) : PE X (.Tuple es x1 pos) (tTup t) := by
 intro pins s σ H Q I hq
 refine wpAny_Tuple_spliced (thn (h pos pins s σ H _ I hq) fun us s1 ⟨xs, H1, I1, r, z, q⟩ => ⟨by rw [← r.length]; exact z, ?_⟩)
 have hf : H1 s1.heap.objs.size = none := I1.hok.fresh (Nat.le_refl _)
 refine ⟨.ref s1.heap.objs.size, upd H1 s1.heap.objs.size (.tup xs), I1.laid (t' := s1.toks) (fun b u e => Heap.get?_push_of_some _ e) (Nat.le_refl _) ?_, rfl, q _ hf⟩
 exact ⟨z, us, r, ⟨_, Heap.get?_push_size _ rfl, rfl, _, rfl⟩⟩
theorem pe_lst (h : PA X es t) : PE X (.List es pos) (tLst t) := by
 intro pins s σ H Q I hq
 refine wpAny_List_spliced (thn (h pos pins s σ H _ I hq) fun us s1 ⟨xs, H1, I1, r, z, q⟩ => ⟨by rw [← r.length]; exact z, ?_⟩)
 have hf : H1 s1.heap.objs.size = none := I1.hok.fresh (Nat.le_refl _)
 refine ⟨.ref s1.heap.objs.size, upd H1 s1.heap.objs.size (.lst xs), I1.laid (t' := s1.toks) (fun b u e => Heap.get?_push_of_some _ e) (Nat.le_refl _) ?_, rfl, q _ hf⟩
 exact ⟨z, us, 0, r, Heap.get?_push_size _ rfl⟩
end
noncomputable abbrev Sp := List V → Hp → VK → XK → Prop
noncomputable abbrev CXT := List Env → Hp → Shared → XK → Value → Shared → Prop
structure Env0 (P : Program) (w : World) (K : PySem.W.Frag) (mg : Str → Option Value) (base : Heap) (A : Around) (outer : List Env) (s : Shared) (H : Hp) : Prop where
 frames : A.frames = some outer
 mod : Mod K mg base
 bs : ∀ b o, base.get? b = some o → s.heap.get? b = some o ∧ H b = none
 bsz : base.objs.size ≤ s.heap.objs.size
 funs : s.heap.FunFrames base outer
 frf : ∀ b ∈ frs outer, H b = none
 hok : HOk P w H s.heap
 bare : AllBare s.gens
noncomputable def CE (outer : List Env) (P : Program) (w : World) (H : Hp) (s : Shared) (Q : VK) (u : Value) (s' : Shared) : Prop :=
 ∃ v H', s'.os = s.os ∧ AllBare s'.gens ∧ Un (frs outer) [] H H' s.heap s'.heap ∧ HOk P w H' s'.heap ∧ RelV v u ∧ Q v H'
noncomputable def CR (CX : CXT) (outer : List Env) (P : Program) (w : World) (H : Hp) (s : Shared) (Q : VK) (E : XK) (r : Result) (s' : Shared) : Prop :=
 match r with
 | .ok (.ret u) => CE outer P w H s Q u s'
 | .ok _ => False
 | .error e => CX outer H s E e s'
structure FnOk (P : Program) (w : World) (K : PySem.W.Frag) (mg : Str → Option Value) (base : Heap) (CX : CXT) (k : Nat) (f : Addr) (fd : FuncData) (ps : List Str) (sp : Sp) : Prop where
 len : ∀ vs H Q E, sp vs H Q E → vs.length = ps.length
 run : ∀ (A : Around) (outer : List Env) (s : Shared) (H : Hp) (args : Args) (us : List Value) (vs : List V) (Q : VK) (E : XK), Room k A → Env0 P w K mg base A outer s H → BindsTo s fd args (ps.zip us) → Vals vs us → sp vs H Q E →
  codeAny (model P w) A (.call (.ref f) args) (CR CX outer P w H s Q E) s
theorem FnOk.imp {P : Program} {w : World} {K : PySem.W.Frag} {mg : Str → Option Value} {base : Heap} {CX : CXT} {k : Nat} {f : Addr} {fd : FuncData} {ps : List Str} {sp sp' : Sp} (F : FnOk P w K mg base CX k f fd ps sp)
  (h : ∀ vs H Q E, sp' vs H Q E → sp vs H Q E) : FnOk P w K mg base CX k f fd ps sp' :=
 ⟨fun vs H Q E q => F.len vs H Q E (h _ _ _ _ q), fun A outer s H args us vs Q E hr he hb hv hs => F.run A outer s H args us vs Q E hr he hb hv (h _ _ _ _ hs)⟩
section
variable {X : Cx} {pins : List (Addr × Obj)} {σ : St} {H : Hp} {s s' : Shared}
theorem Inv.env0 (I : Inv X pins σ H s) : Env0 X.prog X.w X.K X.mg X.base X.A X.stack s H :=
 ⟨I.ok.frames, I.ok.mod, I.bs, Nat.le_trans I.ok.bsz I.sz, I.stack, I.stkFree, I.hok, I.bare⟩
theorem Inv.after {Q : VK} {u : Value} (I : Inv X pins σ H s) (h : CE X.stack X.prog X.w H s Q u s') : EP X pins σ Q u s' := by
 obtain ⟨v, H', os, bare, un, hok, r, q⟩ := h
 obtain ⟨hh, g, d, t, os'⟩ := s'
 obtain rfl : os' = s.os := os
 exact ⟨v, H', I.call (h' := hh) (g' := g) (d' := d) (t' := t) (ch := []) un hok bare (fun b z => absurd z (by simp)), r, q⟩
end
noncomputable def tCall (sp : Sp) (dvs : List V) (E : XK) (t : TA) : TE := fun σ H Q => t σ H fun vs H1 => sp (vs ++ dvs) H1 Q E
noncomputable def Binds (K : PySem.W.Frag) (fd : FuncData) (ps : List Str) (ds : List Value) : Prop :=
 ∀ (s : Shared) (us : List Value), K.In s.heap → (us ++ ds).length = ps.length → BindsTo s fd ⟨us, []⟩ (ps.zip (us ++ ds))
theorem Binds.all {K : PySem.W.Frag} {fd : FuncData} {ps : List Str} (h : ∀ us : List Value, us.length = ps.length → bindArgs fd ⟨us, []⟩ = pure (ps.zip us)) : Binds K fd ps [] := fun s us _ hl => by
 rw [List.append_nil] at hl ⊢
 exact .of_eq (h us hl)
noncomputable def Passes (CX : CXT) (X : Cx) (E : XK) : Prop := ∀ (pins : List (Addr × Obj)) (σ : St) (H : Hp) (s : Shared) (e : Value) (s' : Shared), Inv X pins σ H s → CX X.stack H s E e s' → X.xe e s'
section
variable {X : Cx} {CX : CXT} {k : Nat} {f C : Addr} {fd : FuncData} {ps : List Str} {sp : Sp} {dvs : List V} {ds : List Value} {E : XK} {x m : Str} {p pos apos : Pos} {e o : Expr} {es : List Expr} {ta : TE} {t : TA}
theorem run_fn {pins : List (Addr × Obj)} {σ : St} {H : Hp} {s : Shared} {Q : VK} {us : List Value} {vs : List V} (F : FnOk X.prog X.w X.K X.mg X.base CX k f fd ps sp) (hr : Room k X.A) (hb : Binds X.K fd ps ds) (hd : Vals dvs ds) (hx : Passes CX X E)
  (I : Inv X pins σ H s) (r : Vals vs us) (h : sp (vs ++ dvs) H Q E) : wpAny (model X.prog X.w) X.A (call (.ref f) us) (EP X pins σ Q) X.xe s := by
 have r2 : Vals (vs ++ dvs) (us ++ ds) := r.append hd
 have hl : (us ++ ds).length = ps.length := by rw [← r2.length]; exact F.len _ _ _ _ h
 refine wpAny_call (codeAny_mono (F.run X.A X.stack s H ⟨us, []⟩ (us ++ ds) (vs ++ dvs) Q E hr I.env0 (hb s us I.kIn hl) r2 h) fun r s' hq => ?_)
 cases r with
 | error e => exact hx pins σ H s e s' I hq
 | ok fl =>
  cases fl with
  | ret u => exact I.after hq
  | next => exact False.elim hq
  | brk => exact False.elim hq
  | cont => exact False.elim hq
theorem pe_call (F : FnOk X.prog X.w X.K X.mg X.base CX k f fd ps sp) (hr : Room k X.A) (hg : Gl X x) (hm : X.mg x = some (.ref f)) (hk : PySem.W.keepIn X.K (.ref f) = true) (hb : Binds X.K fd ps ds) (hd : Vals dvs ds) (hx : Passes CX X E)
  (ha : PA X (e :: es) t) (hdb : (x == ("__debug__" : Str)) = false := by decide) (he : starEach (e :: es) X.env = (false, eval e X.env) :: starEach es X.env := by rfl) (hpl : (backTo pos (starEach es X.env)).any (·.1) = false := by rfl) :
  PE X (.Call (.Name x p) (e :: es) [] pos) (tCall sp dvs E t) := by
 intro pins s σ H Q I h
 refine wpAny_Call_Name_kw (ld_glob I hg hm ?_ hdb)
 refine PySem.W.callWith_K (h₀ := X.base) I.ok.mod.kin hk (thn (ha pos pins s σ H _ I h) fun us s1 ⟨vs, H1, I1, r, q⟩ => ⟨I1.kIn, ?_⟩) he hpl
 exact run_fn F hr hb hd hx I1 r q
structure Mk (K : PySem.W.Frag) (C f : Addr) : Prop where
 makes : PySem.W.makesIn K C = true
 init : PySem.W.findIn K (.ref C) "__init__" = some (some (.ref f))
 fn : PySem.W.isFn K (.ref f) = true
 kp : PySem.W.keepIn K (.ref C) = true
end
section
variable {X : Cx} {CX : CXT} {k : Nat} {f C : Addr} {fd : FuncData} {ps ks : List Str} {sp : Sp} {E : XK} {x m : Str} {p pos apos kpos : Pos} {e o : Expr} {es : List Expr} {kws : List Keyword} {te ta : TE} {t tk : TA} {nm : Option Str}
structure KBinds (K : PySem.W.Frag) (fd : FuncData) (ps ks : List Str) (g : List Value → List Value → List Value) (gV : List V → List V → List V) : Prop where
 to : ∀ (s : Shared) (us ws : List Value), K.In s.heap → (g us ws).length = ps.length → BindsTo s fd ⟨us, ks.zip ws⟩ (ps.zip (g us ws))
 rel : ∀ {vs : List V} {us : List Value} {zs : List V} {ws : List Value}, Vals vs us → Vals zs ws → Vals (gV vs zs) (g us ws)
variable {g : List Value → List Value → List Value} {gV : List V → List V → List V}
end
structure FnScope (N P : List Str) (sc : Scope) : Prop where
 kind : sc.kind = .function
 co : sc.isCoroutine = false
 gen : sc.isGenerator = false
 nd : N.Nodup
 pre : N.take P.length = P
 par : ∀ x ∈ P, sc.names.lookup x = some .local ∨ sc.names.lookup x = some .cell
 nofree : ∀ y ∈ sc.names, y.2 ≠ .free
theorem bindL_out {kindOf : Str → Option NameKind} {x : Str} : ∀ {binds : List (Str × Value)} {m : Str → Option Value}, (∀ v, (x, v) ∉ binds) → bindL kindOf binds m x = m x
 | [], _, _ => rfl
 | (n, v) :: r, m, h => by
  unfold bindL
  rw [bindL_out fun w hw => h w (List.mem_cons_of_mem _ hw)]
  split
  ·have : x ≠ n := by rintro rfl; exact h v List.mem_cons_self
   simp [this]
  ·rfl
theorem bindC_out {kindOf : Str → Option NameKind} {x : Str} : ∀ {binds : List (Str × Value)} {m : Str → Option Value}, (∀ v, (x, v) ∉ binds) → bindC kindOf binds m x = m x
 | [], _, _ => rfl
 | (n, v) :: r, m, h => by
  unfold bindC
  rw [bindC_out fun w hw => h w (List.mem_cons_of_mem _ hw)]
  split
  ·rfl
  ·have : x ≠ n := by rintro rfl; exact h v List.mem_cons_self
   simp [this]
theorem bindL_get {kindOf : Str → Option NameKind} {x : Str} {v : Value} : ∀ {P : List Str} {vs : List Value} {i : Nat} {m : Str → Option Value}, P.Nodup → P[i]? = some x → vs[i]? = some v → kindOf x = some .local →
  bindL kindOf (P.zip vs) m x = some v
 | [], _, _, _, _, h, _, _ => by simp at h
 | _ :: _, [], _, _, _, _, h, _ => by simp at h
 | p :: P, w :: vs, 0, m, nd, h1, h2, hk => by
  simp at h1 h2; subst h1; subst h2
  show bindL kindOf ((p, w) :: P.zip vs) m p = _
  unfold bindL
  rw [bindL_out fun v hv => (List.nodup_cons.mp nd).1 (List.of_mem_zip hv).1, if_pos hk]
  simp
 | p :: P, w :: vs, i + 1, m, nd, h1, h2, hk => by
  show bindL kindOf ((p, w) :: P.zip vs) m x = _
  unfold bindL
  exact bindL_get (i := i) (List.nodup_cons.mp nd).2 (by simpa using h1) (by simpa using h2) hk
theorem bindC_get {kindOf : Str → Option NameKind} {x : Str} {v : Value} : ∀ {P : List Str} {vs : List Value} {i : Nat} {m : Str → Option Value}, P.Nodup → P[i]? = some x → vs[i]? = some v → kindOf x ≠ some .local →
  bindC kindOf (P.zip vs) m x = some v
 | [], _, _, _, _, h, _, _ => by simp at h
 | _ :: _, [], _, _, _, _, h, _ => by simp at h
 | p :: P, w :: vs, 0, m, nd, h1, h2, hk => by
  simp at h1 h2; subst h1; subst h2
  show bindC kindOf ((p, w) :: P.zip vs) m p = _
  unfold bindC
  rw [bindC_out fun v hv => (List.nodup_cons.mp nd).1 (List.of_mem_zip hv).1, if_neg hk]
  simp
 | p :: P, w :: vs, i + 1, m, nd, h1, h2, hk => by
  show bindC kindOf ((p, w) :: P.zip vs) m x = _
  unfold bindC
  exact bindC_get (i := i) (List.nodup_cons.mp nd).2 (by simpa using h1) (by simpa using h2) hk
noncomputable def start (N : List Str) (vs : List V) : St := vs.map some ++ List.replicate (N.length - vs.length) none
noncomputable def cxOf (CX : CXT) (P : Program) (w : World) (K : PySem.W.Frag) (mg : Str → Option Value) (base : Heap) (N : List Str) (qual : Str) (scope : Scope) (f : Addr) (cd : Value) (A : Around) (outer : List Env) (s : Shared) (H : Hp) (E : XK) : Cx where
 prog := P
 w := w
 K := K
 mg := mg
 base := base
 A := A.deeper (envOfC qual scope s.heap.objs.size f cd)
 N := N
 s₀ := s
 H₀ := H
 env := envOfC qual scope s.heap.objs.size f cd
 outer := outer
 stack := envOfC qual scope s.heap.objs.size f cd :: outer
 ex := []
 calm := true
 fn := fun _ => true
 pn := []
 xe := fun e s' => wpAny (model P w) (A.deeper (envOfC qual scope s.heap.objs.size f cd)) (leaving (envOfC qual scope s.heap.objs.size f cd) e) (fun _ s'' => CX outer H s E e s'') (fun e' s'' => CX outer H s E e' s'') s'
theorem cell_has {sc : Scope} {n : Nat} {x : Str} (h : sc.names.lookup x = some .cell) : ∃ c, (cellsFrom n sc.names []).lookup x = some c := by
 have q := PySem.W.cellsFrom_some sc.names n [] (.inl h)
 exact Option.isSome_iff_exists.mp q
theorem inv_start {CX : CXT} {P : Program} {w : World} {K : PySem.W.Frag} {mg : Str → Option Value} {base : Heap} {N ps : List Str} {qual : Str} {scope : Scope} {f : Addr} {cd : Value} {A : Around} {outer : List Env} {s s1 : Shared} {H : Hp} {E : XK} {us : List Value} {vs : List V}
  (S : FnScope N ps scope) (hd : A.handled = none) (e0 : Env0 P w K mg base A outer s H) (hl : vs.length = ps.length) (r : Vals vs us)
  (x : InCallC s s.heap.objs.size (bindL (envOfC qual scope s.heap.objs.size f cd).kindOf (ps.zip us) fun _ => none) (cellsFrom (s.heap.objs.size + 1) scope.names []) (bindC (envOfC qual scope s.heap.objs.size f cd).kindOf (ps.zip us) fun _ => none) s1) :
  Inv (cxOf CX P w K mg base N qual scope f cd A outer s H E) [] (start N vs) H s1 := by
 have hpl : ps.length ≤ N.length := by have := congrArg List.length S.pre; rw [List.length_take] at this; omega
 obtain ⟨h1, tk, rfl, hk⟩ := x.done
 have noA : ∀ b : Addr, b ∉ (cxOf CX P w K mg base N qual scope f cd A outer s H E).ex := fun b z => absurd (show b ∈ ([] : List Addr) from z) (by simp)
 refine ⟨⟨e0.mod, S.kind, rfl, rfl, Nat.le_refl _, fun y z c h1 h2 => ?_, fun y hy => ?_, fun y c _ h => ?_, fun _ => hd, Around.frames_deeper e0.frames, .inr ⟨rfl, rfl⟩, fun b z => absurd z (noA b), e0.bs, e0.bsz, fun b _ _ => noA b, fun b z => absurd z (noA b), e0.funs, e0.frf⟩,
  rfl, e0.bare, Un.kept hk, ⟨_, x.toInCall.ns, fun i y v h1 h2 h3 => ?_⟩, fun y c h => ⟨_, x.cell y c h⟩, e0.hok.fresh (Nat.le_refl _), fun y c h => ?_, fun p hp => absurd (show p ∈ ([] : List (Addr × Obj)) from hp) (by simp), e0.hok.kept hk, ?_⟩
 ·exact name_of_addr x.apart (PySem.mem_of_lookup h1) (PySem.mem_of_lookup h2)
 ·have hy : scope.names.lookup y = some .cell ∨ scope.names.lookup y = some .free := hy
  rcases hy with hy | hy
  ·exact cell_has hy
  ·exact absurd rfl (S.nofree _ (PySem.mem_of_lookup hy))
 ·exact Nat.le_of_lt (x.above y c (PySem.mem_of_lookup h))
 ·have hi : i < vs.length := by
   unfold start at h2
   by_cases hi : i < vs.length
   ·exact hi
   ·rw [List.getElem?_append_right (by simpa using hi)] at h2
    rw [List.getElem?_replicate] at h2
    split at h2 <;> cases h2
  have ha : vs[i]? = some v := by
   unfold start at h2
   rw [List.getElem?_append_left (by simpa using hi), List.getElem?_map] at h2
   cases e : vs[i]? with
   | none => rw [e] at h2; cases h2
   | some a => rw [e] at h2; cases h2; rfl
  obtain ⟨u, hu, rv⟩ := r.get ha
  have hp : ps[i]? = some y := by
   rw [← S.pre, List.getElem?_take_of_lt (by omega)]; exact h1
  have ndP : ps.Nodup := by rw [← S.pre]; exact S.nd.sublist (List.take_sublist _ _)
  refine ⟨u, rv, ?_⟩
  rcases S.par y (List.mem_of_getElem? hp) with k | k
  ·exact .inl ⟨k, bindL_get ndP hp hu k⟩
  ·obtain ⟨c, e⟩ := cell_has (n := s.heap.objs.size + 1) k
   refine .inr ⟨.inl k, c, e, ?_⟩
   have q := x.cell y c e
   rw [bindC_get ndP hp hu (by show scope.names.lookup y ≠ _; rw [k]; decide)] at q
   exact q
 ·exact e0.hok.fresh (Nat.le_of_lt (x.above y c (PySem.mem_of_lookup h)))
 ·unfold start
  show _ = N.length
  rw [List.length_append, List.length_map, List.length_replicate]
  omega
theorem fn_of {CX : CXT} {P : Program} {w : World} {K : PySem.W.Frag} {mg : Str → Option Value} {base : Heap} {k : Nat} {f : Addr} {name qual : Str} {params : Arguments} {body : List Stmt} {scope : Scope} {dV kV doc pm cdv ct oc : Value} {an od : Option Addr}
  {osl : Array (Option Value)} {N ps : List Str} {sp : Sp} (lk : K.lookup f = some ⟨oc, od, .func (PySem.W.fnOf name qual params body scope dV kV doc pm an cdv ct), osl⟩) (hcd : PySem.W.codeIn K cdv qual = true) (S : FnScope N ps scope)
  (len : ∀ vs H Q E, sp vs H Q E → vs.length = ps.length)
  (hbody : ∀ (A : Around) (outer : List Env) (s : Shared) (H : Hp) (vs : List V) (Q : VK) (E : XK), Room k (A.deeper (envOfC qual scope s.heap.objs.size f cdv)) → sp vs H Q E →
   ∃ t, PSs (cxOf CX P w K mg base N qual scope f cdv A outer s H E) body t ∧ t { nx := fun _ H' => Q .non H', rt := Q } (start N vs) H) :
  FnOk P w K mg base CX (k + 1) f (PySem.W.fnOf name qual params body scope dV kV doc pm an cdv ct) ps sp := by
 refine ⟨len, fun A outer s H args us vs Q E hr e0 hb r hsp => ?_⟩
 have hl := len _ _ _ _ hsp
 have KX : K.In s.heap := e0.mod.kin.keeps fun b o e => (e0.bs b o e).1
 have lim : s.heap.NoLimit := e0.mod.nolimit.keeps fun b o e => (e0.bs b o e).1
 have hkind : ∀ y ∈ ps.zip us, scope.names.lookup y.1 = some .local ∨ (scope.names.lookup y.1 = some .cell ∧ ((cellsFrom (s.heap.objs.size + 1) scope.names []).lookup y.1).isSome = true) := fun ⟨n, v⟩ hy => by
  rcases S.par n (List.of_mem_zip hy).1 with q | q
  ·exact .inl q
  ·exact .inr ⟨q, PySem.W.cellsFrom_some _ _ _ (.inl q)⟩
 refine codeAny_call_function hr.depth (KX _ _ lk) rfl S.co S.gen rfl (PySem.W.codeRec_of KX hcd) (hb _ _ _ _ ?_)
 refine wpAny_newFunctionEnv_cells S.kind hkind fun env he s1 x => ?_
 subst he
 refine ⟨lim.keeps x.toInCall.keep, codeAny_func ?_⟩
 obtain ⟨t, ht, hq⟩ := hbody A outer s H vs Q E (hr.deeper _) hsp
 have I : Inv (cxOf CX P w K mg base N qual scope f cdv A outer s H E) [] (start N vs) H s1 := inv_start S hr.hd e0 hl r x
 refine wpAny_mono (ht [] s1 (start N vs) H _ I hq) (fun fl s' hs => ?_) fun e s' hs => hs
 have fin : ∀ {σ' : St} {H' : Hp} {v : V} {u : Value}, Inv (cxOf CX P w K mg base N qual scope f cdv A outer s H E) [] σ' H' s' → RelV v u → Q v H' → CE outer P w H s Q u s' :=
  fun {σ' H' v u} J rv q => ⟨v, H', J.os, J.bare, J.base, J.hok, rv, q⟩
 cases fl with
 | ret u =>
  obtain ⟨v, σ', H', J, rv, q⟩ := hs
  exact fin J rv q
 | next =>
  obtain ⟨σ', H', J, q⟩ := hs
  exact fin (v := V.non) (u := Value.none) J rfl q
 | brk =>
  obtain ⟨_, _, _, q⟩ := hs
  exact False.elim q
 | cont =>
  obtain ⟨_, _, _, q⟩ := hs
  exact False.elim q
end L2
namespace L2
open PySem PySem.Spec PyProof.Rows
section
variable {X : Cx} {x : Str} {p pos : Pos} {e : Expr} {es : List Expr} {t : TA} {id T : String} {r : List V → Hp → VK → Prop}
noncomputable def tCB (r : List V → Hp → VK → Prop) (t : TA) : TE := fun σ H Q => t σ H fun vs H1 => r vs H1 Q
theorem pe_callB (hc : CallR X (.builtin id) r) (hg : Gl X x) (hm : X.mg x = none) (hv : bootBuiltins x = some (.builtin id)) (ha : PA X (e :: es) t) (hn : x ≠ "__name__" := by decide) (hdb : (x == ("__debug__" : Str)) = false := by decide)
  (he : starEach (e :: es) X.env = (false, eval e X.env) :: starEach es X.env := by rfl) (hpl : (backTo pos (starEach es X.env)).any (·.1) = false := by rfl) : PE X (.Call (.Name x p) (e :: es) [] pos) (tCB r t) := by
 intro pins s σ H Q I h
 refine wpAny_Call_Name_kw (ld_blt I hg hm hv ?_ hn hdb)
 exact PyProof.Rows.callWith_builtin1 (thn (ha pos pins s σ H _ I h) fun us s1 ⟨vs, H1, I1, r1, q1⟩ => hc pins s1 σ H1 vs us Q I1 r1 q1) he hpl
end
end L2
namespace HT
open PySem PyProof.Rows
section
open PySem.SeqAt
open PySem.AutoSeq1 (wpAny_loadPart')
open PySem.MeetsSeq PySem.MeetsSeq2 PySem.MeetsSeq3
end
section
variable {prog : Program} {w : World} {A : Around} {E : Value → Shared → Prop} {s : Shared}
noncomputable def sIx (n d : Nat) : Option Int → Nat
 | none => d
 | some v => if v < 0 then (v + (n : Int)).toNat else min v.toNat n
theorem sIx_none (n d : Nat) : sIx n d none = d := rfl
theorem sIx_nat (n d k : Nat) : sIx n d (some (k : Int)) = min k n := by
 show (if (k : Int) < 0 then ((k : Int) + (n : Int)).toNat else min (k : Int).toNat n) = min k n
 rw [if_neg (by omega), Int.toNat_natCast]
theorem sIx_le (n d : Nat) (hd : d ≤ n) (o : Option Int) : sIx n d o ≤ n := by
 cases o with
 | none => exact hd
 | some v =>
  show (if v < 0 then (v + (n : Int)).toNat else min v.toNat n) ≤ n
  by_cases hv : v < 0
  ·rw [if_pos hv]; omega
  ·rw [if_neg hv]; exact Nat.min_le_right _ _
theorem clip_eq (v : Int) (n d : Nat) : (if v < 0 then max (v + (n : Int)) 0 else min v (n : Int)) = ((sIx n d (some v) : Nat) : Int) := by
 show (if v < 0 then max (v + (n : Int)) 0 else min v (n : Int)) = (((if v < 0 then (v + (n : Int)).toNat else min v.toNat n) : Nat) : Int)
 by_cases hv : v < 0
 ·simp only [if_pos hv]; omega
 ·simp only [if_neg hv]; omega
end
end HT
namespace L2
open PySem PySem.Spec PyProof.Rows
noncomputable abbrev TO := St → Hp → (Option Int → Hp → Prop) → Prop
noncomputable def PO (X : Cx) (e : Option Expr) (t : TO) : Prop :=
 ∀ (pins : List (Addr × Obj)) (s : Shared) (σ : St) (H : Hp) (Q : Option Int → Hp → Prop), Inv X pins σ H s → t σ H Q →
  wpAny (model X.prog X.w) X.A (evalPart e X.env) (fun u s' => ∃ o H', Inv X pins σ H' s' ∧ IsPart u o ∧ Q o H') X.xe s
noncomputable def tNoPart : TO := fun _ H Q => Q none H
noncomputable def tPart (t : TE) : TO := fun σ H Q => t σ H fun x H1 => ∃ i, x = .int i ∧ Q (some i) H1
section
variable {X : Cx} {e : Expr} {te : TE} {lo hi : Option Expr} {tl th : TO} {pos p2 : Pos}
theorem po_none : PO X none tNoPart := by
 intro pins s σ H Q I h
 rw [evalPart_none]
 exact wpAny_pure ⟨none, H, I, .none, h⟩
theorem po_some (h : PE X e te) : PO X (some e) (tPart te) := by
 intro pins s σ H Q I hw
 rw [evalPart_some]
 refine thn (h pins s σ H _ I hw) fun u s1 ⟨x, H1, I1, r1, q1⟩ => ?_
 obtain ⟨i, rfl, q⟩ := q1
 obtain ⟨t, rfl⟩ := r1
 exact ⟨some i, H1, I1, .int i t, q⟩
noncomputable def SlR (X : Cx) (r : V → Option Int → Option Int → Hp → VK → Prop) : Prop :=
 ∀ (pins : List (Addr × Obj)) (s : Shared) (σ : St) (H : Hp) (x : V) (v vl vu : Value) (lo hi : Option Int) (sl : Addr) (Q : VK), Inv X pins σ H s → RelV x v → s.heap.IsSliceOf sl vl vu .none → IsPart vl lo → IsPart vu hi → r x lo hi H Q →
  ∃ T id, typeLookup (.type T) "__getitem__" = pure (some (.builtin id)) ∧ s.TypeIs v T ∧ wpAny (model X.prog X.w) X.A (getItem v (.ref sl)) (EP X pins σ Q) X.xe s
theorem SlR.or {r r' : V → Option Int → Option Int → Hp → VK → Prop} (h : SlR X r) (h' : SlR X r') : SlR X (fun x lo hi H Q => r x lo hi H Q ∨ r' x lo hi H Q) := by
 intro pins s σ H x v vl vu lo hi sl Q I rx hs pl pu q
 rcases q with q | q
 ·exact h pins s σ H x v vl vu lo hi sl Q I rx hs pl pu q
 ·exact h' pins s σ H x v vl vu lo hi sl Q I rx hs pl pu q
noncomputable def tSl (r : V → Option Int → Option Int → Hp → VK → Prop) (te : TE) (tl th : TO) : TE := fun σ H Q => te σ H fun x H1 => tl σ H1 fun l H2 => th σ H2 fun u H3 => r x l u H3 Q
theorem pe_slice {r : V → Option Int → Option Int → Hp → VK → Prop} (hr : SlR X r) (he : PE X e te) (hl : PO X lo tl) (hu : PO X hi th) : PE X (.Subscript e (.Slice lo hi none p2) pos) (tSl r te tl th) := by
 intro pins s σ H Q I h
 refine Subscript_ (thn (he pins s σ H _ I h) fun v s1 ⟨x, H1, I1, r1, q1⟩ => ?_)
 refine wpAny_Slice (thn (hl pins s1 σ H1 _ I1 q1) fun vl s2 ⟨l, H2, I2, pl, q2⟩ => thn (hu pins s2 σ H2 _ I2 q2) fun vu s3 ⟨u, H3, I3, pu, q3⟩ => ?_)
 rw [evalPart_none]
 refine wpAny_pure ?_
 have I4 : Inv X pins σ H3 { s3 with heap := s3.heap.push { cls := .type "slice", data := .fields #[vl, vu, .none] } } := I3.kept (t' := s3.toks) fun b ob q => Heap.get?_push_of_some _ q
 obtain ⟨T, id, hT, ht, hg⟩ := hr pins { s3 with heap := s3.heap.push { cls := .type "slice", data := .fields #[vl, vu, .none] } } σ H3 x v vl vu l u s3.heap.objs.size Q I4 r1 (Heap.IsSliceOf.new ..) pl pu q3
 show wpAny (model X.prog X.w) X.A (subscriptTail e (.Slice lo hi none p2) v (.ref s3.heap.objs.size)) (EP X pins σ Q) X.xe { s3 with heap := s3.heap.push { cls := .type "slice", data := .fields #[vl, vu, .none] } }
 exact tail_any (ops := [.ref s3.heap.objs.size, v]) ht hT hg (by with_unfolding_all rfl)
noncomputable def cutV (xs : List V) (lo hi : Option Int) : List V := (xs.drop (HT.sIx xs.length 0 lo)).take (HT.sIx xs.length xs.length hi - HT.sIx xs.length 0 lo)
theorem cutV_length (xs : List V) (lo hi : Option Int) : (cutV xs lo hi).length ≤ xs.length := by
 unfold cutV
 rw [List.length_take, List.length_drop]
 omega
end
end L2
namespace L2
open PySem PySem.Spec PyProof.Rows
noncomputable def ixN (n : Nat) (i : Int) : Option Nat := if 0 ≤ i then (if i < n then some i.toNat else none) else if -(n : Int) ≤ i then some (i + n).toNat else none
noncomputable def atI {α : Type} (xs : List α) (i : Int) : Option α := (ixN xs.length i).bind fun j => xs[j]?
theorem ixN_seq {n : Nat} {i : Int} {j : Nat} (h : ixN n i = some j) : seqIndex? i n = some j ∧ j < n ∧ -(n : Int) ≤ i ∧ i < n := by
 unfold ixN at h
 by_cases h0 : 0 ≤ i
 ·rw [if_pos h0] at h
  by_cases h1 : i < n
  ·rw [if_pos h1] at h
   have e : i.toNat = j := Option.some.inj h
   exact ⟨by rw [seqIndex_of h0 h1, e], by omega, by omega, h1⟩
  ·rw [if_neg h1] at h; cases h
 ·rw [if_neg h0] at h
  by_cases h1 : -(n : Int) ≤ i
  ·rw [if_pos h1] at h
   have e : (i + n).toNat = j := Option.some.inj h
   exact ⟨by rw [seqIndex_neg (by omega) h1, e], by omega, h1, by omega⟩
  ·rw [if_neg h1] at h; cases h
theorem atI_get {α : Type} {xs : List α} {i : Int} {v : α} (h : atI xs i = some v) : ∃ j, seqIndex? i xs.length = some j ∧ xs[j]? = some v ∧ j < xs.length ∧ -(xs.length : Int) ≤ i ∧ i < xs.length := by
 unfold atI at h
 cases e : ixN xs.length i with
 | none => rw [e] at h; cases h
 | some j =>
  rw [e] at h
  obtain ⟨h1, h2, h3, h4⟩ := ixN_seq e
  exact ⟨j, h1, h, h2, h3, h4⟩
theorem atI_nat {α : Type} {xs : List α} {j : Nat} {v : α} (h : xs[j]? = some v) : atI xs (j : Int) = some v := by
 have hj : j < xs.length := (List.getElem?_eq_some_iff.mp h).1
 have e : ixN xs.length (j : Int) = some j := by
  unfold ixN
  rw [if_pos (by omega), if_pos (by omega)]; simp
 unfold atI; rw [e]; exact h
theorem atI_last {α : Type} (xs : List α) (v : α) : atI (xs ++ [v]) (-1) = some v := by
 have hl : (xs ++ [v]).length = xs.length + 1 := by simp
 have e : ixN (xs ++ [v]).length (-1) = some xs.length := by
  unfold ixN
  rw [hl, if_neg (by decide), if_pos (by omega)]
  congr 1
  omega
 unfold atI
 rw [e]
 show (xs ++ [v])[xs.length]? = some v
 simp
noncomputable def PlainIx (b : Expr) : Prop := ∀ o i, subscripted b false o i = operate [o, i] (getItem o i)
noncomputable def IxR (X : Cx) (r : R2) : Prop :=
 ∀ (value slice : Expr) (pins : List (Addr × Obj)) (s : Shared) (σ : St) (H : Hp) (x y : V) (v u : Value) (Q : VK), Inv X pins σ H s → RelV x v → RelV y u → r x y H Q →
  subscripted slice false v u = operate [v, u] (getItem v u) → wpAny (model X.prog X.w) X.A (subscriptTail value slice v u) (EP X pins σ Q) X.xe s
noncomputable def MtR (X : Cx) (id : String) (r : V → List V → Hp → VK → Prop) : Prop :=
 ∀ (pins : List (Addr × Obj)) (s : Shared) (σ : St) (H : Hp) (x : V) (xs : List V) (v : Value) (us : List Value) (Q : VK), Inv X pins σ H s → RelV x v → Vals xs us → r x xs H Q →
  wpAny (model X.prog X.w) X.A (call (.builtin id) (v :: us)) (EP X pins σ Q) X.xe s
section
variable {X : Cx} {a b : Expr} {ta tb : TE} {pos : Pos}
theorem IxR.or {r r' : R2} (h : IxR X r) (h' : IxR X r') : IxR X (fun x y H Q => r x y H Q ∨ r' x y H Q) := by
 intro value slice pins s σ H x y v u Q I rx ry q hs
 rcases q with q | q
 ·exact h value slice pins s σ H x y v u Q I rx ry q hs
 ·exact h' value slice pins s σ H x y v u Q I rx ry q hs
theorem pe_ix {r : R2} (hr : IxR X r) (ha : PE X a ta) (hb : PE X b tb) (hs : PlainIx b) : PE X (.Subscript a b pos) (tOp r ta tb) := by
 intro pins s σ H Q I h
 exact Subscript_ (binT ha hb I h fun v u s2 x y H2 I2 rx ry q => hr a b pins s2 σ H2 x y v u Q I2 rx ry q (hs _ _))
noncomputable def rIxL (K : PySem.W.Frag) : R2 := fun x y H Q => ∃ p xs i v, x = .ref p ∧ y = .int i ∧ SqL K H p xs ∧ atI xs i = some v ∧ Q v H
noncomputable def rIxT (K : PySem.W.Frag) : R2 := fun x y H Q => ∃ p xs i v, x = .ref p ∧ y = .int i ∧ SqT K H p xs ∧ atI xs i = some v ∧ Q v H
noncomputable def rIxS : R2 := fun x y H Q => ∃ z i c, x = .str z ∧ y = .int i ∧ z.length ≤ sizeLine ∧ atI z.cps.toList i = some c ∧ Q (.str ⟨#[c]⟩) H
theorem ix_list : IxR X (rIxL X.K) := by
 intro value slice pins s σ H x y v u Q I rx ry h hs
 obtain ⟨p, xs, i, z, rfl, rfl, hq, he, q⟩ := h
 cases rx
 obtain ⟨t, rfl⟩ := ry
 obtain ⟨its, r, pl, hz⟩ := I.list hq
 obtain ⟨j, h1, h2, h3, h4, h5⟩ := atI_get he
 obtain ⟨w, ew, rw'⟩ := r.get h2
 have hl := r.length
 have hn := line63
 have fin : EP X pins σ Q w s := ⟨z, H, I, rw', q⟩
 by_cases h0 : 0 ≤ i
 ·have hj : i.toNat = j := by
   rw [seqIndex_of h0 h5] at h1
   exact Option.some.inj h1
  exact item_listR pl.isList h0 (by omega) (by rw [hj]; simpa using ew) fin hs
 ·have hj : (i + (its.toArray.size : Int)).toNat = j := by
   rw [seqIndex_neg (by omega) h4] at h1
   rw [List.size_toArray, ← hl]
   exact Option.some.inj h1
  exact subscriptTail_builtinR (x := w) pl.isList.typeIs slot_list_getitem.lookup
   (wpAny_getItem_list_neg (Q := fun r s' => r = w ∧ EP X pins σ Q r s') pl.isList (by omega) (by rw [List.size_toArray] <;> omega) (by omega) (by rw [hj]; simpa using ew) ⟨rfl, fin⟩) hs
theorem ix_tup : IxR X (rIxT X.K) := by
 intro value slice pins s σ H x y v u Q I rx ry h hs
 obtain ⟨p, xs, i, z, rfl, rfl, hq, he, q⟩ := h
 cases rx
 obtain ⟨t, rfl⟩ := ry
 obtain ⟨its, r, pl, hz⟩ := I.tuple hq
 obtain ⟨j, h1, h2, h3, h4, h5⟩ := atI_get he
 obtain ⟨w, ew, rw'⟩ := r.get h2
 have hl := r.length
 have hn := line63
 have fin : EP X pins σ Q w s := ⟨z, H, I, rw', q⟩
 exact subscriptTail_builtinR (x := w) pl.typeIs slot_tuple_getitem.lookup
  (getItem_tuple (j := j) (Q := fun r s' => r = w ∧ EP X pins σ Q r s') pl (by omega) (by omega) (by rw [List.size_toArray, ← hl]; exact h1) (by simpa using ew) ⟨rfl, fin⟩) hs
theorem ix_str : IxR X rIxS := by
 intro value slice pins s σ H x y v u Q I rx ry h hs
 obtain ⟨z, i, c, rfl, rfl, hz, he, q⟩ := h
 obtain ⟨t, rfl⟩ := rx
 obtain ⟨t', rfl⟩ := ry
 obtain ⟨j, h1, h2, h3, h4, h5⟩ := atI_get he
 have hl : z.cps.toList.length = z.length := by simp [Str.length]
 rw [hl] at h1 h4 h5
 have hn := line63
 exact tail_any (typeIs_str s z t) slot_str_getitem.lookup (getItem_str (c := c) (by
  have e1 : decide (i < -(2 ^ 63 : Int)) = false := decide_eq_false (by omega)
  have e2 : decide (i ≥ 2 ^ 63) = false := decide_eq_false (by omega)
  rw [e1, e2, Bool.or_false]) (by rw [h1]; simpa using h2) ⟨.str ⟨#[c]⟩, H, I.tok _, ⟨_, rfl⟩, q⟩) hs
noncomputable def rIx (K : PySem.W.Frag) : R2 := fun x y H Q => rIxL K x y H Q ∨ rIxT K x y H Q ∨ rIxS x y H Q
theorem ix_seq : IxR X (rIx X.K) := ix_list.or (ix_tup.or ix_str)
theorem mapSeq_set (its : List Value) (n j : Nat) (u : Value) : Obj.mapSeq (·.setIfInBounds j u) { cls := .type "list", data := .seq its.toArray n } = { cls := .type "list", data := .seq (its.set j u).toArray n } := by
 simp [Obj.mapSeq]
theorem Inv.lst {pins : List (Addr × Obj)} {σ : St} {H : Hp} {s : Shared} {p : Addr} {xs : List V} (I : Inv X pins σ H s) (h : H p = some (.lst xs)) :
  ∃ (its : List Value) (n : Nat), Vals xs its ∧ s.heap.get? p = some { cls := .type "list", data := .seq its.toArray n } ∧ xs.length ≤ sizeLine := by
 obtain ⟨z, its, n, r, e⟩ := I.hok p _ h
 exact ⟨its, n, r, e, z⟩
theorem Inv.lstUpd {pins : List (Addr × Obj)} {σ : St} {H : Hp} {s : Shared} {p : Addr} {xs ys : List V} {its its' : List Value} {n n' : Nat} {f : Obj → Obj} (I : Inv X pins σ H s) (h : H p = some (.lst xs))
  (ho : s.heap.get? p = some { cls := .type "list", data := .seq its.toArray n }) (hf : f { cls := .type "list", data := .seq its.toArray n } = { cls := .type "list", data := .seq its'.toArray n' }) (r : Vals ys its') (hz : ys.length ≤ sizeLine) (t : Nat) :
  Inv X pins σ (upd H p (.lst ys)) { s with heap := s.heap.update p f, toks := t } := by
 have e : (s.heap.update p f).get? p = some { cls := .type "list", data := .seq its'.toArray n' } := by
  rw [Heap.get?_update_self f ho (by rw [hf] <;> rfl), hf]
 refine I.write (x := p) (e := p) (by rw [h]; trivial) (.inl rfl) (fun b u hb q => (Heap.get?_update_other _ _ (Ne.symm hb)).trans q) ⟨_, e⟩ ?_
 exact ⟨hz, its', n', r, e⟩
noncomputable def rSetL : V → V → V → Hp → (Hp → Prop) → Prop := fun o i v H Q => ∃ p xs k j, o = .ref p ∧ i = .int k ∧ H p = some (.lst xs) ∧ ixN xs.length k = some j ∧ Q (upd H p (.lst (xs.set j v)))
theorem set_list : PSet X rSetL := by
 intro pins s σ H o i v ov iv u Q I ro ri rv h
 obtain ⟨p, xs, k, j, rfl, rfl, hp, hj, q⟩ := h
 cases ro
 obtain ⟨t, rfl⟩ := ri
 obtain ⟨its, n, r, ho, hz⟩ := I.lst hp
 obtain ⟨h1, h2, h3, h4⟩ := ixN_seq hj
 have hl := r.length
 have hn := line63
 have I' : Inv X pins σ (upd H p (.lst (xs.set j v))) { s with heap := s.heap.update p (Obj.mapSeq (·.setIfInBounds j u)) } :=
  I.lstUpd hp ho (mapSeq_set its n j u) (r.set rv j) (by rw [List.length_set]; exact hz) s.toks
 by_cases h0 : 0 ≤ k
 ·have hk : k.toNat = j := by
   rw [seqIndex_of h0 h4] at h1
   exact Option.some.inj h1
  exact PySem.W.ki_setAt ho h0 (by omega) (by rw [List.size_toArray, ← hl]; exact h4) (by rw [hk]; exact ⟨_, I', q⟩)
 ·have hk : (k + (its.toArray.size : Int)).toNat = j := by
   rw [seqIndex_neg (by omega) h3] at h1
   rw [List.size_toArray, ← hl]
   exact Option.some.inj h1
  exact PySem.W.ki_setBack ho (by omega) (by rw [List.size_toArray, ← hl]; exact h3) (by omega) (by rw [hk]; exact ⟨_, I', q⟩)
theorem slice_bounds (lo hi : Option Int) (n : Nat) : (sliceBounds lo hi none n).1 = ((HT.sIx n 0 lo : Nat) : Int) ∧ (sliceBounds lo hi none n).2.1 = ((HT.sIx n n hi : Nat) : Int) ∧ (sliceBounds lo hi none n).2.2 = 1 := by
 refine ⟨?_, ?_, rfl⟩
 ·cases lo with
  | none => simp [sliceBounds, HT.sIx]
  | some i =>
   simp only [sliceBounds, HT.sIx, Option.getD_none, show (1 : Int) > 0 by decide, if_true]
   by_cases h : i < 0
   ·simp only [h, if_true] <;> omega
   ·simp only [h, if_false] <;> omega
 ·cases hi with
  | none => simp [sliceBounds, HT.sIx]
  | some i =>
   simp only [sliceBounds, HT.sIx, Option.getD_none, show (1 : Int) > 0 by decide, if_true]
   by_cases h : i < 0
   ·simp only [h, if_true] <;> omega
   ·simp only [h, if_false] <;> omega
theorem slicePick_cut (its : List Value) (lo hi : Option Int) : slicePick its.toArray lo hi none = ((its.drop (HT.sIx its.length 0 lo)).take (HT.sIx its.length its.length hi - HT.sIx its.length 0 lo)).toArray := by
 obtain ⟨h1, h2, h3⟩ := slice_bounds lo hi its.toArray.size
 unfold slicePick
 rw [h1, h2, h3]
 simp only [sliceRange_one, pick_run, List.size_toArray] <;> rfl
noncomputable def rSlL (K : PySem.W.Frag) : V → Option Int → Option Int → Hp → VK → Prop := fun x lo hi H Q => ∃ a xs, x = .ref a ∧ SqL K H a xs ∧ ∀ p, H p = none → Q (.ref p) (upd H p (.lst (cutV xs lo hi)))
theorem sl_list : SlR X (rSlL X.K) := by
 intro pins s σ H x v vl vu lo hi sl Q I rx hs pl pu h
 obtain ⟨a, xs, rfl, hx, q⟩ := h
 cases rx
 obtain ⟨its, r, ht, hz⟩ := I.list hx
 have hlen := r.length
 refine ⟨"list", _, slot_list_getitem.lookup, ht.isList.typeIs, ?_⟩
 refine wpAny_getItem_list_slice ht.isList hs pl pu .none (by simp) ?_ (by rw [List.size_toArray] <;> omega)
 rw [slicePick_cut, ← hlen]
 refine ⟨.ref s.heap.objs.size, _, I.laid (t' := s.toks) (o := .lst (cutV xs lo hi)) (fun b ob q => Heap.get?_push_of_some _ q) (Nat.le_refl _) ?_, rfl, q _ (I.hok.fresh (Nat.le_refl _))⟩
 exact ⟨Nat.le_trans (cutV_length xs lo hi) hz, _, 0, (r.drop (HT.sIx xs.length 0 lo)).take (HT.sIx xs.length xs.length hi - HT.sIx xs.length 0 lo), Heap.get?_push_size _ rfl⟩
noncomputable def flatV : V → Bool
 | .non => true
 | .bl _ => true
 | .int _ => true
 | .str _ => true
 | _ => false
noncomputable def eqV : V → V → Bool
 | .non, .non => true
 | .bl a, .bl b => a == b
 | .bl a, .int b => (if a then 1 else 0) == b
 | .int a, .bl b => a == (if b then 1 else 0)
 | .int a, .int b => a == b
 | .str a, .str b => a == b
 | _, _ => false
theorem eqAt_V {A : Around} {s : Shared} {y x : V} {u v : Value} (ry : RelV y u) (rx : RelV x v) (fy : flatV y = true) (fx : flatV x = true) : SeqAt.EqAt A s u v (eqV y x) := by
 cases y with
 | non =>
  cases ry
  cases x with
  | non => cases rx; exact SeqAt.EqAt.same _
  | bl b => cases rx; exact SeqAt.EqAt.none_bool b
  | int b => obtain ⟨t, rfl⟩ := rx; exact SeqAt.EqAt.none_int b t
  | str b => obtain ⟨t, rfl⟩ := rx; exact SeqAt.EqAt.none_str b t
  | _ => exact absurd (show false = true from fx) Bool.false_ne_true
 | bl a =>
  cases ry
  cases x with
  | non => cases rx; exact SeqAt.EqAt.bool_none a
  | bl b => cases rx; exact SeqAt.EqAt.bool_bool a b
  | int b => obtain ⟨t, rfl⟩ := rx; exact SeqAt.EqAt.bool_int a b t
  | str b => obtain ⟨t, rfl⟩ := rx; exact SeqAt.EqAt.bool_str a b t
  | _ => exact absurd (show false = true from fx) Bool.false_ne_true
 | int a =>
  obtain ⟨t', rfl⟩ := ry
  cases x with
  | non => cases rx; exact SeqAt.EqAt.int_none a t'
  | bl b => cases rx; exact SeqAt.EqAt.int_bool a t' b
  | int b => obtain ⟨t, rfl⟩ := rx; exact SeqAt.EqAt.int_int a t' b t
  | str b => obtain ⟨t, rfl⟩ := rx; exact SeqAt.EqAt.int_str a t' b t
  | _ => exact absurd (show false = true from fx) Bool.false_ne_true
 | str a =>
  obtain ⟨t', rfl⟩ := ry
  cases x with
  | non => cases rx; exact SeqAt.EqAt.str_none a t'
  | bl b => cases rx; exact SeqAt.EqAt.str_bool a t' b
  | int b => obtain ⟨t, rfl⟩ := rx; exact SeqAt.EqAt.str_int a t' b t
  | str b => obtain ⟨t, rfl⟩ := rx; exact SeqAt.EqAt.str_str a t' b t
  | _ => exact absurd (show false = true from fx) Bool.false_ne_true
 | _ => exact absurd (show false = true from fy) Bool.false_ne_true
noncomputable def eqU (x : V) (u : Value) : Bool := match u with
 | .none => eqV .non x
 | .bool b => eqV (.bl b) x
 | .int i _ => eqV (.int i) x
 | .str z _ => eqV (.str z) x
 | _ => false
theorem eqU_of {x y : V} {u : Value} (r : RelV y u) (f : flatV y = true) : eqU x u = eqV y x := by
 cases y with
 | non => cases r; rfl
 | bl b => cases r; rfl
 | int i => obtain ⟨t, rfl⟩ := r; rfl
 | str z => obtain ⟨t, rfl⟩ := r; rfl
 | _ => exact absurd (show false = true from f) Bool.false_ne_true
theorem any_eqU {x : V} : ∀ {xs : List V} {us : List Value}, Vals xs us → xs.all flatV = true → us.any (eqU x) = xs.any fun y => eqV y x
 | _, _, .nil, _ => rfl
 | y :: xs, u :: us, .cons r t, f => by
  rw [List.all_cons, Bool.and_eq_true] at f
  rw [List.any_cons, List.any_cons, eqU_of r f.1, any_eqU t f.2]
theorem mem_eqAt {A : Around} {s : Shared} {x : V} {v : Value} (rx : RelV x v) (fx : flatV x = true) : ∀ {xs : List V} {us : List Value}, Vals xs us → xs.all flatV = true → ∀ u ∈ us, SeqAt.EqAt A s u v (eqU x u)
 | _, _, .nil, _ => fun u hu => by cases hu
 | y :: xs, u :: us, .cons r t, f => fun u' hu => by
  rw [List.all_cons, Bool.and_eq_true] at f
  rcases List.mem_cons.mp hu with rfl | hu
  ·rw [eqU_of r f.1]; exact eqAt_V r rx f.1 fx
  ·exact mem_eqAt rx fx t f.2 u' hu
noncomputable def inV (x : V) (xs : List V) : Bool := xs.any fun y => eqV y x
noncomputable def rIn (K : PySem.W.Frag) (neg : Bool) : R2 := fun x y H Q => ∃ p xs, y = .ref p ∧ (SqL K H p xs ∨ SqT K H p xs) ∧ flatV x = true ∧ xs.all flatV = true ∧ Q (.bl (if neg then !inV x xs else inV x xs)) H
theorem op_in_seq : OpR X (compareOp .In) (rIn X.K false) := by
 intro pins s σ H x y v u Q I rx ry h
 obtain ⟨p, xs, rfl, hq, fx, fs, q⟩ := h
 cases ry
 rcases hq with hq | hq
 ·obtain ⟨its, r, pl, hz⟩ := I.list hq
  refine SeqAt.in_listAt (eqU x) pl.isList (fun w hw => mem_eqAt rx fx r fs w (by simpa using hw)) ⟨.bl _, H, I, rfl, ?_⟩
  rw [show its.toArray.any (eqU x) = its.any (eqU x) by simp, any_eqU r fs]
  exact q
 ·obtain ⟨its, r, pl, hz⟩ := I.tuple hq
  refine SeqAt.in_tupleAt (eqU x) pl (fun w hw => mem_eqAt rx fx r fs w (by simpa using hw)) ⟨.bl _, H, I, rfl, ?_⟩
  rw [show its.toArray.any (eqU x) = its.any (eqU x) by simp, any_eqU r fs]
  exact q
theorem call_list_of : CallR X (.type "list") (fun xs H Q => ∃ p ys, xs = [.ref p] ∧ (SqL X.K H p ys ∨ SqT X.K H p ys) ∧ ∀ l, H l = none → Q (.ref l) (upd H l (.lst ys))) := by
 intro pins s σ H xs us Q I r h
 obtain ⟨p, ys, rfl, hq, q⟩ := h
 obtain ⟨u, rfl, rx⟩ := vals1 r
 cases rx
 have fin : ∀ (its : List Value), Vals ys its → ys.length ≤ sizeLine → ∀ (h' : Heap) (c' : Nat), (∀ b o', s.heap.get? b = some o' → h'.get? b = some o') →
   h'.get? s.heap.objs.size = some { cls := .type "list", dict := none, data := .seq its.toArray c', slots := #[] } → EP X pins σ Q (.ref s.heap.objs.size) { s with heap := h' } := fun its r' hz h' c' kp e =>
  ⟨.ref s.heap.objs.size, _, I.laid (t' := s.toks) kp (Nat.le_refl _) (show ObjOk X.prog X.w _ h' _ (.lst ys) from ⟨hz, its, c', r', e⟩), rfl, q _ (I.hok.fresh (Nat.le_refl _))⟩
 rcases hq with hq | hq
 ·obtain ⟨its, r', pl, hz⟩ := I.list hq
  have hlen := r'.length
  obtain ⟨o, ho, hc, n, hd⟩ := pl.isList
  exact call_list_seq p (.inl rfl) ho hc hd (fun h' c' kp e => fin its r' hz h' c' kp e) (by simp only [List.size_toArray] <;> omega)
 ·obtain ⟨its, r', pl, hz⟩ := I.tuple hq
  have hlen := r'.length
  obtain ⟨o, ho, hc, n, hd⟩ := pl
  exact call_list_seq p (.inr rfl) ho hc hd (fun h' c' kp e => fin its r' hz h' c' kp e) (by simp only [List.size_toArray] <;> omega)
noncomputable def tyV (K : PySem.W.Frag) (T : String) (x : V) (H : Hp) : Prop := match x with
 | .str _ => T = "str"
 | .int _ => T = "int"
 | .ref p => (T = "list" ∧ ∃ xs, SqL K H p xs) ∨ (T = "tuple" ∧ ∃ o, K.lookup p = some o ∧ o.cls = .type "tuple" ∧ o.dict = none) ∨
   (T = "dict" ∧ ((∃ kvs, H p = some (.dK kvs)) ∨ ∃ kvs, H p = some (.dT kvs))) ∨ (T = "set" ∧ ∃ S n, H p = some (.set S n))
 | _ => False
theorem tyV_is {pins : List (Addr × Obj)} {σ : St} {H : Hp} {s : Shared} {T : String} {x : V} {v : Value} (I : Inv X pins σ H s) (r : RelV x v) (ty : tyV X.K T x H) :
  s.TypeIs v T ∧ ∀ a, v = .ref a → ∃ ob, s.heap.get? a = some ob ∧ ob.dict = none := by
 cases x with
 | str z =>
  obtain ⟨t, rfl⟩ := r
  cases (show T = "str" from ty)
  exact ⟨typeIs_str s z t, fun _ e => nomatch e⟩
 | int i =>
  obtain ⟨t, rfl⟩ := r
  cases (show T = "int" from ty)
  exact ⟨typeIs_int s i t, fun _ e => nomatch e⟩
 | ref p =>
  cases r
  rcases ty with ⟨rfl, xs, hq⟩ | ⟨rfl, o, hk, hc, hd⟩ | ⟨rfl, hk⟩ | ⟨rfl, S, n, hk⟩
  ·obtain ⟨its, _, pl, _⟩ := I.list hq
   refine ⟨pl.isList.typeIs, fun a e => ?_⟩
   cases e
   obtain ⟨o, n, e, c, hd, _⟩ := pl
   exact ⟨o, e, hd⟩
  ·refine ⟨⟨o, I.kIn p o hk, hc⟩, fun a e => ?_⟩
   cases e
   exact ⟨o, I.kIn _ o hk, hd⟩
  ·have z : ∃ o, s.heap.get? p = some o ∧ o.ExactDict := by
    rcases hk with ⟨kvs, hk⟩ | ⟨kvs, hk⟩
    ·obtain ⟨_, _, _, _, o, _, _, e, ex, _⟩ := I.hok p _ hk
     exact ⟨o, e, ex⟩
    ·obtain ⟨_, _, _, _, o, _, _, e, ex, _⟩ := I.hok p _ hk
     exact ⟨o, e, ex⟩
   obtain ⟨o, e, ex⟩ := z
   refine ⟨⟨o, e, ex.1⟩, fun a e2 => ?_⟩
   cases e2
   exact ⟨o, e, ex.2.1⟩
  ·obtain ⟨o, _, _, _, e, ex, _⟩ := I.hok p _ hk
   refine ⟨⟨o, e, ex.1⟩, fun a e2 => ?_⟩
   cases e2
   exact ⟨o, e, ex.2.1⟩
 | _ => exact False.elim ty
noncomputable def tBM (K : PySem.W.Frag) (T : String) (r : V → List V → Hp → VK → Prop) (to : TE) (t : TA) : TE := fun σ H Q => to σ H fun x H1 => tyV K T x H1 ∧ t σ H1 fun xs H2 => r x xs H2 Q
variable {o e : Expr} {es : List Expr} {to : TE} {t : TA} {name : Str} {apos cpos : Pos} {T id : String} {r : V → List V → Hp → VK → Prop}
theorem pe_bm (pa : PlainAttrs T) (slot : Slot T name id) (hty : typeOf (.builtin id) = pure (.type "method_descriptor")) (hm : MtR X id r) (ho : PE X o to) (ha : PA X (e :: es) t)
  (hbase : attributeBase o name X.env (eval o X.env) = eval o X.env := by rfl)
  (hfew : ((backTo cpos (starEach (e :: es) X.env)).all (fun x => !x.1) && (backToKw cpos (keywordEach [] X.env)).all (fun x => x.1.isSome)
   && decide ((e :: es).length + ([] : List Keyword).length + (if ([] : List Keyword).isEmpty then 0 else 1) < 30)) = true := by rfl)
  (hline : (apos.endLine == cpos.line) = true := by rfl) (hs : starEach (e :: es) X.env = (false, eval e X.env) :: starEach es X.env := by rfl) (hplain : (backTo cpos (starEach es X.env)).any (·.1) = false := by rfl) :
  PE X (.Call (.Attribute o name apos) (e :: es) [] cpos) (tBM X.K T r to t) := by
 intro pins s σ H Q I h
 refine wpAny_Call_method_late hbase hfew hline rfl (thn (ho pins s σ H _ I h) fun v s1 ⟨x, H1, I1, r1, ty, q1⟩ => ?_)
 obtain ⟨h1, h2⟩ := tyV_is I1 r1 ty
 refine ⟨T, id, pa, slot, hty, h1, h2, ?_⟩
 have hA := ha cpos pins s1 σ H1 _ I1 q1
 rw [hs] at hA ⊢
 refine Calls.callWith_builtin (by show (false || (backTo cpos (starEach es X.env)).any (·.1)) = false; rw [hplain] <;> rfl) (Calls.evalArgs_plain ?_)
 exact thn hA fun us s2 ⟨vs, H2, I2, r2, q2⟩ => hm pins s2 σ H2 x vs v us Q I2 r1 r2 q2
end
end L2
namespace L2
open PySem PySem.Spec PyProof.Rows
noncomputable def MtM (X : Cx) (id : String) (r : V → List V → Hp → VK → Prop) : Prop :=
 ∀ (pins : List (Addr × Obj)) (s : Shared) (σ : St) (H : Hp) (x : V) (xs : List V) (v : Value) (us : List Value) (Q : VK), Inv X pins σ H s → RelV x v → Vals xs us → r x xs H Q →
  wpAny (model X.prog X.w) X.A (call (.builtin id) (v :: us)) (EP X pins σ Q) X.xe s
theorem Vals.one : ∀ {x : V} {us : List Value}, Vals [x] us → ∃ u, us = [u] ∧ RelV x u
 | _, _, .cons r .nil => ⟨_, rfl, r⟩
theorem Vals.two : ∀ {x y : V} {us : List Value}, Vals [x, y] us → ∃ u v, us = [u, v] ∧ RelV x u ∧ RelV y v
 | _, _, _, .cons r (.cons q .nil) => ⟨_, _, rfl, r, q⟩
section
variable {X : Cx} {pins : List (Addr × Obj)} {σ : St} {H : Hp} {s : Shared} {l b : Addr} {xs ys zs : List V}
theorem Inv.lset {its its' : List Value} {n : Nat} {f : Array Value → Array Value} {t' : Nat} (I : Inv X pins σ H s) (hH : H l = some (.lst xs))
  (e : s.heap.get? l = some { cls := .type "list", data := .seq its.toArray n }) (hf : f its.toArray = its'.toArray) (hv : Vals ys its') (hz : ys.length ≤ sizeLine) :
  Inv X pins σ (upd H l (.lst ys)) { s with heap := s.heap.update l (Obj.mapSeq f), toks := t' } := by
 have q := PySem.IsL.update e f
 rw [hf] at q
 refine I.write (x := l) (e := l) (by rw [hH]; exact trivial) (.inl rfl) (fun b' u hb hu => (Heap.get?_update_other s.heap (Obj.mapSeq f) (Ne.symm hb)).trans hu) ⟨_, q⟩ ?_
 exact ⟨hz, its', _, hv, q⟩
theorem Inv.lnew {its : List Value} {t' : Nat} (I : Inv X pins σ H s) (hv : Vals ys its) (hz : ys.length ≤ sizeLine) :
  Inv X pins σ (upd H s.heap.objs.size (.lst ys)) { s with heap := s.heap.push { cls := .type "list", data := .seq its.toArray }, toks := t' } :=
 I.laid (fun _ _ q => Heap.get?_push_of_some _ q) (Nat.le_refl _) ⟨hz, its, 0, hv, Heap.get?_push_size _ rfl⟩
theorem Inv.fresh (I : Inv X pins σ H s) : H s.heap.objs.size = none := I.hok.fresh (Nat.le_refl _)
theorem Inv.lstM (I : Inv X pins σ H s) (hH : H l = some (.lst xs)) : xs.length ≤ sizeLine ∧ ∃ (its : List Value) (n : Nat), Vals xs its ∧ xs.length = its.length ∧ s.heap.get? l = some { cls := .type "list", data := .seq its.toArray n } := by
 obtain ⟨z, its, n, r, e⟩ := I.hok l _ hH
 exact ⟨z, its, n, r, r.length, e⟩
theorem notLongL {n : Nat} (h : n ≤ sizeLine) : Builtin.List.listTooLong n = false := by
 unfold Builtin.List.listTooLong
 exact decide_eq_false (by omega)
end
section
variable {X : Cx}
noncomputable def rAppend : V → List V → Hp → VK → Prop := fun x vs H Q => ∃ l xs y, x = .ref l ∧ vs = [y] ∧ H l = some (.lst xs) ∧ xs.length < sizeLine ∧ Q .non (upd H l (.lst (xs ++ [y])))
theorem mt_append : MtM X "list.append" rAppend := by
 intro pins s σ H x vs v us Q I rx rv h
 obtain ⟨l, xs, y, rfl, rfl, hH, hz, q⟩ := h
 cases rx
 obtain ⟨u, rfl, ru⟩ := rv.one
 obtain ⟨z, its, n, r, hl, e⟩ := I.lstM hH
 refine call_meets F.slot_list_append ⟨_, e, rfl⟩ F.entry_list_append (F.args_list_append_2 _ _) (PySem.list_append l its.toArray n u (by rw [List.size_toArray]; omega)) ⟨e, ?_⟩
 refine ⟨.non, _, I.lset (its' := its ++ [u]) hH e (by simp) (r.append (.cons ru .nil)) ?_, rfl, q⟩
 rw [List.length_append, List.length_singleton]
 omega
end
section
variable {prog : Program} {w : World} {A : Around} {E : Value → Shared → Prop} {s : Shared}
end
section
variable {X : Cx}
end
end L2
namespace Att
open PySem PySem.W PySem.Calls PyProof.Rows
theorem ints_of_wellAll {P : Params} {h : Heap} : ∀ (ns : List Int) (vs : List Value), WellAll P h vs (ns.map WData.int) → IntsAre vs ns := by
 intro ns
 induction ns with
 | nil =>
  intro vs w
  rw [List.map_nil] at w
  cases w
  exact .nil
 | cons n ns ih =>
  intro vs w
  rw [List.map_cons] at w
  cases w with
  | cons a b =>
   cases a
   exact .cons _ _ (ih _ b)
theorem script_of {l : OpenLaw} {n : Nat} (hn : l.most = some n) {P : Params} {h : Heap} {args : List WData} {vals : List Value}
  (hpre : l.row.toRowW.claim.pre args = true) (hwl : WellAll P h vals args) :
  ∃ a vs ns, vals = [Value.ref a] ∧ args = [WData.list (ns.map WData.int)] ∧ h.get? a = some { cls := .type "list", data := .seq vs.toArray } ∧ IntsAre vs ns ∧ ns.length ≤ n := by
 have hsh : WShape.hasAll [] args [.list .int] = true := (pre_splitW hpre).1
 have hc : l.pre.holds [] { args := args } = true := (pre_splitW hpre).2
 obtain ⟨d, r, rfl, h1, h2⟩ := hasAllW_cons hsh
 obtain rfl := hasAllW_nil h2
 obtain ⟨xs, rfl, h3⟩ := hasW_list h1
 obtain ⟨ns, rfl⟩ := items_int h3
 have hlen : ns.length ≤ n := by
  unfold OpenLaw.pre at hc
  have h4 : (WTm.not (.lt (.lit (.int (n : Int))) (.len (.arg 0)))).holds [] { args := [.list (ns.map .int)] } = true := by
   have h4 := (holds_andW hc).1
   rw [hn] at h4
   exact h4
  have h5 := condW_of h4 (w_not (w_lt w_lit (w_len_list (w_arg rfl))))
  rw [List.length_map] at h5
  refine Nat.le_of_not_lt fun q => ?_
  have q' : (n : Int) < ((ns.length : Nat) : Int) := by omega
  first
   | (rw [decide_eq_true q'] at h5; exact absurd h5 (by decide))
   | (simp at h5; omega)
 cases hwl with
 | cons w1 w2 =>
  cases w2
  cases w1 with
  | list ho hall => exact ⟨_, _, ns, rfl, rfl, ho, ints_of_wellAll ns _ hall, hlen⟩
theorem post_true (l : OpenLaw) (args : List WData) : l.row.toRowW.claim.post args (.bool true) args = true :=
 postW_of (r := l.row.toRowW) (X := (true == true))
  (show WShape.has [] (.bool true) .bool = true by first | rfl | decide | simp [WShape.has, WShape.arms, WShape.armsAll])
  (show (WTm.eq .res (.lit (.bool true))).value [] { args := args, res := some (.bool true), after := args } = some (.bool (true == true)) from w_eq_bool (w_res rfl) w_lit) rfl
theorem attach_call {l : OpenLaw} {n : Nat} {q : Program} {loose : List Str} {XP : (Str → Option Value) → Heap → Prop} {YP : World → Heap → Prop} {d : DefRec}
  (hn : l.most = some n) (hdf : d.params.defaults = [])
  (call : ∀ (w : World) (s₀ s₁ : Shared) (mg mb : Str → Option Value) (fa : Addr) (o : Obj) (pm cd doc : Value) (a : Addr) (vs : List Value) (ns : List Int),
   Ground q loose [] XP w s₀ mg mb s₁.heap → YP w s₁.heap →
   s₁.heap.get? fa = some o → o.data = .func (docDef d.name d.params d.body d.scope pm cd doc) → s₁.heap.CodeRec cd d.name → mg d.name = some (.ref fa) →
   s₁.heap.get? a = some { cls := .type "list", data := .seq vs.toArray } → IntsAre vs ns → ns.length ≤ n → s₁.gens = #[] →
   codeAny (model l.prog w) callerA (.call (.ref fa) ⟨[.ref a], []⟩) (fun r s' => r = .ok (.ret (.bool true)) ∧ OldK s₁.heap s'.heap ∧ s'.os = s₁.os ∧ AllBare s'.gens) s₁) :
  WalkO q loose XP YP l.row.toRowW d [] (fun f vs => PySem.call f vs) := by
 intro w s₀ s₁ mg mb G Y fa o pm cd doc dV kV ho hd hcd hD hmg hg args vals as hpre hlay hrd hwl hlo
 obtain rfl : dV = .none := Dflts.none hD hdf
 obtain rfl : kV = .none := Dflts.noKw hD
 obtain ⟨a, vs, ns, rfl, rfl, hobj, hints, hlen⟩ := script_of hn hpre hwl
 refine enter_call (codeAny_mono (call w s₀ s₁ mg mb fa o pm cd doc a vs ns G Y ho (fd_plain hd) hcd hmg hobj hints hlen hg) fun r s' hq => ?_)
 obtain ⟨rfl, h2, h3, h4⟩ := hq
 exact ⟨.inl ⟨.bool true, .bool true, [], rfl, fun _ => rfl, .bool true, post_true l _, fun _ => ⟨List.Pairwise.nil, fun _ hm => (nomatch hm)⟩⟩, h2, h3, h4⟩
section
variable {prog : Program} {w : World} {A : Around} {E : Value → Shared → Prop} {s : Shared} {K : Frag}
end
end Att
namespace L2
open PySem PySem.Spec PyProof.Rows
theorem vals_ints : ∀ {vs : List Value} {ns : List Int}, IntsAre vs ns → Vals (ns.map V.int) vs
 | _, _, .nil => .nil
 | _, _, .cons n t h => .cons ⟨t, rfl⟩ (vals_ints h)
noncomputable def Only (H : Hp) : Prop := ∀ b, H b = none ∨ ∃ o xs, H b = some (.frz o (.lst xs))
theorem law_call {P : Program} {w : World} {K : PySem.W.Frag} {mg mb : Str → Option Value} {CX : CXT} {k : Nat} {fa a : Addr} {fd : FuncData} {x : Str} {sp : Sp} {s₁ : Shared} {vs : List Value} {ns : List Int}
  (KX : K.In s₁.heap) (hns : s₁.heap.Ns mainGlobals mg) (hb : s₁.heap.Ns builtinsNs mb) (hbb : ∀ x : Str, x ≠ "__name__" → mb x = bootBuiltins x) (hlim : s₁.heap.NoLimit) (hg : s₁.gens = #[])
  (ha : s₁.heap.get? a = some { cls := .type "list", data := .seq vs.toArray }) (hi : IntsAre vs ns) (hl : ns.length ≤ sizeLine) (hr : Room k callerA)
  (F : ∀ base : Heap, K.In base → base.Ns mainGlobals mg → FnOk P w K mg base CX k fa fd [x] sp) (hbind : ∀ (s : Shared) (u : Value), BindsTo s fd ⟨[u], []⟩ [(x, u)])
  (hsp : ∀ H : Hp, Only H → SqL K H a (ns.map V.int) → sp [.ref a] H (fun v _ => v = .bl true) fun _ _ _ => False)
  (hCX : ∀ H e s', CX [] H s₁ (fun _ _ _ => False) e s' → False) :
  codeAny (model P w) callerA (.call (.ref fa) ⟨[.ref a], []⟩) (fun r s' => r = .ok (.ret (.bool true)) ∧ OldK s₁.heap s'.heap ∧ s'.os = s₁.os ∧ AllBare s'.gens) s₁ := by
 have rv := vals_ints hi
 have lenV := hi.length
 have core : ∀ H : Hp, Only H → SqL K H a (ns.map V.int) → HOk P w H s₁.heap → (∀ b, H b ≠ none → b = a) → (H a ≠ none → K.lookup a = none) →
   codeAny (model P w) callerA (.call (.ref fa) ⟨[.ref a], []⟩) (fun r s' => r = .ok (.ret (.bool true)) ∧ OldK s₁.heap s'.heap ∧ s'.os = s₁.os ∧ AllBare s'.gens) s₁ := by
  intro H hO hS hok hA hK
  have base_of : ∀ {b : Addr} {o : Obj}, s₁.heap.get? b = some o → H b = none → (hidT s₁.heap H).get? b = some o := fun e n => hidT_get e n
  have noA : ∀ {b : Addr} {o : Obj} {es : Array DictEntry} {ep : Nat}, s₁.heap.get? b = some o → o.data = .dict es ep → H b = none := fun {b o es ep} e d => by
   cases q : H b with
   | none => rfl
   | some u =>
    have e' : b = a := hA b (by rw [q]; simp)
    subst e'
    rw [ha] at e; cases e
    have d' : Data.seq vs.toArray _ = Data.dict es ep := d
    cases d'
  have nsK : ∀ {b : Addr} {m : Str → Option Value}, s₁.heap.Ns b m → (hidT s₁.heap H).Ns b m := fun {b m} ⟨o, es, ep, e, d, r⟩ => ⟨o, es, ep, base_of e (noA e d), d, r⟩
  have hKb : K.In (hidT s₁.heap H) := fun b o e => base_of (KX b o e) (by
   cases q : H b with
   | none => rfl
   | some u =>
    have e' : b = a := hA b (by rw [q]; simp)
    subst e'
    rw [hK (by rw [q]; simp)] at e; cases e)
  have hM : Mod K mg (hidT s₁.heap H) := ⟨hKb, nsK hns, ⟨mb, nsK hb, hbb⟩, let ⟨mc, h1, h2⟩ := hlim; ⟨mc, nsK h1, h2⟩⟩
  have e0 : Env0 P w K mg (hidT s₁.heap H) callerA [] s₁ H := ⟨rfl, hM, fun b o e => of_hidT e, Nat.le_of_eq (hidT_size _ _), trivial, fun b hb => absurd (show b ∈ ([] : List Addr) from hb) (by simp), hok, .of_eq hg⟩
  refine codeAny_mono ((F _ hKb (nsK hns)).run callerA [] s₁ H ⟨[.ref a], []⟩ [.ref a] [.ref a] _ _ hr e0 (hbind s₁ (.ref a)) (.cons rfl .nil) (hsp H hO hS)) fun r s' h => ?_
  cases r with
  | error e => exact (hCX H e s' h).elim
  | ok fl =>
   cases fl with
   | next => exact False.elim h
   | brk => exact False.elim h
   | cont => exact False.elim h
   | ret u =>
    obtain ⟨v, H', os, bare, un, hok', r', q⟩ := h
    have q' : v = .bl true := q
    subst q'
    obtain rfl : u = Value.bool true := r'
    refine ⟨rfl, OldK.of_keep fun b o e => ?_, os, bare⟩
    cases q : H b with
    | none => exact un.keep b o e q (by intro z; exact absurd (show b ∈ ([] : List Addr) from z) (by simp)) (by simp)
    | some u =>
     rcases hO b with z | ⟨ob, xs, z⟩
     ·rw [q] at z; cases z
     ·have z2 := un.frzs b ob _ z
      obtain ⟨e1, _⟩ := hok b _ z
      obtain ⟨e2, _⟩ := hok' b _ z2
      rw [e] at e1; cases e1
      exact e2
 cases hk : K.lookup a with
 | some o =>
  have e := KX a o hk
  rw [ha] at e
  cases e
  refine core (fun _ => none) (fun _ => .inl rfl) (.inr ⟨_, vs.toArray, _, hk, rfl, rfl, rfl, by rw [List.size_toArray, lenV]; exact hl, by simpa using rv⟩) (fun b u z => by have z' : (none : Option HO) = some u := z; cases z') (fun b z => absurd rfl z) fun z => absurd rfl z
 | none =>
  refine core (fun b => if b = a then some (.frz { cls := .type "list", data := .seq vs.toArray } (.lst (ns.map V.int))) else none) (fun b => ?_) (.inl (.inr ⟨{ cls := .type "list", data := .seq vs.toArray }, if_pos rfl⟩)) (fun b u z => ?_) (fun b z => ?_) fun _ => hk
  ·by_cases hb : b = a
   ·exact .inr ⟨_, _, if_pos hb⟩
   ·exact .inl (if_neg hb)
  ·by_cases hb : b = a
   ·have z' := (if_pos hb).symm.trans z
    cases z'
    subst hb
    exact ⟨ha, by rw [List.length_map]; exact hl, vs, _, rv, ha⟩
   ·have z' := (if_neg hb).symm.trans z
    cases z'
  ·by_cases hb : b = a
   ·exact hb
   ·exact absurd (if_neg hb) z
end L2
namespace L2
open PySem PySem.Spec PyProof.Rows
theorem walk_of {l : PySem.W.OpenLaw} {n k : Nat} {q : Program} {loose : List Str} {XP : (Str → Option Value) → Heap → Prop} {YP : World → Heap → Prop} {d : DefRec} {K : Params → PySem.W.Frag} {CX : World → CXT} {sp : World → Sp} {x : Str}
  (hn : l.most = some n) (hn2 : n ≤ sizeLine) (hdf : d.params.defaults = []) (hr : Room k callerA)
  (hY : ∀ (w : World) (h : Heap), YP w h → (K w.params).In h)
  (F : ∀ (w : World) (mg : Str → Option Value) (fa : Addr) (h : Heap), (K w.params).In h → h.Ns mainGlobals mg → mg d.name = some (.ref fa) →
   ∃ fd : FuncData, (∀ (s : Shared) (u : Value), BindsTo s fd ⟨[u], []⟩ [(x, u)]) ∧
    ∀ base : Heap, (K w.params).In base → base.Ns mainGlobals mg → FnOk l.prog w (K w.params) mg base (CX w) k fa fd [x] (sp w))
  (hsp : ∀ (w : World) (H : Hp) (a : Addr) (ns : List Int), ns.length ≤ n → Only H → SqL (K w.params) H a (ns.map V.int) → sp w [.ref a] H (fun v _ => v = .bl true) fun _ _ _ => False)
  (hCX : ∀ (w : World) (H : Hp) (s : Shared) (e : Value) (s' : Shared), CX w [] H s (fun _ _ _ => False) e s' → False) :
  PySem.W.WalkO q loose XP YP l.row.toRowW d [] (fun f vs => PySem.call f vs) := by
 refine Att.attach_call hn hdf fun w s₀ s₁ mg mb fa o pm cd doc a vs ns G Y ho hd hcd hmg hobj hints hlen hg => ?_
 have KX := hY w _ Y
 obtain ⟨fd, hb, hF⟩ := F w mg fa _ KX G.T.g hmg
 exact law_call KX G.T.g G.T.b G.T.builtins G.T.nolimit hg hobj hints (Nat.le_trans hlen hn2) hr hF hb (fun H hO hS => hsp w H a ns hlen hO hS) fun H e s' => hCX w H s₁ e s'
end L2
namespace L2
open PySem PySem.Spec PyProof.Rows
noncomputable def defArgs (s : Stmt) : Arguments := match s with
 | .FunctionDef _ a _ _ _ _ _ _ _ _ => a
 | _ => { posonlyargs := [], args := [], vararg := none, kwonlyargs := [], kw_defaults := [], kwarg := none, defaults := [] }
noncomputable def defBody (s : Stmt) : List Stmt := match s with
 | .FunctionDef _ _ b _ _ _ _ _ _ _ => b
 | _ => []
noncomputable def defScope (s : Stmt) : Scope := match s with
 | .FunctionDef _ _ _ _ _ _ sc _ _ _ => sc
 | _ => { kind := .function, names := [], isGenerator := false, isCoroutine := false }
noncomputable abbrev CX0 : CXT := fun _ _ _ _ _ _ => False
noncomputable abbrev E0 : XK := fun _ _ _ => False
theorem pass0 {X : Cx} : Passes CX0 X E0 := fun _ _ _ _ _ _ _ h => h.elim
structure Fun (K : PySem.W.Frag) (x qual : Str) (st : Stmt) (f : Addr) (fd : FuncData) : Prop where
 ex : ∃ (oc : Value) (od : Option Addr) (kV doc pm : Value) (an : Option Addr) (cdv ct : Value) (osl : Array (Option Value)),
  fd = PySem.W.fnOf x qual (defArgs st) (defBody st) (defScope st) .none kV doc pm an cdv ct ∧ K.lookup f = some ⟨oc, od, .func fd, osl⟩ ∧ PySem.W.codeIn K cdv qual = true
 kp : PySem.W.keepIn K (.ref f) = true
section
variable {P : Program} {w : World} {K : PySem.W.Frag} {mg : Str → Option Value} {base : Heap}
theorem Fun.ok {x qual : Str} {st : Stmt} {f : Addr} {fd : FuncData} {N ps : List Str} {k : Nat} {sp : Sp} (F : Fun K x qual st f fd) (S : FnScope N ps (defScope st)) (len : ∀ vs H Q E, sp vs H Q E → vs.length = ps.length)
  (hbody : ∀ (cdv : Value) (A : Around) (outer : List Env) (s : Shared) (H : Hp) (vs : List V) (Q : VK) (E : XK), Room k (A.deeper (envOfC qual (defScope st) s.heap.objs.size f cdv)) → sp vs H Q E →
   ∃ t, PSs (cxOf CX0 P w K mg base N qual (defScope st) f cdv A outer s H E).nox (defBody st) t ∧ t { nx := fun _ H' => Q .non H', rt := Q } (start N vs) H) : FnOk P w K mg base CX0 (k + 1) f fd ps sp := by
 obtain ⟨oc, od, kV, doc, pm, an, cdv, ct, osl, rfl, lk, hcd⟩ := F.ex
 refine fn_of lk hcd S len fun A outer s H vs Q E hr hsp => ?_
 obtain ⟨t, h, q⟩ := hbody cdv A outer s H vs Q E hr hsp
 exact ⟨t, h.nox, q⟩
theorem Fun.binds {x qual : Str} {st : Stmt} {f : Addr} {fd : FuncData} {ps : List Str} (F : Fun K x qual st f fd)
  (h : ∀ (kV doc pm : Value) (an : Option Addr) (cdv ct : Value) (us : List Value), us.length = ps.length → bindArgs (PySem.W.fnOf x qual (defArgs st) (defBody st) (defScope st) .none kV doc pm an cdv ct) ⟨us, []⟩ = pure (ps.zip us)) : Binds K fd ps [] := by
 obtain ⟨oc, od, kV, doc, pm, an, cdv, ct, osl, rfl, lk, hcd⟩ := F.ex
 exact .all (h kV doc pm an cdv ct)
theorem fun_mk {x qual : Str} {st : Stmt} {f : Addr} {oc : Value} {od an : Option Addr} {osl : Array (Option Value)} {kV doc pm cdv ct : Value} (l : K.lookup f = some ⟨oc, od, .func (PySem.W.fnOf x qual (defArgs st) (defBody st) (defScope st) .none kV doc pm an cdv ct), osl⟩)
  (c : PySem.W.codeIn K cdv qual = true) (k : PySem.W.keepIn K (.ref f) = true) : Fun K x qual st f (PySem.W.fnOf x qual (defArgs st) (defBody st) (defScope st) .none kV doc pm an cdv ct) := ⟨⟨oc, od, kV, doc, pm, an, cdv, ct, osl, rfl, l, c⟩, k⟩
end
section
variable {X : Cx}
end
theorem iteF {A B : Prop} (h : B) : if false = true then A else B := by
 rw [if_neg Bool.false_ne_true]
 exact h
theorem iteT {A B : Prop} (h : A) : if true = true then A else B := by
 rw [if_pos rfl]
 exact h
noncomputable def Same (H H' : Hp) : Prop := ∀ b o, H b = some o → H' b = some o
theorem Same.refl (H : Hp) : Same H H := fun _ _ h => h
theorem Same.trans {H H1 H2 : Hp} (a : Same H H1) (b : Same H1 H2) : Same H H2 := fun c o h => b c o (a c o h)
theorem Same.free {H H' : Hp} (e : Same H H') {l : Addr} (h : H' l = Option.none) : H l = Option.none := by
 cases q : H l with
 | none => rfl
 | some o =>
  rw [e l o q] at h
  cases h
theorem Same.seq {K : PySem.W.Frag} {H H' : Hp} {a : Addr} {xs : List V} (e : Same H H') (h : SqL K H a xs) : SqL K H' a xs := by
 rcases h with (h | ⟨o, h⟩) | h
 ·exact .inl (.inl (e _ _ h))
 ·exact .inl (.inr ⟨o, e _ _ h⟩)
 ·exact .inr h
end L2
set_option Elab.async false
set_option linter.all false
set_option maxRecDepth 100000
namespace L2
open PySem PySem.Spec PyProof.Rows
section
variable {κ : Type} [DecidableEq κ]
noncomputable def valV (kvs : List (κ × V)) (k : κ) : Option V := (kvs.find? fun kv => decide (kv.1 = k)).map (·.2)
noncomputable def putK (kvs : List (κ × V)) (k : κ) (v : V) : List (κ × V) :=
 if (kvs.any fun kv => decide (kv.1 = k)) = true then kvs.map (fun kv => if kv.1 = k then (kv.1, v) else kv) else kvs ++ [(k, v)]
theorem valV_pos {p : κ × V} {r : List (κ × V)} {k : κ} (e : p.1 = k) : valV (p :: r) k = some p.2 := by simp [valV, List.find?_cons, e]
theorem valV_neg {p : κ × V} {r : List (κ × V)} {k : κ} (e : ¬ p.1 = k) : valV (p :: r) k = valV r k := by simp [valV, List.find?_cons, e]
theorem valV_any (k : κ) : ∀ kvs : List (κ × V), (kvs.any fun kv => decide (kv.1 = k)) = (valV kvs k).isSome
 | [] => rfl
 | p :: r => by
  rw [List.any_cons]
  by_cases e : p.1 = k
  ·simp only [valV_pos e, decide_eq_true e, Bool.true_or, Option.isSome_some]
  ·rw [valV_neg e, decide_eq_false e, Bool.false_or]; exact valV_any k r
theorem length_putK (kvs : List (κ × V)) (k : κ) (v : V) : (putK kvs k v).length ≤ kvs.length + 1 := by
 unfold putK
 split
 ·rw [List.length_map]; omega
 ·rw [List.length_append, List.length_cons, List.length_nil]; omega
theorem putK_new {kvs : List (κ × V)} {k : κ} (v : V) (h : valV kvs k = none) : putK kvs k v = kvs ++ [(k, v)] := by
 unfold putK
 rw [valV_any, h]
 exact if_neg (by decide)
theorem RelO.isSome_eq {o : Option V} {u : Option Value} (r : RelO o u) : o.isSome = u.isSome := by
 cases o with
 | none => cases u with
  | none => rfl
  | some _ => exact (show False from r).elim
 | some _ => cases u with
  | none => exact (show False from r).elim
  | some _ => rfl
theorem RelO.getD {o : Option V} {u : Option Value} {d : V} {d' : Value} (r : RelO o u) (rd : RelV d d') : RelV (o.getD d) (u.getD d') := by
 cases o with
 | none => cases u with
  | none => exact rd
  | some _ => exact (show False from r).elim
 | some _ => cases u with
  | none => exact (show False from r).elim
  | some _ => exact r
theorem KV.val {kvs : List (κ × V)} {vs : List (κ × Value)} (r : KV kvs vs) (k : κ) : RelO (valV kvs k) (valueAt vs k) := by
 unfold KV at r
 induction r with
 | nil => exact True.intro
 | @cons p q ps qs h t ih =>
  obtain ⟨h1, h2⟩ := h
  by_cases e : p.1 = k
  ·have e' : q.1 = k := h1.symm.trans e
   have b : valueAt (q :: qs) k = some q.2 := by simp [valueAt, List.find?_cons, e']
   rw [valV_pos e, b]; exact h2
  ·have e' : ¬ q.1 = k := fun z => e (h1.trans z)
   have b : valueAt (q :: qs) k = valueAt qs k := by simp [valueAt, List.find?_cons, e']
   rw [valV_neg e, b]; exact ih
theorem KV.any {kvs : List (κ × V)} {vs : List (κ × Value)} (r : KV kvs vs) (k : κ) : (kvs.any fun kv => decide (kv.1 = k)) = vs.any fun kv => decide (kv.1 = k) := by
 unfold KV at r
 induction r with
 | nil => rfl
 | cons h t ih => rw [List.any_cons, List.any_cons, ih, h.1]
theorem KV.repl {kvs : List (κ × V)} {vs : List (κ × Value)} (r : KV kvs vs) (k : κ) {y : V} {u : Value} (ry : RelV y u) :
  KV (kvs.map fun kv => if kv.1 = k then (kv.1, y) else kv) (vs.map fun kv => if kv.1 = k then (kv.1, u) else kv) := by
 unfold KV at r ⊢
 induction r with
 | nil => exact .nil
 | @cons p q ps qs h t ih =>
  rw [List.map_cons, List.map_cons]
  refine .cons ?_ ih
  obtain ⟨h1, h2⟩ := h
  by_cases e : p.1 = k
  ·rw [if_pos e, if_pos (h1.symm.trans e)]; exact ⟨h1, ry⟩
  ·rw [if_neg e, if_neg (fun z => e (h1.trans z))]; exact ⟨h1, h2⟩
theorem KV.put {kvs : List (κ × V)} {vs : List (κ × Value)} (r : KV kvs vs) (k : κ) {y : V} {u : Value} (ry : RelV y u) : KV (putK kvs k y) (stored vs k u) := by
 unfold putK stored
 rw [r.any k]
 by_cases e : (vs.any fun kv => decide (kv.1 = k)) = true
 ·rw [if_pos e, if_pos e]; exact r.repl k ry
 ·rw [if_neg e, if_neg e]; exact Paired.snoc r ⟨rfl, ry⟩
theorem KV.length {kvs : List (κ × V)} {vs : List (κ × Value)} (r : KV kvs vs) : kvs.length = vs.length := Paired.length r
end
theorem kV_is {P : Program} {w : World} {k : Key} {u : Value} (r : RelV (kV k) u) : (mixKind P w).is k u = true := by
 cases k with
 | inl i => obtain ⟨t, e⟩ := (show ∃ t, u = Value.int i t from r); subst e; exact mixKind_int P w i t
 | inr x => obtain ⟨t, e⟩ := (show ∃ t, u = Value.str x t from r); subst e; exact mixKind_str P w x t
theorem items_are {P : Program} {w : World} : ∀ {ks : List Key} {us : List Value}, Vals (ks.map kV) us → ItemsAre (mixKind P w) ks us
 | [], _, r => by rw [List.map_nil] at r; cases r; exact .nil
 | k :: ks, _, r => by
  rw [List.map_cons] at r
  cases r with
  | cons h t => exact .cons (kV_is h) (items_are t)
noncomputable abbrev KT (H : Hp) : List (List Key × V) → List (List Key × Addr × Value) → Prop := Paired fun p q => p.1 = q.1 ∧ H q.2.1 = some (.tup (p.1.map kV)) ∧ RelV p.2 q.2.2
theorem KT.val {H : Hp} {kvs : List (List Key × V)} {xs : List (List Key × Addr × Value)} (r : KT H kvs xs) (k : List Key) : RelO (valV kvs k) ((atKey xs k).map (·.2)) := by
 induction r with
 | nil => exact True.intro
 | @cons p q ps qs h t ih =>
  obtain ⟨h1, _, h2⟩ := h
  by_cases e : p.1 = k
  ·have e' : q.1 = k := h1.symm.trans e
   have b : atKey (q :: qs) k = some q.2 := by simp [atKey, List.find?_cons, e']
   rw [valV_pos e, b]; exact h2
  ·have e' : ¬ q.1 = k := fun z => e (h1.trans z)
   have b : atKey (q :: qs) k = atKey qs k := by simp [atKey, List.find?_cons, e']
   rw [valV_neg e, b]; exact ih
theorem KT.repl {H : Hp} {kvs : List (List Key × V)} {xs : List (List Key × Addr × Value)} (r : KT H kvs xs) (k : List Key) {y : V} {u : Value} (ry : RelV y u) :
  KT H (kvs.map fun kv => if kv.1 = k then (kv.1, y) else kv) (xs.map (putAt k u)) := by
 induction r with
 | nil => exact .nil
 | @cons p q ps qs h t ih =>
  rw [List.map_cons, List.map_cons]
  refine .cons ?_ ih
  obtain ⟨h1, h2, h3⟩ := h
  unfold putAt
  by_cases e : p.1 = k
  ·rw [if_pos e, if_pos (h1.symm.trans e)]; exact ⟨h1, h2, ry⟩
  ·rw [if_neg e, if_neg (fun z => e (h1.trans z))]; exact ⟨h1, h2, h3⟩
theorem KT.put {H : Hp} {kvs : List (List Key × V)} {xs : List (List Key × Addr × Value)} (r : KT H kvs xs) (k : List Key) {b : Addr} {y : V} {u : Value} (hb : H b = some (.tup (k.map kV))) (ry : RelV y u) :
  KT H (putK kvs k y) (storedH xs k b u) := by
 have e : (kvs.any fun kv => decide (kv.1 = k)) = (atKey xs k).isSome := by
  rw [valV_any, (r.val k).isSome_eq, Option.isSome_map]
 unfold putK storedH
 rw [e]
 by_cases q : (atKey xs k).isSome = true
 ·rw [if_pos q, if_pos q]; exact r.repl k ry
 ·rw [if_neg q, if_neg q]; exact Paired.snoc r ⟨rfl, hb, ry⟩
theorem KT.keeps {H H' : Hp} {kvs : List (List Key × V)} {xs : List (List Key × Addr × Value)} (r : KT H kvs xs) (ht : ∀ b ys, H b = some (.tup ys) → H' b = some (.tup ys)) : KT H' kvs xs :=
 Paired.mapP r fun _ _ z => ⟨z.1, ht _ _ z.2.1, z.2.2⟩
section
variable {P : Program} {w : World} {H : Hp} {h : Heap} {a : Addr}
theorem rd_of {u : HO} (ok : HOk P w H h) (e : Rd H a u) : ObjOk P w H h a u := e.ok ok
theorem dk_rd {kvs : List (Key × V)} (ok : HOk P w H h) (e : Rd H a (.dK kvs)) : kvs.length ≤ sizeLine ∧ (a == sysModules) = false ∧ ∃ vs, KV kvs vs ∧ h.DictOf (mixKind P w) a vs :=
 show ObjOk P w H h a (.dK kvs) from rd_of ok e
theorem dk_of {kvs : List (Key × V)} (ok : HOk P w H h) (e : H a = some (.dK kvs)) : kvs.length ≤ sizeLine ∧ (a == sysModules) = false ∧ ∃ vs, KV kvs vs ∧ h.DictOf (mixKind P w) a vs := dk_rd ok (.inl e)
theorem key_of {ks : List Key} (ok : HOk P w H h) (e : H a = some (.tup (ks.map kV))) : (tupleKind (mixKind P w)).is h ks a := by
 obtain ⟨_, its, r, o, h1, h2, n, h3⟩ := (show ObjOk P w H h a (.tup (ks.map kV)) from ok a _ e)
 exact ⟨o, its.toArray, n, h1, h2, h3, by simpa using items_are r⟩
theorem dt_rd {kvs : List (List Key × V)} (ok : HOk P w H h) (e : Rd H a (.dT kvs)) : kvs.length ≤ sizeLine ∧ (a == sysModules) = false ∧
  ∃ xs, KT H kvs xs ∧ h.DictOfH (tupleKind (mixKind P w)) a xs := by
 obtain ⟨z, y, xs, r, o, es, ep, h1, h2, h3, h4, h5⟩ := (show ObjOk P w H h a (.dT kvs) from rd_of ok e)
 refine ⟨z, y, xs, r, o, es, ep, h1, h2, h3, h4, fun x hx => ?_, h5⟩
 have all : ∀ {l : List (List Key × V)} {m : List (List Key × Addr × Value)}, KT H l m → ∀ x ∈ m, (tupleKind (mixKind P w)).is h x.1 x.2.1 := by
  intro l m q
  induction q with
  | nil => intro x hx; exact nomatch hx
  | @cons p q ps qs hq t ih =>
   intro x hx
   rcases List.mem_cons.mp hx with e | hx
   ·subst e
    exact key_of ok (by rw [← hq.1]; exact hq.2.1)
   ·exact ih x hx
 exact all r x hx
theorem dt_of {kvs : List (List Key × V)} (ok : HOk P w H h) (e : H a = some (.dT kvs)) : kvs.length ≤ sizeLine ∧ (a == sysModules) = false ∧
  ∃ xs, KT H kvs xs ∧ h.DictOfH (tupleKind (mixKind P w)) a xs := dt_rd ok (.inl e)
end
noncomputable def DGet (H : Hp) (a : Addr) (y : V) (r : Option V) : Prop :=
 (∃ kvs k, Rd H a (.dK kvs) ∧ y = kV k ∧ r = valV kvs k) ∨ ∃ kvs k b, Rd H a (.dT kvs) ∧ y = .ref b ∧ H b = some (.tup (k.map kV)) ∧ r = valV kvs k
noncomputable def DPut (H : Hp) (a : Addr) (y v : V) (H' : Hp) : Prop :=
 (∃ kvs k, H a = some (.dK kvs) ∧ y = kV k ∧ kvs.length < sizeLine ∧ H' = upd H a (.dK (putK kvs k v))) ∨
 ∃ kvs k b, H a = some (.dT kvs) ∧ y = .ref b ∧ H b = some (.tup (k.map kV)) ∧ kvs.length < sizeLine ∧ H' = upd H a (.dT (putK kvs k v))
theorem DGet.k {H : Hp} {a : Addr} {kvs : List (Key × V)} {k : Key} (e : H a = some (.dK kvs)) : DGet H a (kV k) (valV kvs k) := .inl ⟨kvs, k, .inl e, rfl, rfl⟩
theorem DGet.t {H : Hp} {a b : Addr} {kvs : List (List Key × V)} {k : List Key} (e : H a = some (.dT kvs)) (eb : H b = some (.tup (k.map kV))) : DGet H a (.ref b) (valV kvs k) := .inr ⟨kvs, k, b, .inl e, rfl, eb, rfl⟩
theorem DPut.k {H : Hp} {a : Addr} {kvs : List (Key × V)} {k : Key} {v : V} (e : H a = some (.dK kvs)) (hl : kvs.length < sizeLine) : DPut H a (kV k) v (upd H a (.dK (putK kvs k v))) := .inl ⟨kvs, k, e, rfl, hl, rfl⟩
theorem DPut.t {H : Hp} {a b : Addr} {kvs : List (List Key × V)} {k : List Key} {v : V} (e : H a = some (.dT kvs)) (eb : H b = some (.tup (k.map kV))) (hl : kvs.length < sizeLine) :
  DPut H a (.ref b) v (upd H a (.dT (putK kvs k v))) := .inr ⟨kvs, k, b, e, rfl, eb, hl, rfl⟩
section
variable {X : Cx} {pins : List (Addr × Obj)} {σ : St} {H : Hp} {s : Shared} {a : Addr} {y v : V} {u r : Value} {o : Option V} {A : Around} {E : Value → Shared → Prop}
theorem Inv.big (I : Inv X pins σ H s) : sysModules < s.heap.objs.size := by
 have h : mainGlobals < s.heap.objs.size := (I.mod.glob.keeps I.bk).lt
 exact Nat.lt_trans (by decide) h
theorem d_getItem {Q : Value → Shared → Prop} (hu : A.units + 1 < cLine) (I : Inv X pins σ H s) (g : DGet H a y (some v)) (ry : RelV y u) (h : ∀ w' s', Inv X pins σ H s' → RelV v w' → Q w' s') :
  wpAny (model X.prog X.w) A (getItem (.ref a) u) Q E s := by
 rcases g with ⟨kvs, k, e, ey, l⟩ | ⟨kvs, k, b, e, ey, eb, l⟩
 ·subst ey
  obtain ⟨z, hd, vs, rel, dd⟩ := dk_rd I.hok e
  obtain ⟨w', hw, rw'⟩ := RelO.some_of (v := v) (o := valueAt vs k) (by rw [l]; exact rel.val k)
  exact wpAny_getItem_of (kV_is ry) dd.mapOf hw (h w' _ (I.tok _) rw')
 ·subst ey
  cases (show u = Value.ref b from ry)
  obtain ⟨z, hd, xs, rel, dd⟩ := dt_rd I.hok e
  obtain ⟨w', hw, rw'⟩ := RelO.some_of (v := v) (o := (atKey xs k).map (·.2)) (by rw [l]; exact rel.val k)
  obtain ⟨p, hp, hp2⟩ := Option.map_eq_some_iff.mp hw
  refine wpAny_getItem_heap (tupleKind_room_in1 hu) (key_of I.hok eb) dd hp ?_
  rw [hp2]
  exact h w' _ (I.tok _) rw'
theorem d_in {Q : Value → Shared → Prop} (hu : A.units + 1 < cLine) (I : Inv X pins σ H s) (g : DGet H a y o) (ry : RelV y u) (h : ∀ s', Inv X pins σ H s' → Q (.bool o.isSome) s') :
  wpAny (model X.prog X.w) A (compareOp .In u (.ref a)) Q E s := by
 rcases g with ⟨kvs, k, e, ey, l⟩ | ⟨kvs, k, b, e, ey, eb, l⟩
 ·subst ey
  obtain ⟨z, hd, vs, rel, dd⟩ := dk_rd I.hok e
  refine wpAny_in_of (kV_is ry) hd dd.mapOf ?_
  rw [← (rel.val k).isSome_eq, ← l]
  exact h _ (I.tok _)
 ·subst ey
  cases (show u = Value.ref b from ry)
  obtain ⟨z, hd, xs, rel, dd⟩ := dt_rd I.hok e
  refine wpAny_in_heap (tupleKind_room_in1 hu) (key_of I.hok eb) hd dd ?_
  have q := (rel.val k).isSome_eq
  rw [Option.isSome_map] at q
  rw [← q, ← l]
  exact h _ (I.tok _)
theorem d_write {h' : Heap} {t' : Nat} {ob : HO} (I : Inv X pins σ H s) (mu : Mut (H a)) (hs : Heap.SameBut a s.heap h') (he : ∃ q, h'.get? a = some q) (new : ObjOk X.prog X.w (upd H a ob) h' a ob) :
  Inv X pins σ (upd H a ob) { s with heap := h', toks := t' } :=
 I.write (x := a) (e := a) mu (.inl rfl) (fun b q hb z => (hs.2 b hb).trans z) he new
theorem dk_new {P : Program} {w : World} {H' : Hp} {h' : Heap} {kvs : List (Key × V)} {vs : List (Key × Value)} (z : kvs.length ≤ sizeLine) (hd : (a == sysModules) = false) (rel : KV kvs vs) (dd : h'.DictOf (mixKind P w) a vs) :
  ObjOk P w H' h' a (.dK kvs) := ⟨z, hd, vs, rel, dd⟩
end
section
variable {X : Cx} {pins : List (Addr × Obj)} {σ : St} {H : Hp} {s : Shared} {a : Addr} {kvs : List (Key × V)} {k : Key} {u : Value} {A : Around} {E : Value → Shared → Prop}
end
noncomputable def NoSl (i : Expr) : Prop := ∀ ov iv, subscripted i false ov iv = operate [ov, iv] (getItem ov iv)
theorem subD_of {prog : Program} {w : World} {A : Around} {E : Value → Shared → Prop} {s : Shared} {env : Env} {value slice : Expr} {pos : Pos} {T id : String} {Q : Value → Shared → Prop}
  (hl : typeLookup (.type T) "__getitem__" = pure (some (.builtin id))) (hs : NoSl slice)
  (h : wpAny (model prog w) A (eval value env) (fun o s₁ => wpAny (model prog w) A (eval slice env) (fun i s₂ => s₂.TypeIs o T ∧ wpAny (model prog w) A (getItem o i) Q E s₂) E s₁) E s) :
  wpAny (model prog w) A (eval (.Subscript value slice pos) env) Q E s := by
 refine Subscript_ (wpAny_mono h (fun o s₁ h₁ => wpAny_mono h₁ (fun i s₂ h₂ => ?_) fun _ _ x => x) fun _ _ x => x)
 obtain ⟨hT, h₂⟩ := h₂
 unfold subscriptTail
 refine wpAny_bind ?_
 rw [getitemInPython_of_ne hT.not_modules]
 refine wpAny_bind (wpAny_specialOf hT hl ?_)
 have fin : wpAny (model prog w) A (subscripted slice false o i) (fun r s₃ => wpAny (model prog w) A (letTemporaryGo value o r >>= fun _ => pure r) Q E s₃) E s₂ := by
  rw [hs o i]
  exact wpAny_operating (wpAny_mono h₂ (fun r s₃ h₃ => wpAny_bind (wpAny_letTemporaryGo (wpAny_pure h₃))) fun _ _ x => x)
 first
  | exact wpAny_pure (wpAny_bind fin)
  | exact wpAny_bind (wpAny_pure (wpAny_bind fin))
  | exact wpAny_bind fin
theorem dict_typeIs {X : Cx} {pins : List (Addr × Obj)} {σ : St} {H : Hp} {s : Shared} {a : Addr} {y : V} {o : Option V} (I : Inv X pins σ H s) (g : DGet H a y o) : s.TypeIs (.ref a) "dict" := by
 rcases g with ⟨kvs, k, e, _, _⟩ | ⟨kvs, k, b, e, _, _, _⟩
 ·obtain ⟨_, _, vs, _, dd⟩ := dk_rd I.hok e
  exact dd.typeIs
 ·obtain ⟨_, _, xs, _, dd⟩ := dt_rd I.hok e
  exact dd.typeIs
noncomputable def tDGet (td ty : TE) : TE := fun σ H Q => td σ H fun x H1 => ty σ H1 fun y H2 => ∃ a v, x = .ref a ∧ DGet H2 a y (some v) ∧ Q v H2
section
variable {X : Cx} {o i e value : Expr} {pos pos' tpos : Pos} {td ty tv : TE}
theorem pe_dget (hu : X.A.units + 1 < cLine) (ho : PE X o td) (hi : PE X i ty) (hs : NoSl i) : PE X (.Subscript o i pos) (tDGet td ty) := by
 intro pins s σ H Q I h
 refine subD_of PySem.F.slot_dict_getitem.lookup hs (thn (ho pins s σ H _ I h) fun u s1 ⟨x, H1, I1, rx, q1⟩ => thn (hi pins s1 σ H1 _ I1 q1) fun iv s2 ⟨y, H2, I2, ry, a, v, ex, g, q2⟩ => ?_)
 subst ex
 obtain rfl : u = Value.ref a := rx
 exact ⟨dict_typeIs I2 g, d_getItem hu I2 g ry fun w' s3 I3 rw' => ⟨v, H2, I3, rw', q2⟩⟩
end
theorem dk_empty {P : Program} {w : World} {H : Hp} (h : Heap) (hb : sysModules < h.objs.size) : ObjOk P w H (h.push { cls := .type "dict", data := .dict #[] }) h.objs.size (.dK []) :=
 ⟨Nat.zero_le _, beq_eq_false_iff_ne.mpr (Ne.symm (Nat.ne_of_lt hb)), [], .nil, Heap.DictOf.new h⟩
theorem dt_empty {P : Program} {w : World} {H : Hp} (h : Heap) (hb : sysModules < h.objs.size) : ObjOk P w H (h.push { cls := .type "dict", data := .dict #[] }) h.objs.size (.dT []) :=
 ⟨Nat.zero_le _, beq_eq_false_iff_ne.mpr (Ne.symm (Nat.ne_of_lt hb)), [], .nil, _, #[], 0, Heap.get?_push_size _ rfl, ⟨rfl, rfl, rfl⟩, rfl, rfl, List.nodup_nil⟩
noncomputable def tDNewK : TE := fun _ H Q => ∀ p, H p = none → Q (.ref p) (upd H p (.dK []))
noncomputable def tDNewT : TE := fun _ H Q => ∀ p, H p = none → Q (.ref p) (upd H p (.dT []))
section
variable {X : Cx} {pos : Pos}
theorem pe_dnewK : PE X (.Dict [] [] pos) tDNewK := fun pins s σ H Q I h =>
 wpAny_Dict_empty ⟨.ref s.heap.objs.size, _, I.laid (a := s.heap.objs.size) (o := .dK []) (t' := s.toks) (fun _ _ q => Heap.get?_push_of_some _ q) (Nat.le_refl _) (dk_empty s.heap I.big), rfl, h _ (I.hok.fresh (Nat.le_refl _))⟩
theorem pe_dnewT : PE X (.Dict [] [] pos) tDNewT := fun pins s σ H Q I h =>
 wpAny_Dict_empty ⟨.ref s.heap.objs.size, _, I.laid (a := s.heap.objs.size) (o := .dT []) (t' := s.toks) (fun _ _ q => Heap.get?_push_of_some _ q) (Nat.le_refl _) (dt_empty s.heap I.big), rfl, h _ (I.hok.fresh (Nat.le_refl _))⟩
end
structure M1 (X : Cx) (o : Expr) (m : Str) (apos : Pos) (e : Expr) (cpos : Pos) : Prop where
 base : attributeBase o m X.env (eval o X.env) = eval o X.env
 few : ((backTo cpos (starEach [e] X.env)).all (fun x => !x.1) && (backToKw cpos (keywordEach [] X.env)).all (fun x => x.1.isSome)
  && decide (([e] : List Expr).length + ([] : List Keyword).length + (if ([] : List Keyword).isEmpty then 0 else 1) < 30)) = true
 line : (apos.endLine == cpos.line) = true
 trees : backTo cpos (starEach [e] X.env) = [(false, eval e X.env)]
structure M2 (X : Cx) (o : Expr) (m : Str) (apos : Pos) (e f : Expr) (cpos : Pos) : Prop where
 base : attributeBase o m X.env (eval o X.env) = eval o X.env
 few : ((backTo cpos (starEach [e, f] X.env)).all (fun x => !x.1) && (backToKw cpos (keywordEach [] X.env)).all (fun x => x.1.isSome)
  && decide (([e, f] : List Expr).length + ([] : List Keyword).length + (if ([] : List Keyword).isEmpty then 0 else 1) < 30)) = true
 line : (apos.endLine == cpos.line) = true
 trees : backTo cpos (starEach [e, f] X.env) = [(false, eval e X.env), (false, eval f X.env)]
noncomputable def IsD (H : Hp) (a : Addr) : Prop := (∃ kvs, Rd H a (.dK kvs)) ∨ ∃ kvs, Rd H a (.dT kvs)
theorem isD_at {X : Cx} {pins : List (Addr × Obj)} {σ : St} {H : Hp} {s : Shared} {a : Addr} (I : Inv X pins σ H s) (d : IsD H a) :
  s.TypeIs (.ref a) "dict" ∧ (∀ b, Value.ref a = .ref b → ∃ ob, s.heap.get? b = some ob ∧ ob.dict = none) ∧ (a == sysModules) = false := by
 rcases d with ⟨kvs, e⟩ | ⟨kvs, e⟩
 ·obtain ⟨_, hd, vs, _, dd⟩ := dk_rd I.hok e
  refine ⟨dd.typeIs, fun b q => ?_, hd⟩
  cases q
  obtain ⟨ob, _, _, h1, h2, _⟩ := dd
  exact ⟨ob, h1, h2.2.1⟩
 ·obtain ⟨_, hd, xs, _, dd⟩ := dt_rd I.hok e
  refine ⟨dd.typeIs, fun b q => ?_, hd⟩
  cases q
  obtain ⟨ob, _, _, h1, h2, _⟩ := dd
  exact ⟨ob, h1, h2.2.1⟩
section
variable {X : Cx} {pins : List (Addr × Obj)} {σ : St} {H : Hp} {s : Shared} {a : Addr} {y d : V} {u r : Value} {o : Option V} {A : Around} {E : Value → Shared → Prop}
theorem d_get1 {Q : Value → Shared → Prop} (hu : A.units + 1 < cLine) (I : Inv X pins σ H s) (g : DGet H a y o) (ry : RelV y u) (h : ∀ w' s', Inv X pins σ H s' → RelV (o.getD .non) w' → Q w' s') :
  wpAny (model X.prog X.w) A (call (.builtin "dict.get") [.ref a, u]) Q E s := by
 rcases g with ⟨kvs, k, e, ey, l⟩ | ⟨kvs, k, b, e, ey, eb, l⟩
 ·subst ey
  obtain ⟨z, hd, vs, rel, dd⟩ := dk_rd I.hok e
  refine call_meetsIn PySem.F.slot_dict_get dd.typeIs PySem.F.entry_dict_get (PySem.F.args_dict_get_2 _ _) (meets_dict_get (mixKind X.prog X.w) a (kV_is ry) hd) ⟨_, dd.mapOf, h _ _ (I.tok _) ?_⟩
  rw [l]
  exact (rel.val k).getD rfl
 ·subst ey
  cases (show u = Value.ref b from ry)
  obtain ⟨z, hd, xs, rel, dd⟩ := dt_rd I.hok e
  refine call_meetsIn PySem.F.slot_dict_get dd.typeIs PySem.F.entry_dict_get (PySem.F.args_dict_get_2 _ _) (meetsH_dict_get (tupleKind (mixKind X.prog X.w)) a b hd) ⟨tupleKind_room_in1 hu, k, xs, key_of I.hok eb, dd, h _ _ (I.tok _) ?_⟩
  rw [l]
  exact (rel.val k).getD rfl
end
noncomputable def tDGet1 (td ty : TE) : TE := fun σ H Q => td σ H fun x H1 => ∃ a, x = .ref a ∧ IsD H1 a ∧ ty σ H1 fun y H2 => ∃ o, DGet H2 a y o ∧ Q (o.getD .non) H2
section
variable {X : Cx} {o e f : Expr} {apos cpos : Pos} {td ty tx : TE}
theorem pe_dget1 (hu : X.A.units + 1 < cLine) (ho : PE X o td) (he : PE X e ty) (m : M1 X o "get" apos e cpos) : PE X (.Call (.Attribute o "get" apos) [e] [] cpos) (tDGet1 td ty) := by
 intro pins s σ H Q I h
 refine wpAny_Call_method m.base m.few m.line PySem.F.plainAttrs_dict PySem.F.slot_dict_get PySem.F.type_dict_get (thn (ho pins s σ H _ I h) fun u s1 ⟨x, H1, I1, rx, a, ex, d, q1⟩ => ?_)
 subst ex
 obtain rfl : u = Value.ref a := rx
 obtain ⟨t1, t2, _⟩ := isD_at I1 d
 refine ⟨t1, t2, ?_⟩
 rw [m.trees]
 refine Calls.callWith_builtin rfl (Calls.evalArgs_plain (Calls.spliced_cons (thn (he pins s1 σ H1 _ I1 q1) fun iv s2 ⟨y, H2, I2, ry, ov, g, q2⟩ => Calls.spliced_nil ?_)))
 exact d_get1 hu I2 g ry fun w' s3 I3 rw' => ⟨_, H2, I3, rw', q2⟩
end
section
variable {X : Cx} {pins : List (Addr × Obj)} {σ : St} {H : Hp} {s : Shared} {a : Addr} {kvs : List (Key × V)} {A : Around} {E : Value → Shared → Prop}
end
section
variable {X : Cx} {pins : List (Addr × Obj)} {σ : St} {H : Hp} {s : Shared} {a : Addr} {y : V} {u : Value} {A : Around} {E : Value → Shared → Prop}
end
end L2
set_option Elab.async false
set_option linter.all false
set_option autoImplicit false
namespace LH
open PySem PySem.W PySem.Calls PyProof.Rows
def runT (tb : String → Option Builtin) (p : Program) (w : World) (m : Nat) (ann : Option Value) : Nat → SharedT → Thread → Option SharedT
 | 0, _, _ => none
 | n + 1, s, t => match through t with
  | true => some s
  | false => match stepOk m ann t with
   | false => none
   | true => match stepT (denote tb) p w s t with
    | some r => runT tb p w m ann n r.1 r.2
    | none => none
section
variable {tb : String → Option Builtin} {p : Program} {w : World} {m : Nat} {ann : Option Value}
theorem runT_of : ∀ {n : Nat} {s s' : SharedT} {t : Thread}, runT tb p w m ann n s t = some s' → topRun tb p w m ann n s.abs t = some s'.abs
 | 0, _, _, _, h => by cases h
 | n + 1, s, s', t, h => by
  unfold runT at h
  unfold topRun
  cases he : through t with
  | true => rw [he] at h; cases h; rfl
  | false =>
   rw [he] at h
   cases hk : stepOk m ann t with
   | false => rw [hk] at h; cases h
   | true =>
    rw [hk] at h
    cases hs : stepT (denote tb) p w s t with
    | none => rw [hs] at h; cases h
    | some r => rw [hs] at h; rw [stepT_spec hs]; exact runT_of h
end
theorem left {p q : Program} {loose : List Str} {Xt : Shared → Bool} {α : Type} {Yf : Shared → α} {Ya : World → α} {N : Nat} {g0 : Bool} {T : Params → BT} {m : Nat} {life : Life} {ann : Option Value}
  (e : opening p = plainProg p.main.scope.names) (hN : Nat.ble 600 N = true) (f : ∀ s, fenceModules? p s = some s)
  (hb : ∀ P, boot_heap P = absHeap (T P) m life)
  (hs : ∀ P, ((boot_heap P).isNs mainGlobals, (boot_heap P).objs.size, (boot_heap P).nsMap mainGlobals "__annotations__") = (true, m, ann))
  (run : ∀ (w : World) (os : OsState), (runT treeTable p w m ann N ⟨T w.params, m, life, Array.mk [], boot_drawn, boot_toks, os⟩ (topStub p)).map
   (fun s => (staticsOk (importedModules p.main.body) (boot_heap w.params) s.abs.heap && namesBound p s.abs.heap && gensDone s.abs && laidKept (boot_heap w.params) s.abs.heap,
    openSeen q loose (importedModules p.main.body) Xt g0 s.abs, Yf s.abs)) = some (true, openGood q loose, Ya w)) : LeftO p q loose Xt Yf Ya N g0 := fun w => by
 obtain ⟨⟨h, gs, d, k, os⟩, e1, e2⟩ := Option.map_eq_some_iff.mp (boot_open e hN f w)
 obtain ⟨rfl, rfl, rfl, rfl⟩ : h = boot_heap w.params ∧ gs = Array.mk [] ∧ d = boot_drawn ∧ k = boot_toks := by simpa using e2
 obtain ⟨s, r1, r2⟩ := Option.map_eq_some_iff.mp (run w os)
 obtain ⟨l1, l2, l3⟩ : _ ∧ _ ∧ _ := by simpa only [Prod.mk.injEq] using r2
 obtain ⟨z1, z2, z3⟩ : _ ∧ _ ∧ _ := by simpa only [Prod.mk.injEq] using hs w.params
 have r := runT_of r1
 have ab : (SharedT.abs ⟨T w.params, m, life, Array.mk [], boot_drawn, boot_toks, os⟩) = ⟨boot_heap w.params, Array.mk [], boot_drawn, boot_toks, os⟩ := by
  unfold SharedT.abs; rw [hb w.params]
 rw [ab] at r
 have t : topFrom treeTable p w N ⟨boot_heap w.params, Array.mk [], boot_drawn, boot_toks, os⟩ = some s.abs := by
  unfold topFrom
  dsimp only
  rw [z1, z2, z3, r]
  show (match staticsOk (importedModules p.main.body) (boot_heap w.params) s.abs.heap && namesBound p s.abs.heap && gensDone s.abs && laidKept (boot_heap w.params) s.abs.heap with | true => some s.abs | false => none) = _
  rw [l1]
 unfold openEnds
 rw [e1]
 show (topFrom treeTable p w N _).map _ = _
 rw [t]
 exact congrArg some (Prod.ext l2 l3)
end LH
set_option Elab.async false
set_option linter.all false
set_option autoImplicit false
namespace LH
open PySem PySem.W PySem.Calls PyProof.Rows
set_option maxRecDepth 100000
noncomputable def bootT (P : Params) : BT := ((boot_heap P).objs.toList.foldl (fun (z : BT × Nat) o => (z.1.ins z.2 o, z.2 + 1)) (BT.nil, 0)).1
theorem boot_abs : ∀ P, boot_heap P = absHeap (bootT P) 11 {} := fun P => by kernel_rfl
theorem boot_says : ∀ P, ((boot_heap P).isNs mainGlobals, (boot_heap P).objs.size, (boot_heap P).nsMap mainGlobals "__annotations__") = (true, 11, some (.ref 6)) := fun P => by kernel_rfl
noncomputable abbrev chk (p : Program) (w : World) (s : SharedT) : Bool := staticsOk (importedModules p.main.body) (boot_heap w.params) s.abs.heap && namesBound p s.abs.heap && gensDone s.abs && laidKept (boot_heap w.params) s.abs.heap
theorem two {α β σ : Type} {R : Option σ} {f : σ → α} {g : σ → β} {a : α} {b : β} (h1 : R.map f = some a) (h2 : R.map g = some b) : R.map (fun s => (f s, g s)) = some (a, b) := by
 cases R with
 | none => cases h1
 | some s => cases h1; cases h2; rfl
theorem left2 {p q : Program} {loose : List Str} {Xt : Shared → Bool} {α : Type} {Yf : Shared → α} {Ya : World → α} {N : Nat}
  (e : opening p = plainProg p.main.scope.names) (hN : Nat.ble 600 N = true) (f : ∀ s, fenceModules? p s = some s)
  (r1 : ∀ (w : World) (os : OsState), (runT treeTable p w 11 (some (.ref 6)) N ⟨bootT w.params, 11, {}, Array.mk [], boot_drawn, boot_toks, os⟩ (topStub p)).map (chk p w) = some true)
  (r2 : ∀ (w : World) (os : OsState), (runT treeTable p w 11 (some (.ref 6)) N ⟨bootT w.params, 11, {}, Array.mk [], boot_drawn, boot_toks, os⟩ (topStub p)).map (fun s => (openSeen q loose (importedModules p.main.body) Xt true s.abs).1) = some (openGood q loose).1)
  (r3 : ∀ (w : World) (os : OsState), (runT treeTable p w 11 (some (.ref 6)) N ⟨bootT w.params, 11, {}, Array.mk [], boot_drawn, boot_toks, os⟩ (topStub p)).map (fun s => (openSeen q loose (importedModules p.main.body) Xt true s.abs).2) = some (openGood q loose).2)
  (r4 : ∀ (w : World) (os : OsState), (runT treeTable p w 11 (some (.ref 6)) N ⟨bootT w.params, 11, {}, Array.mk [], boot_drawn, boot_toks, os⟩ (topStub p)).map (fun s => Yf s.abs) = some (Ya w)) : LeftO p q loose Xt Yf Ya N true :=
 left (T := bootT) (m := 11) (life := {}) (ann := some (.ref 6)) e hN f boot_abs boot_says fun w os => two (r1 w os) (two (two (r2 w os) (r3 w os)) (r4 w os))
end LH
set_option Elab.async false
set_option linter.all false
set_option autoImplicit false
namespace LH
open PySem PySem.W PySem.Calls PyProof.Rows
set_option maxRecDepth 100000
abbrev wh (L : Params → List Obj) (w : World) (d : Drawn) (k : Nat) (os : OsState) : Shared := ⟨⟨(L w.params).toArray, {}⟩, Array.mk [], d, k, os⟩
noncomputable abbrev chkS (p : Program) (w : World) (s : Shared) : Bool := staticsOk (importedModules p.main.body) (boot_heap w.params) s.heap && namesBound p s.heap && gensDone s && laidKept (boot_heap w.params) s.heap
theorem left3 {p q : Program} {loose : List Str} {Xt : Shared → Bool} {α : Type} {Yf : Shared → α} {Ya : World → α} {N : Nat} {L : Params → List Obj}
  (e : opening p = plainProg p.main.scope.names) (hN : Nat.ble 600 N = true) (f : ∀ s, fenceModules? p s = some s)
  (r : ∀ (w : World) (os : OsState), (runT treeTable p w 11 (some (.ref 6)) N ⟨bootT w.params, 11, {}, Array.mk [], boot_drawn, boot_toks, os⟩ (topStub p)).map (fun s => (s.tree.list s.n, s.life, s.gens)) = some (L w.params, {}, Array.mk []))
  (l1 : ∀ (w : World) (d : Drawn) (k : Nat) (os : OsState), chkS p w (wh L w d k os) = true)
  (l2 : ∀ (w : World) (d : Drawn) (k : Nat) (os : OsState), openSeen q loose (importedModules p.main.body) Xt true (wh L w d k os) = openGood q loose)
  (l3 : ∀ (w : World) (d : Drawn) (k : Nat) (os : OsState), Yf (wh L w d k os) = Ya w) : LeftO p q loose Xt Yf Ya N true :=
 left (T := bootT) (m := 11) (life := {}) (ann := some (.ref 6)) e hN f boot_abs boot_says fun w os => by
  obtain ⟨s, h1, h2⟩ := Option.map_eq_some_iff.mp (r w os)
  have hs : s.abs = wh L w s.drawn s.toks s.os := by
   obtain ⟨T, n, life, gens, drawn, tk, o⟩ := s
   simp only [Prod.mk.injEq] at h2
   obtain ⟨a1, a2, a3⟩ := h2
   subst a2 a3
   show (⟨⟨(T.list n).toArray, {}⟩, _, _, _, _⟩ : Shared) = _
   rw [a1]
  rw [h1, Option.map_some]
  exact congrArg some (by rw [hs]; exact Prod.ext (l1 w _ _ _) (Prod.ext (l2 w _ _ _) (l3 w _ _ _)))
end LH
namespace A
open PySem PySem.Spec PyProof.Rows L2
set_option maxRecDepth 100000
noncomputable def top (i : Nat) : Stmt := PySem.Challenge.pw_rollmend_k09_whole_talk.main.body.getD i (.Pass ⟨0, 0, 0, 0⟩)
section
open PySem PySem.W
noncomputable def kn (P : Params) (x : String) (t : Tok) (v : Value) : DictEntry := { hash := PyData.keyHash P (Str.ofString x), key := Value.str (Str.ofString x) t, val := v }
noncomputable def k0 : Obj := { cls := .type "tuple", data := Data.seq #[] }
noncomputable def ks (x : String) (t : Tok) : Value := Value.str (Str.ofString x) t
noncomputable def kf (x : String) (i : Nat) := PySem.W.fnOf (Str.ofString x) (Str.ofString x) (L2.defArgs (top i)) (L2.defBody (top i)) (L2.defScope (top i))
noncomputable def ko (x : String) (i : Nat) (y : String) (t : Tok) (c : Addr) : Obj := ⟨.type "function", none, .func (kf x i (.none) (.none) (.none) (ks y t) (none) (.ref c) (.none)), #[]⟩
noncomputable def kc (x : String) (t : Tok) (l k : Int) (r : Addr) (v w : Value) (q : Addr) (n u : Nat) : Obj := { cls := .type "code", data := Data.fields #[ks x t, ks x (t + 1), ks "/claim/cut.py" (t + 2), .int l 0, .int k 0, .int 0 0, .int 0 0, .int 3 0, .ref r, .bool true, .int 181 0, .ref (r + 1), .none, v, w, .ref q, .int n 0, .int l 0, ks "/claim/cut.py" u] }
noncomputable def kl : String := "law_rollmend_k09_whole_talk"
noncomputable def kb3 (P : Params) : Obj := { cls := .type "dict", data := Data.dict #[kn P "__name__" 165 (ks kl 630), kn P "__doc__" 166 .none, kn P "__package__" 167 .none, kn P "__loader__" 168 (.builtin "__main__.__loader__#opaque"), kn P "__spec__" 169 .none, kn P "__annotations__" 170 (.ref 6), kn P "__builtins__" 171 (.ref 4), kn P "__file__" 173 (ks "/claim/cut.py" 172), kn P "__cached__" 174 .none, kn P "MendError" 206 (.ref 24), kn P "NoSigns" 222 (.ref 37), kn P "NoKey" 238 (.ref 49), kn P "NoSize" 254 (.ref 61), kn P "NoLetter" 270 (.ref 73), kn P "Beyond" 286 (.ref 85), kn P "NoCards" 302 (.ref 97), kn P "MOST_SIGNS" 306 (.int 2000 305), kn P "BLANK" 308 (.int 32 307), kn P "PERCENT" 310 (.int 37 309), kn P "TILDE" 312 (.int 126 311), kn P "MOST_FEW" 314 (.int 999 313), kn P "MOST_TIMES" 316 (.int 999 315), kn P "MOST_MANY" 318 (.int 99999 317), kn P "MOST_SIZE" 320 (.int 200 319), kn P "is_whole" 327 (.ref 106), kn P "is_from" 335 (.ref 113), kn P "is_within" 344 (.ref 120), kn P "is_sign" 352 (.ref 127), kn P "is_text" 358 (.ref 132), kn P "is_key" 365 (.ref 139), kn P "check_text" 372 (.ref 146), kn P "check_key" 379 (.ref 153), kn P "check_size" 386 (.ref 160), kn P "MOST_PIECES" 390 (.int 2000 389), kn P "mended" 396 (.ref 165), kn P "plain" 403 (.ref 172), kn P "check_letter" 410 (.ref 179), kn P "is_letter" 416 (.ref 184), kn P "is_piece" 423 (.ref 191), kn P "is_copy" 430 (.ref 198), kn P "made_by_piece" 439 (.ref 205), kn P "joined" 449 (.ref 212), kn P "add_signs" 457 (.ref 219), kn P "add_copy" 465 (.ref 226), kn P "goes_on" 473 (.ref 233), kn P "first_sum" 487 (.ref 240), kn P "rolled" 501 (.ref 247), kn P "rolled_sums" 513 (.ref 254), kn P "second_sum" 521 (.ref 261), kn P "whole_sum" 529 (.ref 268), kn P "chained" 540 (.ref 275), kn P "cards" 548 (.ref 280), kn P "found_by" 565 (.ref 287), kn P "card_of" 573 (.ref 294), kn P "check_cards" 579 (.ref 299), kn P "is_card" 587 (.ref 306), kn P "earliest_blocks" 598 (.ref 313), kn P "fitting_block" 608 (.ref 320), kn P "talk" 622 (.ref 327), kn P "all_signs" 629 (.ref 334), kn P "_law_cell_at" 639 (.ref 341), kn P "_law_mixed" 649 (.ref 348), kn P "_law_text" 663 (.ref 355), kn P "_law_newer" 676 (.ref 362), kn P "_law_key" 686 (.ref 369), kn P "_law_first" 692 (.ref 374), kn P "_law_second" 703 (.ref 381), kn P "_law_card" 711 (.ref 388), kn P "_law_whole_sum" 719 (.ref 395), kn P "_law_known" 725 (.ref 400), kn P "_law_marks" 734 (.ref 407), kn P "_law_goes_on" 742 (.ref 414), kn P "_law_of_marks" 753 (.ref 421), kn P "_law_fitting" 759 (.ref 426), kn P "_law_found" 773 (.ref 433), kn P "_law_made" 783 (.ref 440), kn P "_law_has_chance" 797 (.ref 447), kn P "law" 811 (.ref 454)] 78 }
noncomputable def kb105 : Obj := kc "is_whole" 321 25 1 100 (.ref 102) (.ref 103) 104 325 326
noncomputable def kb106 : Obj := ko "is_whole" 17 "rollmend.checks" 303 105
noncomputable def kb112 : Obj := kc "is_from" 328 27 2 107 (.ref 109) (.ref 110) 111 333 334
noncomputable def kb113 : Obj := ko "is_from" 18 "rollmend.checks" 303 112
noncomputable def kb119 : Obj := kc "is_within" 336 29 3 114 (.ref 116) (.ref 117) 118 342 343
noncomputable def kb120 : Obj := ko "is_within" 19 "rollmend.checks" 303 119
noncomputable def kb126 : Obj := kc "is_sign" 345 31 1 121 (.ref 123) (.ref 124) 125 350 351
noncomputable def kb127 : Obj := ko "is_sign" 20 "rollmend.checks" 303 126
noncomputable def kb131 : Obj := kc "is_text" 353 34 1 128 .none .none 130 356 357
noncomputable def kb132 : Obj := ko "is_text" 21 "rollmend.checks" 303 131
noncomputable def kb138 : Obj := kc "is_key" 359 38 1 133 (.ref 135) (.ref 136) 137 363 364
noncomputable def kb139 : Obj := ko "is_key" 22 "rollmend.checks" 303 138
noncomputable def kb145 : Obj := kc "check_text" 366 44 1 140 (.ref 142) (.ref 143) 144 370 371
noncomputable def kb146 : Obj := ko "check_text" 23 "rollmend.checks" 303 145
noncomputable def kb152 : Obj := kc "check_key" 373 47 1 147 (.ref 149) (.ref 150) 151 377 378
noncomputable def kb153 : Obj := ko "check_key" 24 "rollmend.checks" 303 152
noncomputable def kb159 : Obj := kc "check_size" 380 50 1 154 (.ref 156) (.ref 157) 158 384 385
noncomputable def kb160 : Obj := ko "check_size" 25 "rollmend.checks" 303 159
noncomputable def kb164 : Obj := kc "mended" 391 55 2 161 .none .none 163 394 395
noncomputable def kb165 : Obj := ko "mended" 28 "rollmend.letters" 387 164
noncomputable def kb171 : Obj := kc "plain" 397 59 1 166 (.ref 168) (.ref 169) 170 401 402
noncomputable def kb172 : Obj := ko "plain" 29 "rollmend.letters" 387 171
noncomputable def kb178 : Obj := kc "check_letter" 404 62 1 173 (.ref 175) (.ref 176) 177 408 409
noncomputable def kb179 : Obj := ko "check_letter" 30 "rollmend.letters" 387 178
noncomputable def kb183 : Obj := kc "is_letter" 411 65 1 180 .none .none 182 414 415
noncomputable def kb184 : Obj := ko "is_letter" 31 "rollmend.letters" 387 183
noncomputable def kb190 : Obj := kc "is_piece" 417 69 1 185 (.ref 187) (.ref 188) 189 421 422
noncomputable def kb191 : Obj := ko "is_piece" 32 "rollmend.letters" 387 190
noncomputable def kb197 : Obj := kc "is_copy" 424 77 1 192 (.ref 194) (.ref 195) 196 428 429
noncomputable def kb198 : Obj := ko "is_copy" 33 "rollmend.letters" 387 197
noncomputable def kb204 : Obj := kc "made_by_piece" 431 79 2 199 (.ref 201) (.ref 202) 203 437 438
noncomputable def kb205 : Obj := ko "made_by_piece" 34 "rollmend.letters" 387 204
noncomputable def kb211 : Obj := kc "joined" 440 86 1 206 (.ref 208) (.ref 209) 210 447 448
noncomputable def kb212 : Obj := ko "joined" 35 "rollmend.letters" 387 211
noncomputable def kb218 : Obj := kc "add_signs" 450 98 2 213 (.ref 215) (.ref 216) 217 455 456
noncomputable def kb219 : Obj := ko "add_signs" 36 "rollmend.letters" 387 218
noncomputable def kb225 : Obj := kc "add_copy" 458 101 2 220 (.ref 222) (.ref 223) 224 463 464
noncomputable def kb226 : Obj := ko "add_copy" 37 "rollmend.letters" 387 225
noncomputable def kb232 : Obj := kc "goes_on" 466 106 2 227 (.ref 229) (.ref 230) 231 471 472
noncomputable def kb233 : Obj := ko "goes_on" 38 "rollmend.letters" 387 232
noncomputable def kb239 : Obj := kc "first_sum" 476 109 2 234 (.ref 236) (.ref 237) 238 485 486
noncomputable def kb240 : Obj := ko "first_sum" 40 "rollmend.sums" 474 239
noncomputable def kb246 : Obj := kc "rolled" 488 119 5 241 (.ref 243) (.ref 244) 245 499 500
noncomputable def kb247 : Obj := ko "rolled" 41 "rollmend.sums" 474 246
noncomputable def kb253 : Obj := kc "rolled_sums" 502 125 3 248 (.ref 250) (.ref 251) 252 511 512
noncomputable def kb254 : Obj := ko "rolled_sums" 42 "rollmend.sums" 474 253
noncomputable def kb260 : Obj := kc "second_sum" 514 134 2 255 (.ref 257) (.ref 258) 259 519 520
noncomputable def kb261 : Obj := ko "second_sum" 43 "rollmend.sums" 474 260
noncomputable def kb267 : Obj := kc "whole_sum" 522 138 2 262 (.ref 264) (.ref 265) 266 527 528
noncomputable def kb268 : Obj := ko "whole_sum" 44 "rollmend.sums" 474 267
noncomputable def kb274 : Obj := kc "chained" 530 142 3 269 (.ref 271) (.ref 272) 273 538 539
noncomputable def kb275 : Obj := ko "chained" 45 "rollmend.sums" 474 274
noncomputable def kb279 : Obj := kc "cards" 543 148 3 276 .none .none 278 546 547
noncomputable def kb280 : Obj := ko "cards" 47 "rollmend.cards" 541 279
noncomputable def kb286 : Obj := kc "found_by" 549 153 4 281 (.ref 283) (.ref 284) 285 563 564
noncomputable def kb287 : Obj := ko "found_by" 48 "rollmend.cards" 541 286
noncomputable def kb293 : Obj := kc "card_of" 566 177 2 288 (.ref 290) (.ref 291) 292 571 572
noncomputable def kb294 : Obj := ko "card_of" 49 "rollmend.cards" 541 293
noncomputable def kb298 : Obj := kc "check_cards" 574 179 1 295 .none .none 297 577 578
noncomputable def kb299 : Obj := ko "check_cards" 50 "rollmend.cards" 541 298
noncomputable def kb305 : Obj := kc "is_card" 580 182 1 300 (.ref 302) (.ref 303) 304 585 586
noncomputable def kb306 : Obj := ko "is_card" 51 "rollmend.cards" 541 305
noncomputable def kb312 : Obj := kc "earliest_blocks" 588 189 1 307 (.ref 309) (.ref 310) 311 596 597
noncomputable def kb313 : Obj := ko "earliest_blocks" 52 "rollmend.cards" 541 312
noncomputable def kb319 : Obj := kc "fitting_block" 599 195 4 314 (.ref 316) (.ref 317) 318 606 607
noncomputable def kb320 : Obj := ko "fitting_block" 53 "rollmend.cards" 541 319
noncomputable def kb326 : Obj := kc "talk" 611 200 4 321 (.ref 323) (.ref 324) 325 620 621
noncomputable def kb327 : Obj := ko "talk" 55 "rollmend.talks" 609 326
noncomputable def kb333 : Obj := kc "all_signs" 623 206 1 328 (.ref 330) (.ref 331) 332 627 628
noncomputable def kb334 : Obj := ko "all_signs" 56 "rollmend.talks" 609 333
noncomputable def kb340 : Obj := kc "_law_cell_at" 632 209 2 335 (.ref 337) (.ref 338) 339 637 638
noncomputable def kb341 : Obj := ko "_law_cell_at" 58 kl 630 340
noncomputable def kb347 : Obj := kc "_law_mixed" 640 215 3 342 (.ref 344) (.ref 345) 346 647 648
noncomputable def kb348 : Obj := ko "_law_mixed" 59 kl 630 347
noncomputable def kb354 : Obj := kc "_law_text" 650 218 3 349 (.ref 351) (.ref 352) 353 661 662
noncomputable def kb355 : Obj := ko "_law_text" 60 kl 630 354
noncomputable def kb361 : Obj := kc "_law_newer" 664 226 3 356 (.ref 358) (.ref 359) 360 674 675
noncomputable def kb362 : Obj := ko "_law_newer" 61 kl 630 361
noncomputable def kb368 : Obj := kc "_law_key" 677 236 2 363 (.ref 365) (.ref 366) 367 684 685
noncomputable def kb369 : Obj := ko "_law_key" 62 kl 630 368
noncomputable def kb373 : Obj := kc "_law_first" 687 240 2 370 .none .none 372 690 691
noncomputable def kb374 : Obj := ko "_law_first" 63 kl 630 373
noncomputable def kb380 : Obj := kc "_law_second" 693 244 3 375 (.ref 377) (.ref 378) 379 701 702
noncomputable def kb381 : Obj := ko "_law_second" 64 kl 630 380
noncomputable def kb387 : Obj := kc "_law_card" 704 249 2 382 (.ref 384) (.ref 385) 386 709 710
noncomputable def kb388 : Obj := ko "_law_card" 65 kl 630 387
noncomputable def kb394 : Obj := kc "_law_whole_sum" 712 251 2 389 (.ref 391) (.ref 392) 393 717 718
noncomputable def kb395 : Obj := ko "_law_whole_sum" 66 kl 630 394
noncomputable def kb399 : Obj := kc "_law_known" 720 253 3 396 .none .none 398 723 724
noncomputable def kb400 : Obj := ko "_law_known" 67 kl 630 399
noncomputable def kb406 : Obj := kc "_law_marks" 726 255 1 401 (.ref 403) (.ref 404) 405 732 733
noncomputable def kb407 : Obj := ko "_law_marks" 68 kl 630 406
noncomputable def kb413 : Obj := kc "_law_goes_on" 735 263 2 408 (.ref 410) (.ref 411) 412 740 741
noncomputable def kb414 : Obj := ko "_law_goes_on" 69 kl 630 413
noncomputable def kb420 : Obj := kc "_law_of_marks" 743 267 1 415 (.ref 417) (.ref 418) 419 751 752
noncomputable def kb421 : Obj := ko "_law_of_marks" 70 kl 630 420
noncomputable def kb425 : Obj := kc "_law_fitting" 754 281 2 422 .none .none 424 757 758
noncomputable def kb426 : Obj := ko "_law_fitting" 71 kl 630 425
noncomputable def kb432 : Obj := kc "_law_found" 760 283 4 427 (.ref 429) (.ref 430) 431 771 772
noncomputable def kb433 : Obj := ko "_law_found" 72 kl 630 432
noncomputable def kb439 : Obj := kc "_law_made" 774 300 2 434 (.ref 436) (.ref 437) 438 781 782
noncomputable def kb440 : Obj := ko "_law_made" 73 kl 630 439
noncomputable def kb446 : Obj := kc "_law_has_chance" 784 310 5 441 (.ref 443) (.ref 444) 445 795 796
noncomputable def kb447 : Obj := ko "_law_has_chance" 74 kl 630 446
noncomputable def kb453 : Obj := kc "law" 798 317 1 448 (.ref 450) (.ref 451) 452 809 810
noncomputable def kb454 : Obj := ko "law" 75 kl 630 453
noncomputable def KF : Params → Frag := fun P => [(3, kb3 P), (105, kb105), (106, kb106), (112, kb112), (113, kb113), (119, kb119), (120, kb120), (126, kb126), (127, kb127), (131, kb131), (132, kb132), (138, kb138), (139, kb139), (145, kb145), (146, kb146), (152, kb152), (153, kb153), (159, kb159), (160, kb160), (164, kb164), (165, kb165), (171, kb171), (172, kb172), (178, kb178), (179, kb179), (183, kb183), (184, kb184), (190, kb190), (191, kb191), (197, kb197), (198, kb198), (204, kb204), (205, kb205), (211, kb211), (212, kb212), (218, kb218), (219, kb219), (225, kb225), (226, kb226), (232, kb232), (233, kb233), (239, kb239), (240, kb240), (246, kb246), (247, kb247), (253, kb253), (254, kb254), (260, kb260), (261, kb261), (267, kb267), (268, kb268), (274, kb274), (275, kb275), (279, kb279), (280, kb280), (286, kb286), (287, kb287), (293, kb293), (294, kb294), (298, kb298), (299, kb299), (305, kb305), (306, kb306), (312, kb312), (313, kb313), (319, kb319), (320, kb320), (326, kb326), (327, kb327), (333, kb333), (334, kb334), (340, kb340), (341, kb341), (347, kb347), (348, kb348), (354, kb354), (355, kb355), (361, kb361), (362, kb362), (368, kb368), (369, kb369), (373, kb373), (374, kb374), (380, kb380), (381, kb381), (387, kb387), (388, kb388), (394, kb394), (395, kb395), (399, kb399), (400, kb400), (406, kb406), (407, kb407), (413, kb413), (414, kb414), (420, kb420), (421, kb421), (425, kb425), (426, kb426), (432, kb432), (433, kb433), (439, kb439), (440, kb440), (446, kb446), (447, kb447), (453, kb453), (454, kb454)]
def KA : List Addr := [3, 105, 106, 112, 113, 119, 120, 126, 127, 131, 132, 138, 139, 145, 146, 152, 153, 159, 160, 164, 165, 171, 172, 178, 179, 183, 184, 190, 191, 197, 198, 204, 205, 211, 212, 218, 219, 225, 226, 232, 233, 239, 240, 246, 247, 253, 254, 260, 261, 267, 268, 274, 275, 279, 280, 286, 287, 293, 294, 298, 299, 305, 306, 312, 313, 319, 320, 326, 327, 333, 334, 340, 341, 347, 348, 354, 355, 361, 362, 368, 369, 373, 374, 380, 381, 387, 388, 394, 395, 399, 400, 406, 407, 413, 414, 420, 421, 425, 426, 432, 433, 439, 440, 446, 447, 453, 454]
noncomputable def qv : Program := view PySem.Challenge.pw_rollmend_k09_whole_talk [1, 2, 3, 4, 5, 6, 7, 9, 10, 11, 12, 13, 14, 15, 16, 17, 18, 19, 20, 21, 22, 23, 24, 25, 27, 28, 29, 30, 31, 32, 33, 34, 35, 36, 37, 38, 40, 41, 42, 43, 44, 45, 47, 48, 49, 50, 51, 52, 53, 55, 56, 58, 59, 60, 61, 62, 63, 64, 65, 66, 67, 68, 69, 70, 71, 72, 73, 74, 75]
noncomputable abbrev HK : Hook := kHook KF KA (fun _ => rfl)
noncomputable abbrev xt : Shared → Bool := fun s => xlAt qv [] s && recOk [] s
noncomputable abbrev rn (w : World) (os : OsState) : Option SharedT := LH.runT treeTable PySem.Challenge.pw_rollmend_k09_whole_talk w 11 (some (.ref 6)) 6600 ⟨LH.bootT w.params, 11, {}, Array.mk [], boot_drawn, boot_toks, os⟩ (topStub PySem.Challenge.pw_rollmend_k09_whole_talk)
noncomputable def kz : Obj := { cls := .none, data := Data.fields #[] }
noncomputable def kg (x : String) (i : Nat) : Obj := ⟨.none, none, .func { kf x i (.none) (.none) (.none) (.none) (none) (.none) (.none) with globals := 0 }, #[]⟩
noncomputable def kq (x : String) (t : Tok) (l : Int) (r : Addr) : Obj := { cls := .type "code", data := Data.fields #[ks x t, ks x (t + 1), ks "/claim/cut.py" (t + 2), .int l 0, .int 0 0, .int 0 0, .int 0 0, .int 0 0, .ref r, .bool false, .int 181 0, .ref (r + 1), .none, .none, .none, .none, .int (t + 3 : Nat) 0, .int l 0, ks "/claim/cut.py" (t + 4)] }
noncomputable def kr (c d : Addr) (x : String) (t : Tok) : Obj := { cls := .type "frame", slots := #[some (.ref c), some (.ref 3), some (.ref d), none, some (ks x t), none, some (.ref 0)] }
noncomputable def kp (a : Addr) : Obj := { cls := .type "super", data := Data.fields #[.ref a, .ref a, .ref a] }
noncomputable def kw (x : String) (v : Value) : Obj := { cls := .type "builtin_function_or_method", data := Data.fields #[.builtin x, v] }
noncomputable def kt (l : List String) (t : Tok) : Obj := { cls := .type "tuple", data := Data.seq (Array.mk ((l.zipIdx t).map fun p => ks p.1 p.2)) }
noncomputable def kx (P : Params) (t : Tok) (l : Int) (r : Addr) : Obj := { cls := .type "dict", data := Data.dict #[kn P "__module__" t (ks "rollmend.errors" 187), kn P "__firstlineno__" (t + 4) (.int l (t + 3)), kn P "__static_attributes__" (t + 5) (.ref r), kn P "__doc__" (t + 6) .none] 2 }
noncomputable def ky (P : Params) (x : String) (t : Tok) (l : Int) (r : Addr) : Obj := { cls := .type "dict", data := Data.dict #[kn P "__module__" t (ks "rollmend.errors" 187), kn P "__qualname__" (t + 2) (ks x (t + 1)), kn P "__firstlineno__" (t + 4) (.int l (t + 3)), kn P "__static_attributes__" (t + 5) (.ref r)] 4 }
noncomputable def kk (x : String) (n r : Addr) (t : Tok) : Obj := { cls := .type "type", data := Data.cls { name := Str.ofString x, bases := [.ref 24], mro := [.ref (n + 1), .ref 24, .type "ValueError", .type "Exception", .type "BaseException", .type "object"], ns := n, qualname := Str.ofString x }, slots := #[some (.ref r), none, some (ks x t), some (ks x (t + 8)), some (.builtin "ValueError.__new__"), some (.bool true)] }
noncomputable def ku (l : List (Nat × Addr)) : Obj := { cls := .none, data := Data.fields (Array.mk (l.flatMap fun p => [.int (p.1 : Nat) 0, .int 0 0, .ref p.2])) }
noncomputable def k1 (P : Params) (i : Nat) : Obj := (boot_heap P).objs.toList.getD i default
noncomputable def kb12 : Obj := ku [(2, 20), (4, 33), (6, 45), (8, 57), (10, 69), (12, 81), (14, 93), (25, 105), (27, 112), (29, 119), (31, 126), (34, 131), (38, 138), (44, 145), (47, 152), (50, 159), (55, 164), (59, 171), (62, 178), (65, 183), (69, 190), (77, 197), (79, 204), (86, 211), (98, 218), (101, 225), (106, 232), (109, 239), (119, 246), (125, 253), (134, 260), (138, 267), (142, 274), (148, 279), (153, 286), (177, 293), (179, 298), (182, 305), (189, 312), (195, 319), (200, 326), (206, 333), (209, 340), (215, 347), (218, 354), (226, 361), (236, 368), (240, 373), (244, 380), (249, 387), (251, 394), (253, 399), (255, 406), (263, 413), (267, 420), (281, 425), (283, 432), (300, 439), (310, 446), (317, 453)]
noncomputable def kb23 (P : Params) : Obj := { cls := .type "dict", data := Data.dict #[kn P "__module__" 196 (ks "rollmend.errors" 187), kn P "__firstlineno__" 200 (.int 2 199), kn P "__static_attributes__" 201 (.ref 22), kn P "__weakref__" 203 (.ref 25), kn P "__doc__" 204 .none] 3 }
noncomputable def kb24 : Obj := { cls := .type "type", data := Data.cls { name := Str.ofString "MendError", bases := [.type "ValueError"], mro := [.ref 24, .type "ValueError", .type "Exception", .type "BaseException", .type "object"], ns := 23, qualname := Str.ofString "MendError", subclasses := [.ref 37, .ref 49, .ref 61, .ref 73, .ref 85, .ref 97] }, slots := #[some (.ref 15), none, some (ks "MendError" 189), some (ks "MendError" 197), some (.builtin "ValueError.__new__"), some (.bool true)] }
noncomputable def kb25 : Obj := { cls := .type "getset_descriptor", data := Data.fields #[ks "__weakref__" 202, .ref 24, .builtin "ExceptionGroup.__weakref__", .none] }
noncomputable def kb351 : Obj := kt ["_law_script", "_law_at", "_law_most", "_law_signs", "_law_seed", "_law_made_here", "_law_k", "_law_drawn"] 653
noncomputable def kb429 : Obj := kt ["_law_key_here", "_law_size", "_law_known_here", "_law_newer_here", "_law_letter", "_law_place", "_law_last", "_law_blocks"] 763
noncomputable def kb443 : Obj := kt ["_law_key_here", "_law_size", "_law_elder", "_law_newer_here", "_law_text_here", "_law_place", "_law_one", "_law_other"] 787
noncomputable def kb450 : Obj := kt ["_law_script", "_law_elder", "_law_newer_here", "_law_key_here", "_law_size", "_law_answer", "_law_letter", "_law_text_here"] 801
noncomputable def LW : Params → List Obj := fun P => [k1 P 0, k1 P 1, { cls := .none, data := Data.dict #[] }, kb3 P, k1 P 4, k1 P 5, k1 P 6, k1 P 7, k1 P 8, k1 P 9, k1 P 10, k0, kb12, kq "<module>" 182 1 11, kr 13 3 "__main__" 164, { cls := .type "tuple", data := Data.seq #[.type "ValueError"] }, kw "type.__prepare__" (.type "type"), ky P "MendError" 196 2 22, k0, kz, kq "MendError" 191 2 18, kr 20 17 "rollmend.errors" 187, k0, kb23 P, kb24, kb25, kp 24, kw "object.__init_subclass__" (.ref 24), { cls := .type "tuple", data := Data.seq #[.ref 24] }, kw "type.__prepare__" (.type "type"), ky P "NoSigns" 214 4 35, k0, kz, kq "NoSigns" 209 4 31, kr 33 30 "rollmend.errors" 187, k0, kx P 214 4 35, kk "NoSigns" 36 28 207, kp 37, kw "object.__init_subclass__" (.ref 37), { cls := .type "tuple", data := Data.seq #[.ref 24] }, kw "type.__prepare__" (.type "type"), ky P "NoKey" 230 6 47, k0, kz, kq "NoKey" 225 6 43, kr 45 42 "rollmend.errors" 187, k0, kx P 230 6 47, kk "NoKey" 48 40 223, kp 49, kw "object.__init_subclass__" (.ref 49), { cls := .type "tuple", data := Data.seq #[.ref 24] }, kw "type.__prepare__" (.type "type"), ky P "NoSize" 246 8 59, k0, kz, kq "NoSize" 241 8 55, kr 57 54 "rollmend.errors" 187, k0, kx P 246 8 59, kk "NoSize" 60 52 239, kp 61, kw "object.__init_subclass__" (.ref 61), { cls := .type "tuple", data := Data.seq #[.ref 24] }, kw "type.__prepare__" (.type "type"), ky P "NoLetter" 262 10 71, k0, kz, kq "NoLetter" 257 10 67, kr 69 66 "rollmend.errors" 187, k0, kx P 262 10 71, kk "NoLetter" 72 64 255, kp 73, kw "object.__init_subclass__" (.ref 73), { cls := .type "tuple", data := Data.seq #[.ref 24] }, kw "type.__prepare__" (.type "type"), ky P "Beyond" 278 12 83, k0, kz, kq "Beyond" 273 12 79, kr 81 78 "rollmend.errors" 187, k0, kx P 278 12 83, kk "Beyond" 84 76 271, kp 85, kw "object.__init_subclass__" (.ref 85), { cls := .type "tuple", data := Data.seq #[.ref 24] }, kw "type.__prepare__" (.type "type"), ky P "NoCards" 294 14 95, k0, kz, kq "NoCards" 289 14 91, kr 93 90 "rollmend.errors" 187, k0, kx P 294 14 95, kk "NoCards" 96 88 287, kp 97, kw "object.__init_subclass__" (.ref 97), k0, kz, kt ["thing"] 324, k0, kg "is_whole" 17, kb105, kb106, k0, kz, kt ["thing", "lowest"] 331, k0, kg "is_from" 18, kb112, kb113, k0, kz, kt ["thing", "lowest", "highest"] 339, k0, kg "is_within" 19, kb119, kb120, k0, kz, kt ["sign", "worth"] 348, k0, kg "is_sign" 20, kb126, kb127, k0, kz, kg "is_text" 21, kb131, kb132, k0, kz, kt ["thing"] 362, k0, kg "is_key" 22, kb138, kb139, k0, kz, kt ["thing"] 369, k0, kg "check_text" 23, kb145, kb146, k0, kz, kt ["thing"] 376, k0, kg "check_key" 24, kb152, kb153, k0, kz, kt ["thing"] 383, k0, kg "check_size" 25, kb159, kb160, k0, kz, kg "mended" 28, kb164, kb165, k0, kz, kt ["letter"] 400, k0, kg "plain" 29, kb171, kb172, k0, kz, kt ["thing"] 407, k0, kg "check_letter" 30, kb178, kb179, k0, kz, kg "is_letter" 31, kb183, kb184, k0, kz, kt ["thing"] 420, k0, kg "is_piece" 32, kb190, kb191, k0, kz, kt ["piece"] 427, k0, kg "is_copy" 33, kb197, kb198, k0, kz, kt ["elder", "piece", "end"] 434, k0, kg "made_by_piece" 34, kb204, kb205, k0, kz, kt ["pieces", "letter", "texts", "piece"] 443, k0, kg "joined" 35, kb211, kb212, k0, kz, kt ["letter", "texts"] 453, k0, kg "add_signs" 36, kb218, kb219, k0, kz, kt ["letter", "piece"] 461, k0, kg "add_copy" 37, kb225, kb226, k0, kz, kt ["piece", "later"] 469, k0, kg "goes_on" 38, kb232, kb233, k0, kz, kt ["key", "text", "few", "plain", "leaning", "sign"] 479, k0, kg "first_sum" 40, kb239, kb240, k0, kz, kt ["key", "found", "many", "gone", "come", "few", "plain", "leaning"] 491, k0, kg "rolled" 41, kb246, kb247, k0, kz, kt ["key", "size", "text", "found", "firsts", "place"] 505, k0, kg "rolled_sums" 42, kb253, kb254, k0, kz, kt ["key", "text"] 517, k0, kg "second_sum" 43, kb260, kb261, k0, kz, kt ["key", "text"] 525, k0, kg "whole_sum" 44, kb267, kb268, k0, kz, kt ["times", "many", "text", "number", "sign"] 533, k0, kg "chained" 45, kb274, kb275, k0, kz, kg "cards" 47, kb279, kb280, k0, kz, kt ["key", "size", "told", "newer", "firsts", "earliest", "pieces", "place", "awaited", "block", "card"] 552, k0, kg "found_by" 48, kb286, kb287, k0, kz, kt ["key", "block"] 569, k0, kg "card_of" 49, kb293, kb294, k0, kz, kg "check_cards" 50, kb298, kb299, k0, kz, kt ["thing", "first"] 583, k0, kg "is_card" 51, kb305, kb306, k0, kz, kt ["told", "earliest", "block", "card", "seconds"] 591, k0, kg "earliest_blocks" 52, kb312, kb313, k0, kz, kt ["told", "earliest", "awaited", "card"] 602, k0, kg "fitting_block" 53, kb319, kb320, k0, kz, kt ["key", "size", "elder", "newer", "letter", "made"] 614, k0, kg "talk" 55, kb326, kb327, k0, kz, kt ["text"] 626, k0, kg "all_signs" 56, kb333, kb334, k0, kz, kt ["_law_script", "_law_k"] 635, k0, kg "_law_cell_at" 58, kb340, kb341, k0, kz, kt ["_law_script", "_law_k", "_law_many", "_law_drawn"] 643, k0, kg "_law_mixed" 59, kb347, kb348, k0, kz, kb351, k0, kg "_law_text" 60, kb354, kb355, k0, kz, kt ["_law_script", "_law_at", "_law_elder", "_law_made_here", "_law_k", "_law_place", "_law_first_here"] 667, k0, kg "_law_newer" 61, kb361, kb362, k0, kz, kt ["_law_script", "_law_at", "_law_few", "_law_times"] 680, k0, kg "_law_key" 62, kb368, kb369, k0, kz, kg "_law_first" 63, kb373, kb374, k0, kz, kt ["_law_text_here", "_law_times", "_law_many", "_law_number", "_law_sign"] 696, k0, kg "_law_second" 64, kb380, kb381, k0, kz, kt ["_law_key_here", "_law_text_here"] 707, k0, kg "_law_card" 65, kb387, kb388, k0, kz, kt ["_law_key_here", "_law_text_here"] 715, k0, kg "_law_whole_sum" 66, kb394, kb395, k0, kz, kg "_law_known" 67, kb399, kb400, k0, kz, kt ["_law_letter", "_law_row", "_law_piece"] 729, k0, kg "_law_marks" 68, kb406, kb407, k0, kz, kt ["_law_one", "_law_other"] 738, k0, kg "_law_goes_on" 69, kb413, kb414, k0, kz, kt ["_law_row", "_law_groups", "_law_k", "_law_letter", "_law_group"] 746, k0, kg "_law_of_marks" 70, kb420, kb421, k0, kz, kg "_law_fitting" 71, kb425, kb426, k0, kz, kb429, k0, kg "_law_found" 72, kb432, kb433, k0, kz, kt ["_law_elder", "_law_letter", "_law_text_here", "_law_piece"] 777, k0, kg "_law_made" 73, kb439, kb440, k0, kz, kb443, k0, kg "_law_has_chance" 74, kb446, kb447, k0, kz, kb450, k0, kg "law" 75, kb453, kb454]
theorem rn1 : ∀ (w : World) (os : OsState), (rn w os).map (fun s => (s.tree.list s.n, s.life, s.gens)) = some (LW w.params, {}, Array.mk []) := fun w os => by kernel_rfl
theorem ln1 : ∀ (w : World) (d : Drawn) (k : Nat) (os : OsState), LH.chkS PySem.Challenge.pw_rollmend_k09_whole_talk w (LH.wh LW w d k os) = true := fun w d k os => by kernel_rfl
theorem ln2 : ∀ (w : World) (d : Drawn) (k : Nat) (os : OsState), openSeen qv [] (importedModules PySem.Challenge.pw_rollmend_k09_whole_talk.main.body) xt true (LH.wh LW w d k os) = openGood qv [] := fun w d k os => by kernel_rfl
theorem ln3 : ∀ (w : World) (d : Drawn) (k : Nat) (os : OsState), HK.obs (LH.wh LW w d k os) = HK.val w := fun w d k os => by kernel_rfl
theorem lft : LeftO PySem.Challenge.pw_rollmend_k09_whole_talk qv [] xt HK.obs HK.val 6600 true := LH.left3 (by rfl) (by rfl) (fun _ => rfl) rn1 ln1 ln2 ln3
end
theorem kl341 (P : PySem.Params) : List.lookup 341 (KF P) = some kb341 := by kernel_rfl
theorem kl348 (P : PySem.Params) : List.lookup 348 (KF P) = some kb348 := by kernel_rfl
theorem kl355 (P : PySem.Params) : List.lookup 355 (KF P) = some kb355 := by kernel_rfl
theorem kl362 (P : PySem.Params) : List.lookup 362 (KF P) = some kb362 := by kernel_rfl
theorem kl369 (P : PySem.Params) : List.lookup 369 (KF P) = some kb369 := by kernel_rfl
theorem kl106 (P : PySem.Params) : List.lookup 106 (KF P) = some kb106 := by kernel_rfl
theorem kl113 (P : PySem.Params) : List.lookup 113 (KF P) = some kb113 := by kernel_rfl
theorem kl120 (P : PySem.Params) : List.lookup 120 (KF P) = some kb120 := by kernel_rfl
theorem kl139 (P : PySem.Params) : List.lookup 139 (KF P) = some kb139 := by kernel_rfl
theorem kl153 (P : PySem.Params) : List.lookup 153 (KF P) = some kb153 := by kernel_rfl
theorem kl160 (P : PySem.Params) : List.lookup 160 (KF P) = some kb160 := by kernel_rfl
theorem kl306 (P : PySem.Params) : List.lookup 306 (KF P) = some kb306 := by kernel_rfl
theorem kl299 (P : PySem.Params) : List.lookup 299 (KF P) = some kb299 := by kernel_rfl
theorem kl127 (P : PySem.Params) : List.lookup 127 (KF P) = some kb127 := by kernel_rfl
theorem kl132 (P : PySem.Params) : List.lookup 132 (KF P) = some kb132 := by kernel_rfl
theorem kl146 (P : PySem.Params) : List.lookup 146 (KF P) = some kb146 := by kernel_rfl
theorem kl198 (P : PySem.Params) : List.lookup 198 (KF P) = some kb198 := by kernel_rfl
theorem kl191 (P : PySem.Params) : List.lookup 191 (KF P) = some kb191 := by kernel_rfl
theorem kl184 (P : PySem.Params) : List.lookup 184 (KF P) = some kb184 := by kernel_rfl
theorem kl179 (P : PySem.Params) : List.lookup 179 (KF P) = some kb179 := by kernel_rfl
theorem kl219 (P : PySem.Params) : List.lookup 219 (KF P) = some kb219 := by kernel_rfl
theorem kl233 (P : PySem.Params) : List.lookup 233 (KF P) = some kb233 := by kernel_rfl
theorem kl226 (P : PySem.Params) : List.lookup 226 (KF P) = some kb226 := by kernel_rfl
theorem kl212 (P : PySem.Params) : List.lookup 212 (KF P) = some kb212 := by kernel_rfl
theorem kl172 (P : PySem.Params) : List.lookup 172 (KF P) = some kb172 := by kernel_rfl
theorem kl240 (P : PySem.Params) : List.lookup 240 (KF P) = some kb240 := by kernel_rfl
theorem kl247 (P : PySem.Params) : List.lookup 247 (KF P) = some kb247 := by kernel_rfl
theorem kl254 (P : PySem.Params) : List.lookup 254 (KF P) = some kb254 := by kernel_rfl
theorem kl313 (P : PySem.Params) : List.lookup 313 (KF P) = some kb313 := by kernel_rfl
theorem kl320 (P : PySem.Params) : List.lookup 320 (KF P) = some kb320 := by kernel_rfl
theorem kl275 (P : PySem.Params) : List.lookup 275 (KF P) = some kb275 := by kernel_rfl
theorem kl261 (P : PySem.Params) : List.lookup 261 (KF P) = some kb261 := by kernel_rfl
theorem kl287 (P : PySem.Params) : List.lookup 287 (KF P) = some kb287 := by kernel_rfl
theorem kl294 (P : PySem.Params) : List.lookup 294 (KF P) = some kb294 := by kernel_rfl
theorem kl280 (P : PySem.Params) : List.lookup 280 (KF P) = some kb280 := by kernel_rfl
theorem kl205 (P : PySem.Params) : List.lookup 205 (KF P) = some kb205 := by kernel_rfl
theorem kl165 (P : PySem.Params) : List.lookup 165 (KF P) = some kb165 := by kernel_rfl
theorem kl268 (P : PySem.Params) : List.lookup 268 (KF P) = some kb268 := by kernel_rfl
theorem kl334 (P : PySem.Params) : List.lookup 334 (KF P) = some kb334 := by kernel_rfl
theorem kl327 (P : PySem.Params) : List.lookup 327 (KF P) = some kb327 := by kernel_rfl
theorem kl426 (P : PySem.Params) : List.lookup 426 (KF P) = some kb426 := by kernel_rfl
theorem kl374 (P : PySem.Params) : List.lookup 374 (KF P) = some kb374 := by kernel_rfl
theorem kl381 (P : PySem.Params) : List.lookup 381 (KF P) = some kb381 := by kernel_rfl
theorem kl388 (P : PySem.Params) : List.lookup 388 (KF P) = some kb388 := by kernel_rfl
theorem kl414 (P : PySem.Params) : List.lookup 414 (KF P) = some kb414 := by kernel_rfl
theorem kl421 (P : PySem.Params) : List.lookup 421 (KF P) = some kb421 := by kernel_rfl
theorem kl407 (P : PySem.Params) : List.lookup 407 (KF P) = some kb407 := by kernel_rfl
theorem kl433 (P : PySem.Params) : List.lookup 433 (KF P) = some kb433 := by kernel_rfl
theorem kl400 (P : PySem.Params) : List.lookup 400 (KF P) = some kb400 := by kernel_rfl
theorem kl440 (P : PySem.Params) : List.lookup 440 (KF P) = some kb440 := by kernel_rfl
theorem kl395 (P : PySem.Params) : List.lookup 395 (KF P) = some kb395 := by kernel_rfl
theorem kl447 (P : PySem.Params) : List.lookup 447 (KF P) = some kb447 := by kernel_rfl
theorem kl454 (P : PySem.Params) : List.lookup 454 (KF P) = some kb454 := by kernel_rfl
end A
set_option Elab.async false
set_option linter.all false
set_option maxRecDepth 100000
set_option maxHeartbeats 4000000
namespace M
open PySem PySem.Spec PyProof.Rows L2
noncomputable abbrev NkD := Addr → List (List Key × Key) → List Addr → List Addr → Heap → Prop
noncomputable def NkG (G : Hp) (ks : List (List Key × Key)) (kas : List Addr) : Prop := ∀ (j : Nat) (k : List Key × Key) (ka : Addr), ks[j]? = some k → kas[j]? = some ka → ∃ b, G ka = some (.tup [.ref b, kV k.2]) ∧ G b = some (.tup (k.1.map kV))
inductive D where
 | non | bl (b : Bool) | int (i : Int) | str (x : Str) | tup (ds : List D) | lst (ds : List D)
 | dct (ks : List Key) (ds : List D) | dtt (ks : List (List Key)) (ds : List D)
 | dnn (Φ : NkD) (ks : List (List Key × Key)) (ds : List D)
 | exn (c : Str)
 deriving Inhabited
mutual
noncomputable def Is (K : PySem.W.Frag) (G : Hp) : D → V → Prop
 | .non, v => v = .non
 | .bl b, v => v = .bl b
 | .int i, v => v = .int i
 | .str x, v => v = .str x ∧ x.length ≤ sizeLine ∧ PyData.strOk x = true
 | .tup ds, v => ∃ a xs, v = .ref a ∧ G a = some (.tup xs) ∧ xs.length ≤ sizeLine ∧ IsL K G ds xs
 | .lst ds, v => ∃ a xs, v = .ref a ∧ SqL K G a xs ∧ xs.length ≤ sizeLine ∧ IsL K G ds xs
 | .dct ks ds, v => ∃ a xs, v = .ref a ∧ G a = some (.dK (ks.zip xs)) ∧ ks.length = xs.length ∧ IsL K G ds xs
 | .dtt ks ds, v => ∃ a xs, v = .ref a ∧ G a = some (.dT (ks.zip xs)) ∧ ks.length = xs.length ∧ IsL K G ds xs
 | .dnn Φ ks ds, v => ∃ a kas bs, v = .ref a ∧ G a = some (.ext (Φ a ks kas bs)) ∧ ks.length = kas.length ∧ ks.length = bs.length ∧ NkG G ks kas ∧ IsL K G ds (bs.map V.ref)
 | .exn c, v => ∃ a φ C, v = .ref a ∧ G a = some (.ext φ) ∧ (∀ h : Heap, φ h → ∃ o, h.get? a = some o ∧ o.cls = .ref C) ∧ PySem.W.nsIn K mainGlobals c = some (some (.ref C))
noncomputable def IsL (K : PySem.W.Frag) (G : Hp) : List D → List V → Prop
 | [], xs => xs = []
 | d :: ds, xs => ∃ x r, xs = x :: r ∧ Is K G d x ∧ IsL K G ds r
end
section
variable {K : PySem.W.Frag} {G G' H : Hp}
theorem SqT.same {a : Addr} {xs : List V} (e : Same G G') (h : G a = some (.tup xs)) : SqT K G' a xs := .of (e _ _ h)
theorem NkG.same {ks : List (List Key × Key)} {kas : List Addr} (e : Same G G') (h : NkG G ks kas) : NkG G' ks kas := fun j k ka h1 h2 => let ⟨b, z1, z2⟩ := h j k ka h1 h2; ⟨b, e _ _ z1, e _ _ z2⟩
mutual
theorem Is.same (e : Same G G') : ∀ {d : D} {v : V}, Is K G d v → Is K G' d v
 | .non, v, h => h
 | .bl b, v, h => h
 | .int i, v, h => h
 | .str x, v, h => h
 | .tup ds, v, h => by
  obtain ⟨a, xs, rfl, h1, h2, h3⟩ := h
  exact ⟨a, xs, rfl, e _ _ h1, h2, IsL.same e h3⟩
 | .lst ds, v, h => by
  obtain ⟨a, xs, rfl, h1, h2, h3⟩ := h
  exact ⟨a, xs, rfl, e.seq h1, h2, IsL.same e h3⟩
 | .dct ks ds, v, h => by
  obtain ⟨a, xs, rfl, h1, h2, h3⟩ := h
  exact ⟨a, xs, rfl, e _ _ h1, h2, IsL.same e h3⟩
 | .dtt ks ds, v, h => by
  obtain ⟨a, xs, rfl, h1, h2, h3⟩ := h
  exact ⟨a, xs, rfl, e _ _ h1, h2, IsL.same e h3⟩
 | .dnn Φ ks ds, v, h => by
  obtain ⟨a, kas, bs, rfl, h1, h2, h3, h4, h5⟩ := h
  exact ⟨a, kas, bs, rfl, e _ _ h1, h2, h3, h4.same e, IsL.same e h5⟩
 | .exn c, v, h => by
  obtain ⟨a, φ, C, rfl, h1, h2, h3⟩ := h
  exact ⟨a, φ, C, rfl, e _ _ h1, h2, h3⟩
theorem IsL.same (e : Same G G') : ∀ {ds : List D} {xs : List V}, IsL K G ds xs → IsL K G' ds xs
 | [], xs, h => h
 | d :: ds, xs, h => by
  obtain ⟨x, r, rfl, h1, h2⟩ := h
  exact ⟨x, r, rfl, Is.same e h1, IsL.same e h2⟩
end
theorem IsL.length : ∀ {ds : List D} {xs : List V}, IsL K G ds xs → xs.length = ds.length
 | [], xs, h => by rw [show xs = [] from h]; rfl
 | d :: ds, xs, h => by
  obtain ⟨x, r, rfl, h1, h2⟩ := h
  simp [IsL.length h2]
theorem IsL.get : ∀ {ds : List D} {xs : List V} {i : Nat} {d : D}, IsL K G ds xs → ds[i]? = some d → ∃ x, xs[i]? = some x ∧ Is K G d x
 | [], _, _, _, _, e => by simp at e
 | d :: ds, xs, 0, d', h, e => by
  obtain ⟨x, r, rfl, h1, h2⟩ := h
  simp at e; subst e
  exact ⟨x, rfl, h1⟩
 | d :: ds, xs, i + 1, d', h, e => by
  obtain ⟨x, r, rfl, h1, h2⟩ := h
  obtain ⟨y, e1, e2⟩ := IsL.get (i := i) h2 (by simpa using e)
  exact ⟨y, by simpa using e1, e2⟩
theorem IsL.append : ∀ {ds es : List D} {xs ys : List V}, IsL K G ds xs → IsL K G es ys → IsL K G (ds ++ es) (xs ++ ys)
 | [], es, xs, ys, h, h' => by rw [show xs = [] from h]; exact h'
 | d :: ds, es, xs, ys, h, h' => by
  obtain ⟨x, r, rfl, h1, h2⟩ := h
  exact ⟨x, r ++ ys, rfl, h1, IsL.append h2 h'⟩
theorem IsL.one {d : D} {v : V} (h : Is K G d v) : IsL K G [d] [v] := ⟨v, [], rfl, h, rfl⟩
theorem IsL.take : ∀ {ds : List D} {xs : List V} (n : Nat), IsL K G ds xs → IsL K G (ds.take n) (xs.take n)
 | _, _, 0, _ => rfl
 | [], xs, n + 1, h => by rw [show xs = [] from h]; rfl
 | d :: ds, xs, n + 1, h => by
  obtain ⟨x, r, rfl, h1, h2⟩ := h
  exact ⟨x, r.take n, rfl, h1, IsL.take n h2⟩
theorem IsL.drop : ∀ {ds : List D} {xs : List V} (n : Nat), IsL K G ds xs → IsL K G (ds.drop n) (xs.drop n)
 | _, _, 0, h => h
 | [], xs, n + 1, h => by rw [show xs = [] from h]; rfl
 | d :: ds, xs, n + 1, h => by
  obtain ⟨x, r, rfl, h1, h2⟩ := h
  exact IsL.drop n h2
theorem IsL.set {d : D} {v : V} (hv : Is K G d v) : ∀ {ds : List D} {xs : List V} (i : Nat), IsL K G ds xs → IsL K G (ds.set i d) (xs.set i v)
 | [], xs, _, h => by rw [show xs = [] from h]; rfl
 | e :: ds, xs, 0, h => by
  obtain ⟨x, r, rfl, h1, h2⟩ := h
  exact ⟨v, r, rfl, hv, h2⟩
 | e :: ds, xs, i + 1, h => by
  obtain ⟨x, r, rfl, h1, h2⟩ := h
  exact ⟨x, r.set i v, rfl, h1, IsL.set hv i h2⟩
theorem IsL.nil : IsL K G [] [] := rfl
theorem IsL.cons {d : D} {v : V} {ds : List D} {xs : List V} (h : Is K G d v) (t : IsL K G ds xs) : IsL K G (d :: ds) (v :: xs) := ⟨v, xs, rfl, h, t⟩
theorem isL_ints : ∀ ns : List Int, IsL K G (ns.map D.int) (ns.map V.int)
 | [] => rfl
 | n :: ns => ⟨.int n, ns.map V.int, rfl, rfl, isL_ints ns⟩
end
inductive Rs (α : Type) where
 | ok (a : α) | exc (c : Str) | bad
noncomputable def Rs.bind {α β : Type} : Rs α → (α → Rs β) → Rs β
 | .ok a, f => f a
 | .exc c, _ => .exc c
 | .bad, _ => .bad
noncomputable instance : Monad Rs where
 pure := Rs.ok
 bind := Rs.bind
theorem nodef {α : Type} {a b : α} (h : a = b) : a = b := h
@[simp] theorem ok_bind {α β : Type} (a : α) (f : α → Rs β) : (Rs.ok a >>= f) = f a := nodef rfl
structure Ext (H G H' G' : Hp) : Prop where
 hh : Same H H'
 gg : Same G G'
 gh : Same G' H'
 new : ∀ b o, G' b = some o → G b = some o ∨ H b = none
theorem Ext.trans {H G H1 G1 H2 G2 : Hp} (a : Ext H G H1 G1) (b : Ext H1 G1 H2 G2) : Ext H G H2 G2 :=
 ⟨a.hh.trans b.hh, a.gg.trans b.gg, b.gh, fun c o e => by
  rcases b.new c o e with h | h
  ·exact a.new c o h
  ·exact .inr (a.hh.free h)⟩
theorem Ext.refl {H G : Hp} (h : Same G H) : Ext H G H G := ⟨Same.refl _, Same.refl _, h, fun _ _ e => .inl e⟩
theorem same_upd {H : Hp} {p : Addr} (h : H p = none) (o : HO) : Same H (upd H p o) := fun b u q => by rw [upd_ne (ne_of_none q h)]; exact q
theorem Ext.laid {H G : Hp} {p : Addr} {o : HO} (gh : Same G H) (h : H p = none) : Ext H G (upd H p o) (upd G p o) := by
 have hg : G p = none := gh.free h
 refine ⟨same_upd h o, same_upd hg o, fun b u q => ?_, fun b u q => ?_⟩
 ·by_cases hb : b = p
  ·subst hb; rw [upd_same] at q ⊢; exact q
  ·rw [upd_ne hb] at q ⊢; exact gh b u q
 ·by_cases hb : b = p
  ·subst hb; exact .inr h
  ·rw [upd_ne hb] at q; exact .inl q
theorem Ext.own {H G : Hp} {p : Addr} {o : HO} (gh : Same G H) (h : H p = none) : Ext H G (upd H p o) G :=
 ⟨same_upd h o, Same.refl _, gh.trans (same_upd h o), fun _ _ e => .inl e⟩
end M
set_option Elab.async false
set_option linter.all false
set_option maxRecDepth 100000
set_option maxHeartbeats 4000000
namespace M
open PySem PySem.Spec PyProof.Rows L2
set_option autoImplicit false
noncomputable abbrev St := L2.St
inductive Kd where
 | l | d (ks : List Key) | t (ks : List (List Key))
noncomputable abbrev Kd.obj : Kd → List V → HO
 | .l, xs => .lst xs
 | .d ks, xs => .dK (ks.zip xs)
 | .t ks, xs => .dT (ks.zip xs)
noncomputable abbrev Kd.fit : Kd → List V → Prop
 | .l, xs => xs.length ≤ sizeLine
 | .d ks, xs => ks.length = xs.length
 | .t ks, xs => ks.length = xs.length
noncomputable def Kd.dat : Kd → List D → D
 | .l, ds => .lst ds
 | .d ks, ds => .dct ks ds
 | .t ks, ds => .dtt ks ds
inductive Sl where
 | v (d : D) | ow (k : Kd) (ds : List D)
noncomputable abbrev Sl.own (ds : List D) : Sl := .ow .l ds
noncomputable abbrev DS := List (Option Sl)
structure Rel (X : Cx) (B G₀ : Hp) (σ : St) (H G : Hp) (δ : DS) : Prop where
 ext : Ext B G₀ H G
 len : σ.length = δ.length
 val : ∀ (i : Nat) (d : D), δ[i]? = some (some (.v d)) → ∃ v, σ[i]? = some (some v) ∧ Is X.K G d v
 own : ∀ (i : Nat) {k : Kd} (ds : List D), δ[i]? = some (some (.ow k ds)) → ∃ a xs, σ[i]? = some (some (.ref a)) ∧ H a = some (k.obj xs) ∧ G a = none ∧ B a = none ∧ k.fit xs ∧ IsL X.K G ds xs
 apart : ∀ (i j : Nat) {k k' : Kd} (ds es : List D) (a : Addr), δ[i]? = some (some (.ow k ds)) → δ[j]? = some (some (.ow k' es)) → σ[i]? = some (some (.ref a)) → σ[j]? = some (some (.ref a)) → i = j
section
variable {X : Cx} {B G₀ : Hp} {σ : St} {H G H1 G1 : Hp} {δ : DS}
theorem Rel.mono (R : Rel X B G₀ σ H G δ) (e : Ext H G H1 G1) : Rel X B G₀ σ H1 G1 δ where
 ext := R.ext.trans e
 len := R.len
 val := fun i d h => let ⟨v, h1, h2⟩ := R.val i d h; ⟨v, h1, h2.same e.gg⟩
 own := fun i k ds h => by
  obtain ⟨a, xs, h1, h2, h3, h4, hz, h5⟩ := R.own i ds h
  refine ⟨a, xs, h1, e.hh _ _ h2, ?_, h4, hz, h5.same e.gg⟩
  cases q : G1 a with
  | none => rfl
  | some o =>
   rcases e.new a o q with z | z
   ·rw [h3] at z; cases z
   ·rw [h2] at z; cases z
 apart := R.apart
theorem Rel.set (R : Rel X B G₀ σ H G δ) (i : Nat) {d : D} {v : V} (h : Is X.K G d v) : Rel X B G₀ (σ.set i (some v)) H G (δ.set i (some (.v d))) where
 ext := R.ext
 len := by simp [R.len]
 val := fun j e q => by
  by_cases hj : i = j
  ·subst hj
   rw [List.getElem?_set] at q
   simp only [if_true] at q
   split at q
   ·rename_i hl
    cases q
    refine ⟨v, ?_, h⟩
    rw [List.getElem?_set]; simp only [if_true]; rw [if_pos (by rw [R.len]; exact hl)]
   ·cases q
  ·rw [List.getElem?_set_ne hj] at q ⊢
   exact R.val j e q
 own := fun j k0 es q => by
  by_cases hj : i = j
  ·subst hj
   rw [List.getElem?_set] at q
   simp only [if_true] at q
   split at q <;> cases q
  ·rw [List.getElem?_set_ne hj] at q
   obtain ⟨a, xs, h1, h2⟩ := R.own j es q
   exact ⟨a, xs, by rw [List.getElem?_set_ne hj]; exact h1, h2⟩
 apart := fun j k k1 k2 ds es a h1 h2 h3 h4 => by
  have nj : ∀ {j : Nat} {k0 : Kd} {ds : List D}, (δ.set i (some (.v d)))[j]? = some (some (.ow k0 ds)) → i ≠ j := fun {j k0 ds} q e => by
   subst e
   rw [List.getElem?_set] at q
   simp only [if_true] at q
   split at q <;> cases q
  have a1 := nj h1
  have a2 := nj h2
  rw [List.getElem?_set_ne a1] at h1 h3
  rw [List.getElem?_set_ne a2] at h2 h4
  exact R.apart j k ds es a h1 h2 h3 h4
noncomputable def shareS : Option Sl → Option Sl
 | some (.ow k ds) => some (.v (k.dat ds))
 | x => x
noncomputable def share (δ : DS) : DS := δ.map shareS
end
theorem Rel.setOwnK {X : Cx} {B G₀ : Hp} {σ : St} {H G H1 : Hp} {δ : DS} (R : Rel X B G₀ σ H G δ) (i : Nat) {kd : Kd} {ds : List D} {a : Addr} {xs : List V} (h1 : H a = none) (hh : Same H H1) (ha : H1 a = some (kd.obj xs)) (hG : Same G H1) (hz : kd.fit xs) (hI : IsL X.K G ds xs) :
  Rel X B G₀ (σ.set i (some (.ref a))) H1 G (δ.set i (some (.ow kd ds))) := by
 have R1 : Rel X B G₀ σ H1 G δ := R.mono ⟨hh, Same.refl _, hG, fun _ _ e => .inl e⟩
 have hGa : G a = none := R.ext.gh.free h1
 have hBa : B a = none := R.ext.hh.free h1
 have ne : ∀ (j : Nat) {k0 : Kd} (es : List D), δ[j]? = some (some (.ow k0 es)) → ∀ b, σ[j]? = some (some (.ref b)) → b ≠ a := fun j k0 es q b hb e => by
  obtain ⟨c, ys, q1, q2, _⟩ := R.own j es q
  rw [hb] at q1; cases q1
  rw [e, h1] at q2; cases q2
 refine ⟨R1.ext, by simp [R.len], fun j e q => ?_, fun j k0 es q => ?_, fun j k k1 k2 ds1 es1 b q1 q2 q3 q4 => ?_⟩
 ·by_cases hj : i = j
  ·subst hj
   rw [List.getElem?_set] at q
   simp only [if_true] at q
   split at q <;> cases q
  ·rw [List.getElem?_set_ne hj] at q ⊢
   exact R1.val j e q
 ·by_cases hj : i = j
  ·subst hj
   rw [List.getElem?_set] at q
   simp only [if_true] at q
   split at q
   ·rename_i hl
    cases q
    refine ⟨a, xs, ?_, ha, hGa, hBa, hz, hI⟩
    rw [List.getElem?_set]; simp only [if_true]; rw [if_pos (by rw [R.len]; exact hl)]
   ·cases q
  ·rw [List.getElem?_set_ne hj] at q
   obtain ⟨c, ys, z1, z2⟩ := R1.own j es q
   exact ⟨c, ys, by rw [List.getElem?_set_ne hj]; exact z1, z2⟩
 ·have at_i : ∀ {b : Addr} {j : Nat}, i = j → (σ.set i (some (V.ref a)))[j]? = some (some (.ref b)) → b = a := fun {b j} e q => by
   subst e
   rw [List.getElem?_set] at q
   simp only [if_true] at q
   split at q
   ·cases q; rfl
   ·cases q
  by_cases hj : i = j
  ·by_cases hk : i = k
   ·exact hj.symm.trans hk
   ·exfalso
    have e := at_i hj q3
    rw [List.getElem?_set_ne hk] at q2 q4
    exact ne k es1 q2 b q4 e
  ·by_cases hk : i = k
   ·exfalso
    have e := at_i hk q4
    rw [List.getElem?_set_ne hj] at q1 q3
    exact ne j ds1 q1 b q3 e
   ·rw [List.getElem?_set_ne hj] at q1 q3
    rw [List.getElem?_set_ne hk] at q2 q4
    exact R.apart j k ds1 es1 b q1 q2 q3 q4
theorem Rel.setOwn {X : Cx} {B G₀ : Hp} {σ : St} {H G H1 : Hp} {δ : DS} (R : Rel X B G₀ σ H G δ) (i : Nat) {ds : List D} {a : Addr} {xs : List V} (h1 : H a = none) (hh : Same H H1) (ha : H1 a = some (.lst xs)) (hG : Same G H1) (hz : xs.length ≤ sizeLine) (hI : IsL X.K G ds xs) :
  Rel X B G₀ (σ.set i (some (.ref a))) H1 G (δ.set i (some (.own ds))) := R.setOwnK (kd := .l) i h1 hh ha hG hz hI
theorem Rel.writeK {X : Cx} {B G₀ : Hp} {σ : St} {H G : Hp} {δ : DS} (R : Rel X B G₀ σ H G δ) {i : Nat} {k0 k1 : Kd} {ds es : List D} {a : Addr} {ys : List V} (hi : δ[i]? = some (some (.ow k0 ds))) (hσ : σ[i]? = some (some (.ref a))) (hz : k1.fit ys) (hI : IsL X.K G es ys) :
  Rel X B G₀ σ (upd H a (k1.obj ys)) G (δ.set i (some (.ow k1 es))) := by
 obtain ⟨a', xs, h1, h2, h3, h4, hz', h5⟩ := R.own i ds hi
 rw [hσ] at h1; cases h1
 have hl : i < δ.length := (List.getElem?_eq_some_iff.mp hi).1
 have sub : ∀ {F : Hp}, F a = none → Same F H → Same F (upd H a (k1.obj ys)) := fun {F} hF s b o q => by
  rw [upd_ne (ne_of_none q hF)]; exact s b o q
 refine ⟨⟨sub h4 R.ext.hh, R.ext.gg, sub h3 R.ext.gh, R.ext.new⟩, by simp [R.len], fun j e q => ?_, fun j k2 es1 q => ?_, fun j k k2 k3 ds1 es1 b q1 q2 q3 q4 => ?_⟩
 ·by_cases hj : i = j
  ·subst hj
   rw [List.getElem?_set] at q
   simp only [if_true] at q
   split at q <;> cases q
  ·rw [List.getElem?_set_ne hj] at q
   exact R.val j e q
 ·by_cases hj : i = j
  ·subst hj
   rw [List.getElem?_set] at q
   simp only [if_true] at q
   rw [if_pos hl] at q
   cases q
   exact ⟨a, ys, hσ, upd_same, h3, h4, hz, hI⟩
  ·rw [List.getElem?_set_ne hj] at q
   obtain ⟨c, zs, z1, z2, z3⟩ := R.own j es1 q
   refine ⟨c, zs, z1, ?_, z3⟩
   rw [upd_ne]; exact z2
   rintro rfl
   exact hj (R.apart i j ds es1 _ hi q hσ z1)
 ·have back : ∀ {j : Nat} {k4 : Kd} {ds1 : List D}, (δ.set i (some (.ow k1 es)))[j]? = some (some (.ow k4 ds1)) → ∃ k5 ds2, δ[j]? = some (some (.ow k5 ds2)) := fun {j k4 ds1} q => by
   by_cases hj : i = j
   ·subst hj; exact ⟨_, ds, hi⟩
   ·rw [List.getElem?_set_ne hj] at q; exact ⟨_, _, q⟩
  obtain ⟨_, d1, q1⟩ := back q1
  obtain ⟨_, d2, q2⟩ := back q2
  exact R.apart j k d1 d2 b q1 q2 q3 q4
theorem Rel.write {X : Cx} {B G₀ : Hp} {σ : St} {H G : Hp} {δ : DS} (R : Rel X B G₀ σ H G δ) {i : Nat} {k0 : Kd} {ds es : List D} {a : Addr} {ys : List V} (hi : δ[i]? = some (some (.ow k0 ds))) (hσ : σ[i]? = some (some (.ref a))) (hz : ys.length ≤ sizeLine) (hI : IsL X.K G es ys) :
  Rel X B G₀ σ (upd H a (.lst ys)) G (δ.set i (some (.own es))) := R.writeK (k1 := .l) hi hσ hz hI
noncomputable def ownAt (σ : St) (δ : DS) (a : Addr) : Prop := ∃ (i : Nat) (k : Kd) (ds : List D), δ[i]? = some (some (.ow k ds)) ∧ σ[i]? = some (some (.ref a))
open Classical in
noncomputable def withOwn (σ : St) (δ : DS) (H G : Hp) : Hp := fun b => if ownAt σ δ b then H b else G b
theorem Rel.share {X : Cx} {B G₀ : Hp} {σ : St} {H G : Hp} {δ : DS} (R : Rel X B G₀ σ H G δ) : ∃ G1, Rel X B G₀ σ H G1 (M.share δ) ∧ Same G G1 ∧ Same G1 H ∧ ∀ b o, G1 b = some o → G b = some o ∨ ownAt σ δ b := by
 have gg : Same G (withOwn σ δ H G) := fun b o q => by
  unfold withOwn
  split
  ·exact R.ext.gh b o q
  ·exact q
 have gh : Same (withOwn σ δ H G) H := fun b o q => by
  unfold withOwn at q
  split at q
  ·exact q
  ·exact R.ext.gh b o q
 have nw : ∀ b o, withOwn σ δ H G b = some o → G b = some o ∨ ownAt σ δ b := fun b o q => by
  unfold withOwn at q
  split at q
  ·rename_i h; exact .inr h
  ·exact .inl q
 refine ⟨withOwn σ δ H G, ?_, gg, gh, nw⟩
 have sh : ∀ (j : Nat), (M.share δ)[j]? = (δ[j]?).map shareS := fun j => by unfold M.share; rw [List.getElem?_map]
 refine ⟨⟨R.ext.hh, R.ext.gg.trans gg, gh, fun b o q => ?_⟩, by unfold M.share; rw [List.length_map]; exact R.len, fun i d q => ?_, fun i k0 ds q => ?_, fun i j k1 k2 ds es a q1 _ _ _ => ?_⟩
 ·rcases nw b o q with h | ⟨i, k0, ds, h1, h2⟩
  ·exact R.ext.new b o h
  ·obtain ⟨a, xs, z1, z2, z3, z4, _⟩ := R.own i ds h1
   rw [h2] at z1; cases z1
   exact .inr z4
 ·rw [sh] at q
  cases e : δ[i]? with
  | none => rw [e] at q; cases q
  | some s =>
   rw [e] at q
   cases s with
   | none => cases q
   | some s =>
    cases s with
    | v d' =>
     cases q
     obtain ⟨v, h1, h2⟩ := R.val i _ e
     exact ⟨v, h1, h2.same gg⟩
    | ow k ds =>
     cases q
     obtain ⟨a, xs, h1, h2, h3, h4, hz, h5⟩ := R.own i ds e
     have hw : withOwn σ δ H G a = some (k.obj xs) := by unfold withOwn; rw [if_pos ⟨i, k, ds, e, h1⟩]; exact h2
     cases k with
     | l => exact ⟨.ref a, h1, a, xs, rfl, .of hw, hz, h5.same gg⟩
     | d ks => exact ⟨.ref a, h1, a, xs, rfl, hw, hz, h5.same gg⟩
     | t ks => exact ⟨.ref a, h1, a, xs, rfl, hw, hz, h5.same gg⟩
 ·rw [sh] at q
  cases e : δ[i]? with
  | none => rw [e] at q; cases q
  | some s =>
   rw [e] at q
   cases s with
   | none => cases q
   | some s => cases s <;> cases q
 ·rw [sh] at q1
  cases e : δ[i]? with
  | none => rw [e] at q1; cases q1
  | some s =>
   rw [e] at q1
   cases s with
   | none => cases q1
   | some s => cases s <;> cases q1
end M
set_option Elab.async false
set_option linter.all false
set_option maxRecDepth 100000
set_option maxHeartbeats 4000000
namespace M
open PySem PySem.Spec PyProof.Rows L2
set_option autoImplicit false
structure UnB (fs : List Addr) (H H' : Hp) (h Bk h' : Heap) : Prop where
 keep : ∀ b o, h.get? b = some o → H b = none → b ∉ fs → Bk.get? b = some o
 slot : ∀ b o, h.get? b = some o → H b = none → b ∈ fs → ∃ sl, h'.get? b = some { o with slots := sl }
 free : ∀ b o, h.get? b = some o → H b = none → H' b = none
 same : Same H H'
noncomputable def Fl (Bk : Heap) (l : List Env) (e C : Addr) (h : Heap) : Prop :=
 (∃ t fl, Bk.StaysIn h ∧ Bk.get? e = none ∧ h.FunFrames Bk l ∧ h.TracedAtW Bk e (.ref C) (.ref t) fl) ∨
  ∃ h₁ vs, Bk.StaysIn h₁ ∧ h₁.FunFrames Bk l ∧ Heap.MadeExcOf h₁ h e (.ref C) vs
noncomputable def IsX (X : Cx) (c : Str) (H G : Hp) (s : Shared) (ev : Value) (s' : Shared) : Prop :=
 ∃ (e C : Addr) (Bk : Heap) (H' G' : Hp), ev = .ref e ∧ X.mg c = some (.ref C) ∧ Ext H G H' G' ∧ Fl Bk X.stack e C s'.heap ∧ s'.os = s.os ∧ AllBare s'.gens ∧ HOk X.prog X.w H' Bk ∧
  (∀ b o, H' b = some o → b ∉ frs X.stack) ∧ UnB (frs X.stack) H H' s.heap Bk s'.heap
noncomputable def Rs.wp {α : Type} (r : Rs α) (x : Str → Prop) (q : α → Prop) : Prop := match r with
 | .ok a => q a
 | .exc c => x c
 | .bad => False
theorem wp_bind {α β : Type} {r : Rs α} {f : α → Rs β} {x : Str → Prop} {q : β → Prop} : (r >>= f).wp x q ↔ r.wp x fun a => (f a).wp x q := by
 cases r <;> exact Iff.rfl
theorem Rs.wp.mono {α : Type} {r : Rs α} {x x' : Str → Prop} {q q' : α → Prop} (h : r.wp x q) (hx : ∀ c, x c → x' c) (hq : ∀ a, q a → q' a) : r.wp x' q' := by
 cases r with
 | ok a => exact hq a h
 | exc c => exact hx c h
 | bad => exact h
noncomputable def Xo (X : Cx) (c : Str) (σ : St) (H G : Hp) : Prop := ∀ (pins : List (Addr × Obj)) (s' : Shared) (H' G' : Hp) (ev : Value), Ext H G H' G' → Inv X pins σ H' s' → ∀ s'' : Shared, IsX X c H' G' s' ev s'' → X.xe ev s''
theorem Xo.mono {X : Cx} {c : Str} {σ : St} {H G H1 G1 : Hp} (e : Ext H G H1 G1) (h : Xo X c σ H G) : Xo X c σ H1 G1 := fun pins s' H' G' ev e' I x => h pins s' H' G' ev (e.trans e') I x
noncomputable def W (X : Cx) (Q : VK) (σ : St) (H G : Hp) (r : Rs D) : Prop := r.wp (fun c => Xo X c σ H G) fun d => ∀ v H' G', Ext H G H' G' → Is X.K G' d v → Q v H'
noncomputable def WT (X : Cx) (Q : Bool → Hp → Prop) (σ : St) (H G : Hp) (r : Rs Bool) : Prop := r.wp (fun c => Xo X c σ H G) fun b => ∀ H' G', Ext H G H' G' → Q b H'
noncomputable def WA (X : Cx) (Q : List V → Hp → Prop) (σ : St) (H G : Hp) (r : Rs (List D)) : Prop := r.wp (fun c => Xo X c σ H G) fun ds => ∀ vs H' G', Ext H G H' G' → IsL X.K G' ds vs → Q vs H'
section
variable {X : Cx} {σ : St} {H G H1 G1 : Hp}
end
noncomputable def tE (X : Cx) (B G₀ : Hp) (f : DS → Rs D) : TE := fun σ H Q => ∃ G δ, Rel X B G₀ σ H G δ ∧ W X Q σ H G (f δ)
noncomputable def tT (X : Cx) (B G₀ : Hp) (f : DS → Rs Bool) : TT := fun σ H Q => ∃ G δ, Rel X B G₀ σ H G δ ∧ WT X Q σ H G (f δ)
noncomputable def tAs (X : Cx) (B G₀ : Hp) (f : DS → Rs (List D)) : TA := fun σ H Q => ∃ G δ, Rel X B G₀ σ H G δ ∧ WA X Q σ H G (f δ)
section
variable {X : Cx} {B G₀ : Hp} {pins : List (Addr × Obj)} {s : Shared} {σ : St} {H G : Hp} {δ : DS}
theorem bindE {α : Type} {a : Expr} {fa : DS → Rs D} (ha : PE X a (tE X B G₀ fa)) (I : Inv X pins σ H s) (R : Rel X B G₀ σ H G δ) {k : D → Rs α} {q : α → Prop} {Post : Value → Shared → Prop}
  (hw : (fa δ >>= k).wp (fun c => Xo X c σ H G) q)
  (hk : ∀ d u v s' H' G', Inv X pins σ H' s' → Rel X B G₀ σ H' G' δ → RelV v u → Ext H G H' G' → Is X.K G' d v → (k d).wp (fun c => Xo X c σ H' G') q → Post u s') :
  wpAny (model X.prog X.w) X.A (eval a X.env) Post X.xe s := by
 rw [wp_bind] at hw
 refine thn (ha pins s σ H (fun v H' => ∃ d G', Ext H G H' G' ∧ Is X.K G' d v ∧ (k d).wp (fun c => Xo X c σ H' G') q) I ⟨G, δ, R, ?_⟩) ?_
 ·exact Rs.wp.mono hw (fun _ x => x) fun d q v H' G' e i => ⟨d, G', e, i, Rs.wp.mono q (fun _ x => x.mono e) fun _ z => z⟩
 ·intro u s' ⟨v, H', I', r, d, G', e, i, q⟩
  exact hk d u v s' H' G' I' (R.mono e) r e i q
theorem bindT {α : Type} {a : Expr} {fa : DS → Rs Bool} (ha : PT X a (tT X B G₀ fa)) (I : Inv X pins σ H s) (R : Rel X B G₀ σ H G δ) {k : Bool → Rs α} {q : α → Prop} {Post : Bool → Shared → Prop}
  (hw : (fa δ >>= k).wp (fun c => Xo X c σ H G) q)
  (hk : ∀ b s' H' G', Inv X pins σ H' s' → Rel X B G₀ σ H' G' δ → Ext H G H' G' → (k b).wp (fun c => Xo X c σ H' G') q → Post b s') :
  wpAny (model X.prog X.w) X.A (isTrue a X.env (eval a X.env)) Post X.xe s := by
 rw [wp_bind] at hw
 refine thn (ha pins s σ H (fun b H' => ∃ G', Ext H G H' G' ∧ (k b).wp (fun c => Xo X c σ H' G') q) I ⟨G, δ, R, ?_⟩) ?_
 ·exact Rs.wp.mono hw (fun _ x => x) fun d q H' G' e => ⟨G', e, Rs.wp.mono q (fun _ x => x.mono e) fun _ z => z⟩
 ·intro b s' ⟨H', I', G', e, q⟩
  exact hk b s' H' G' I' (R.mono e) e q
theorem bindA {α : Type} {es : List Expr} {fa : DS → Rs (List D)} {pos : Pos} (ha : PA X es (tAs X B G₀ fa)) (I : Inv X pins σ H s) (R : Rel X B G₀ σ H G δ) {k : List D → Rs α} {q : α → Prop} {Post : List Value → Shared → Prop}
  (hw : (fa δ >>= k).wp (fun c => Xo X c σ H G) q)
  (hk : ∀ ds us vs s' H' G', Inv X pins σ H' s' → Rel X B G₀ σ H' G' δ → Vals vs us → Ext H G H' G' → IsL X.K G' ds vs → (k ds).wp (fun c => Xo X c σ H' G') q → Post us s') :
  wpAny (model X.prog X.w) X.A (spliced (backTo pos (starEach es X.env))) Post X.xe s := by
 rw [wp_bind] at hw
 refine thn (ha pos pins s σ H (fun vs H' => ∃ ds G', Ext H G H' G' ∧ IsL X.K G' ds vs ∧ (k ds).wp (fun c => Xo X c σ H' G') q) I ⟨G, δ, R, ?_⟩) ?_
 ·exact Rs.wp.mono hw (fun _ x => x) fun d q v H' G' e i => ⟨d, G', e, i, Rs.wp.mono q (fun _ x => x.mono e) fun _ z => z⟩
 ·intro us s' ⟨vs, H', I', r, ds, G', e, i, q⟩
  exact hk ds us vs s' H' G' I' (R.mono e) r e i q
end
noncomputable def varD (i : Nat) : DS → Rs D := fun δ => match δ[i]? with
 | some (some (.v d)) => .ok d
 | _ => .bad
noncomputable def cD (d : D) : DS → Rs D := fun _ => .ok d
section
variable {X : Cx} {B G₀ : Hp}
theorem pd_of {e : Expr} {t : TE} {f : DS → Rs D} (h : PE X e t) (k : ∀ σ H G δ Q, Rel X B G₀ σ H G δ → W X Q σ H G (f δ) → t σ H Q) : PE X e (tE X B G₀ f) := by
 intro pins s σ H Q I ⟨G, δ, R, hw⟩
 exact h pins s σ H Q I (k σ H G δ Q R hw)
theorem pd_var (i : Nat) {x : Str} {pos : Pos} (hN : X.N[i]? = some x := by rfl) (hv : Vis X.env.scope x := by first | exact Or.inl rfl | exact Or.inr (Or.inl rfl) | exact Or.inr (Or.inr rfl)) (hd : (x == ("__debug__" : Str)) = false := by decide)
  (hcd : (x == ("__classdict__" : Str)) = false := by decide) : PE X (.Name x pos) (tE X B G₀ (varD i)) := by
 refine pd_of (pe_var hN hv hd hcd) fun σ H G δ Q R hw => ?_
 unfold varD at hw
 split at hw
 ·rename_i d e
  obtain ⟨v, h1, h2⟩ := R.val i d e
  exact ⟨v, h1, hw v H G (Ext.refl R.ext.gh) h2⟩
 ·exact hw.elim
theorem pd_int {i : Int} {j pos} : PE X (.Constant (.int i) j pos) (tE X B G₀ (cD (.int i))) := pd_of pe_int fun σ H G δ Q R hw => hw _ H G (Ext.refl R.ext.gh) rfl
theorem pd_bl {b : Bool} {j pos} : PE X (.Constant (.bool b) j pos) (tE X B G₀ (cD (.bl b))) := pd_of pe_bl fun σ H G δ Q R hw => hw _ H G (Ext.refl R.ext.gh) rfl
theorem pd_non {j pos} : PE X (.Constant .none j pos) (tE X B G₀ (cD .non)) := pd_of pe_non fun σ H G δ Q R hw => hw _ H G (Ext.refl R.ext.gh) rfl
theorem pd_str {x : Str} {j pos} (hx : x.length ≤ sizeLine := by decide +kernel) (ho : PyData.strOk x = true := by decide +kernel) : PE X (.Constant (.str x) j pos) (tE X B G₀ (cD (.str x))) := pd_of pe_str fun σ H G δ Q R hw => hw _ H G (Ext.refl R.ext.gh) ⟨rfl, hx, ho⟩
theorem pd_gint {x : Str} {i : Int} {t : Tok} {pos : Pos} (hm : X.mg x = some (.int i t)) (hg : Gl X x := by rfl) (hd : (x == ("__debug__" : Str)) = false := by decide) : PE X (.Name x pos) (tE X B G₀ (cD (.int i))) :=
 pd_of (pe_glob (v := .int i) hg hm ⟨t, rfl⟩ hd) fun σ H G δ Q R hw => hw _ H G (Ext.refl R.ext.gh) rfl
noncomputable def OpD (X : Cx) (f : Value → Value → Sem Value) (g : D → D → Rs D) : Prop :=
 ∀ (pins : List (Addr × Obj)) (s : Shared) (σ : St) (H G : Hp) (Q : VK) (d1 d2 : D) (x y : V) (v u : Value), Inv X pins σ H s → Same G H → RelV x v → RelV y u → Is X.K G d1 x → Is X.K G d2 y → W X Q σ H G (g d1 d2) →
  wpAny (model X.prog X.w) X.A (f v u) (EP X pins σ Q) X.xe s
theorem opD_of {f : Value → Value → Sem Value} {r : R2} {g : D → D → Rs D} (ho : OpR X f r) (h : ∀ σ H G Q d1 d2 x y, Same G H → Is X.K G d1 x → Is X.K G d2 y → W X Q σ H G (g d1 d2) → r x y H Q) : OpD X f g :=
 fun pins s σ H G Q d1 d2 x y v u I gh rx ry i1 i2 hw => ho pins s σ H x y v u Q I rx ry (h σ H G Q d1 d2 x y gh i1 i2 hw)
variable {a b c : Expr} {fa fb fc : DS → Rs D} {pos : Pos}
theorem pd_bin {op : Operator} {g : D → D → Rs D} (ho : OpD X (binaryOp op) g) (ha : PE X a (tE X B G₀ fa)) (hb : PE X b (tE X B G₀ fb)) : PE X (.BinOp a op b pos) (tE X B G₀ fun δ => fa δ >>= fun x => fb δ >>= fun y => g x y) := by
 intro pins s σ H Q I ⟨G, δ, R, hw⟩
 exact wpAny_BinOp (bindE ha I R hw fun d1 u1 v1 s1 H1 G1 I1 R1 r1 e1 i1 hw1 => bindE hb I1 R1 hw1 fun d2 u2 v2 s2 H2 G2 I2 R2 r2 e2 i2 hw2 =>
  ho pins s2 σ H2 G2 Q d1 d2 v1 v2 u1 u2 I2 R2.ext.gh r1 r2 (i1.same e2.gg) i2 (Rs.wp.mono hw2 (fun _ x => x) fun d q v H' G' e' => q v H' G' ((e1.trans e2).trans e')))
theorem pd_cmp {op : CmpOp} {g : D → D → Rs D} (ho : OpD X (compareOp op) g) (ha : PE X a (tE X B G₀ fa)) (hb : PE X b (tE X B G₀ fb)) (hm : behindInMarks op b = false := by first | exact nobehind _ (by decide) (by decide) | rfl) :
  PE X (.Compare a [op] [b] pos) (tE X B G₀ fun δ => fa δ >>= fun x => fb δ >>= fun y => g x y) := by
 intro pins s σ H Q I ⟨G, δ, R, hw⟩
 exact wpAny_Compare1 (bindE ha I R hw fun d1 u1 v1 s1 H1 G1 I1 R1 r1 e1 i1 hw1 => bindE hb I1 R1 hw1 fun d2 u2 v2 s2 H2 G2 I2 R2 r2 e2 i2 hw2 =>
  ho pins s2 σ H2 G2 Q d1 d2 v1 v2 u1 u2 I2 R2.ext.gh r1 r2 (i1.same e2.gg) i2 (Rs.wp.mono hw2 (fun _ x => x) fun d q v H' G' e' => q v H' G' ((e1.trans e2).trans e'))) hm
end
end M
set_option Elab.async false
set_option linter.all false
set_option maxRecDepth 100000
set_option maxHeartbeats 4000000
namespace M
open PySem PySem.Spec PyProof.Rows L2
set_option autoImplicit false
mutual
noncomputable def toP : D → PyData
 | .non => .none
 | .bl b => .bool b
 | .int i => .int i
 | .str x => .str x
 | .tup ds => .tuple (toPs ds)
 | .lst ds => .list (toPs ds)
 | .dct _ _ => .none
 | .dtt _ _ => .none
 | .dnn _ _ _ => .none
 | .exn _ => .none
noncomputable def toPs : List D → List PyData
 | [] => []
 | d :: ds => toP d :: toPs ds
end
mutual
noncomputable def lay : D → Bool
 | .tup ds => layL ds
 | .lst ds => layL ds
 | .dct _ _ => false
 | .dtt _ _ => false
 | .dnn _ _ _ => false
 | .exn _ => false
 | _ => true
noncomputable def layL : List D → Bool
 | [] => true
 | d :: ds => lay d && layL ds
end
section
variable {X : Cx} {pins : List (Addr × Obj)} {s : Shared} {σ : St} {H : Hp}
mutual
theorem reads_of (I : Inv X pins σ H s) : ∀ {d : D} {v : V} {u : Value}, lay d = true → RelV v u → Is X.K H d v → (∃ as, Reads s.heap u (toP d) as) ∧ (toP d).canLay0 = true
 | .non, v, u, hl, r, h => by
  cases (show v = .non from h)
  cases (show u = .none from r)
  exact ⟨⟨_, .none⟩, rfl⟩
 | .bl b, v, u, hl, r, h => by
  cases (show v = .bl b from h)
  cases (show u = .bool b from r)
  exact ⟨⟨_, .bool b⟩, rfl⟩
 | .int i, v, u, hl, r, h => by
  cases (show v = .int i from h)
  obtain ⟨t, rfl⟩ := (show ∃ t, u = .int i t from r)
  exact ⟨⟨_, .int i t⟩, rfl⟩
 | .str x, v, u, hl, r, h => by
  obtain ⟨rfl, _, h3⟩ := (show v = .str x ∧ x.length ≤ sizeLine ∧ PyData.strOk x = true from h)
  obtain ⟨t, rfl⟩ := (show ∃ t, u = .str x t from r)
  exact ⟨⟨_, .str x t⟩, h3⟩
 | .tup ds, v, u, hl, r, h => by
  obtain ⟨a, xs, rfl, h1, h2, h3⟩ := h
  cases (show u = .ref a from r)
  obtain ⟨its, rv, ⟨o, e1, e2, n, e3⟩, _⟩ := I.tuple (.of h1)
  obtain ⟨⟨as, q⟩, c⟩ := readsL_of I hl rv h3
  exact ⟨⟨_, .tuple e1 e2 e3 (by simpa using q)⟩, c⟩
 | .lst ds, v, u, hl, r, h => by
  obtain ⟨a, xs, rfl, h1, h2, h3⟩ := h
  cases (show u = .ref a from r)
  obtain ⟨its, rv, ⟨o, n, e1, e2, _, e3⟩, _⟩ := I.list h1
  obtain ⟨⟨as, q⟩, c⟩ := readsL_of I hl rv h3
  exact ⟨⟨_, .list e1 e2 e3 (by simpa using q)⟩, c⟩
 | .dct ks ds, v, u, hl, r, h => by cases hl
 | .dtt ks ds, v, u, hl, r, h => by cases hl
 | .dnn Φ ks ds, v, u, hl, r, h => by cases hl
 | .exn c, v, u, hl, r, h => by cases hl
theorem readsL_of (I : Inv X pins σ H s) : ∀ {ds : List D} {vs : List V} {us : List Value}, layL ds = true → Vals vs us → IsL X.K H ds vs → (∃ as, ReadsAll s.heap us (toPs ds) as) ∧ PyData.canLayAll0 (toPs ds) = true
 | [], vs, us, hl, r, h => by
  rw [show vs = [] from h] at r
  cases r
  exact ⟨⟨_, .nil⟩, rfl⟩
 | d :: ds, vs, us, hl, r, h => by
  obtain ⟨x, xs, rfl, h1, h2⟩ := h
  obtain ⟨l1, l2⟩ := Bool.and_eq_true_iff.mp (show (lay d && layL ds) = true from hl)
  cases r with
  | cons r1 r2 =>
   obtain ⟨⟨as, q1⟩, c1⟩ := reads_of I l1 r1 h1
   obtain ⟨⟨bs, q2⟩, c2⟩ := readsL_of I l2 r2 h2
   exact ⟨⟨_, .cons q1 q2⟩, by rw [toPs, PyData.canLayAll0, c1, c2]; rfl⟩
end
end
noncomputable def eqB (a b : D) : Bool := PyData.eqv (toP a) (toP b)
noncomputable def flat2 (a b : D) : Bool := decide (min (toP a).depth (toP b).depth ≤ 64) && (lay a && lay b)
noncomputable def eqR (a b : D) : Rs D := if flat2 a b = true then .ok (.bl (eqB a b)) else .bad
noncomputable def neR (a b : D) : Rs D := if flat2 a b = true then .ok (.bl (!eqB a b)) else .bad
noncomputable def small (i : Int) : Bool := decide (-(2 ^ 64) < i ∧ i < 2 ^ 64)
noncomputable def addR : D → D → Rs D
 | .int i, .int j => .ok (.int (i + j))
 | .str i, .str j => if i.length + j.length ≤ sizeLine then .ok (.str (i ++ j)) else .bad
 | _, _ => .bad
noncomputable def subR : D → D → Rs D
 | .int i, .int j => .ok (.int (i - j))
 | _, _ => .bad
noncomputable def mulR : D → D → Rs D
 | .int i, .int j => if (small i || small j) = true then .ok (.int (i * j)) else .bad
 | _, _ => .bad
noncomputable def fdivR : D → D → Rs D
 | .int i, .int j => if 0 < j ∧ j < 1073741824 then .ok (.int (i / j)) else .bad
 | _, _ => .bad
noncomputable def modR : D → D → Rs D
 | .int i, .int j => if 0 < j then .ok (.int (i % j)) else .bad
 | _, _ => .bad
noncomputable def powR : D → D → Rs D
 | .int i, .int j => if 0 ≤ j ∧ j ≤ 1000000 ∧ i.natAbs < 2 ^ 64 then .ok (.int (i ^ j.toNat)) else .bad
 | _, _ => .bad
noncomputable def cmpR (p : Int → Int → Bool) : D → D → Rs D
 | .int i, .int j => .ok (.bl (p i j))
 | _, _ => .bad
noncomputable def isNR : D → D → Rs D
 | .non, .non => .ok (.bl true)
 | _, .non => .ok (.bl false)
 | _, _ => .bad
noncomputable def isNotR : D → D → Rs D
 | .non, .non => .ok (.bl false)
 | _, .non => .ok (.bl true)
 | _, _ => .bad
theorem strOk_append {a b : Str} (ha : PyData.strOk a = true) (hb : PyData.strOk b = true) : PyData.strOk (a ++ b) = true := by
 unfold PyData.strOk at *
 rw [show (a ++ b).cps = a.cps ++ b.cps from rfl, Array.all_append, ha, hb]; rfl
section
variable {X : Cx} {B G₀ : Hp}
theorem wIf {Q : VK} {σ : St} {H G : Hp} {r : Rs D} {c : Prop} [Decidable c] (h : W X Q σ H G (if c then r else .bad)) : c ∧ W X Q σ H G r := by
 split at h
 ·rename_i hc; exact ⟨hc, h⟩
 ·exact h.elim
theorem wOk {Q : VK} {σ : St} {H G : Hp} {d : D} (h : W X Q σ H G (.ok d)) (gh : Same G H) {v : V} (i : Is X.K G d v) : Q v H := h v H G (Ext.refl gh) i
theorem od_add : OpD X (binaryOp .Add) addR := by
 intro pins s σ H G Q d1 d2 x y v u I gh rx ry i1 i2 hw
 cases d1 with
 | int i =>
  cases d2 with
  | int j => exact op_add pins s σ H x y v u Q I rx ry ⟨i, j, i1, i2, wOk hw gh rfl⟩
  | _ => exact hw.elim
 | str i =>
  cases d2 with
  | str j =>
   obtain ⟨hz, hw⟩ := wIf (r := .ok (.str (i ++ j))) (c := i.length + j.length ≤ sizeLine) hw
   have hl : (i ++ j).length = i.length + j.length := by simp [Str.length, show (i ++ j).cps = i.cps ++ j.cps from rfl]
   exact op_add_str pins s σ H x y v u Q I rx ry ⟨i, j, i1.1, i2.1, hz, wOk hw gh ⟨rfl, by rw [hl]; exact hz, strOk_append i1.2.2 i2.2.2⟩⟩
  | _ => exact hw.elim
 | _ => cases d2 <;> exact hw.elim
theorem od_sub : OpD X (binaryOp .Sub) subR := opD_of op_sub fun σ H G Q d1 d2 x y gh i1 i2 hw => by
 cases d1 <;> cases d2 <;> first | exact hw.elim | exact ⟨_, _, i1, i2, wOk hw gh rfl⟩
theorem od_mul : OpD X (binaryOp .Mult) mulR := opD_of op_mul fun σ H G Q d1 d2 x y gh i1 i2 hw => by
 cases d1 with
 | int i =>
  cases d2 with
  | int j =>
   obtain ⟨h, hw⟩ := wIf (r := .ok (.int (i * j))) (c := (small i || small j) = true) hw
   refine ⟨i, j, i1, i2, ?_, wOk hw gh rfl⟩
   rw [Bool.or_eq_true] at h
   rcases h with h | h
   ·exact .inl (of_decide_eq_true h)
   ·exact .inr (of_decide_eq_true h)
  | _ => exact hw.elim
 | _ => cases d2 <;> exact hw.elim
theorem od_fdiv : OpD X (binaryOp .FloorDiv) fdivR := opD_of op_fdiv fun σ H G Q d1 d2 x y gh i1 i2 hw => by
 cases d1 with
 | int i =>
  cases d2 with
  | int j =>
   obtain ⟨h, hw⟩ := wIf (r := .ok (.int (i / j))) (c := 0 < j ∧ j < 1073741824) hw
   exact ⟨i, j, i1, i2, h, wOk hw gh rfl⟩
  | _ => exact hw.elim
 | _ => cases d2 <;> exact hw.elim
theorem od_mod : OpD X (binaryOp .Mod) modR := opD_of op_mod fun σ H G Q d1 d2 x y gh i1 i2 hw => by
 cases d1 with
 | int i =>
  cases d2 with
  | int j =>
   obtain ⟨h, hw⟩ := wIf (r := .ok (.int (i % j))) (c := 0 < j) hw
   exact ⟨i, j, i1, i2, h, wOk hw gh rfl⟩
  | _ => exact hw.elim
 | _ => cases d2 <;> exact hw.elim
theorem od_pow : OpD X (binaryOp .Pow) powR := opD_of op_pow fun σ H G Q d1 d2 x y gh i1 i2 hw => by
 cases d1 with
 | int i =>
  cases d2 with
  | int j =>
   obtain ⟨h, hw⟩ := wIf (r := .ok (.int (i ^ j.toNat))) (c := 0 ≤ j ∧ j ≤ 1000000 ∧ i.natAbs < 2 ^ 64) hw
   exact ⟨i, j, i1, i2, h, wOk hw gh rfl⟩
  | _ => exact hw.elim
 | _ => cases d2 <;> exact hw.elim
theorem od_cmp {op : CmpOp} {p : Int → Int → Bool} (ho : OpR X (compareOp op) (rI0 fun i j => .bl (p i j))) : OpD X (compareOp op) (cmpR p) := opD_of ho fun σ H G Q d1 d2 x y gh i1 i2 hw => by
 cases d1 <;> cases d2 <;> first | exact hw.elim | exact ⟨_, _, i1, i2, wOk hw gh rfl⟩
theorem od_lt : OpD X (compareOp .Lt) (cmpR fun i j => decide (i < j)) := od_cmp op_lt
theorem od_le : OpD X (compareOp .LtE) (cmpR fun i j => decide (i ≤ j)) := od_cmp op_le
theorem od_gt : OpD X (compareOp .Gt) (cmpR fun i j => decide (j < i)) := od_cmp op_gt
theorem od_ge : OpD X (compareOp .GtE) (cmpR fun i j => decide (j ≤ i)) := od_cmp op_ge
theorem od_eq (hu : X.A.units + 64 < cLine) : OpD X (compareOp .Eq) eqR := by
 intro pins s σ H G Q d1 d2 x y v u I gh rx ry i1 i2 hw
 unfold eqR at hw
 split at hw
 ·rename_i h
  obtain ⟨h, l12⟩ := Bool.and_eq_true_iff.mp h
  obtain ⟨l1, l2⟩ := Bool.and_eq_true_iff.mp l12
  obtain ⟨⟨as, r1⟩, c1⟩ := reads_of I l1 rx (i1.same gh)
  obtain ⟨⟨bs, r2⟩, c2⟩ := reads_of I l2 ry (i2.same gh)
  have h' : min (toP d1).depth (toP d2).depth ≤ 64 := of_decide_eq_true h
  exact SeqAt.compareEq_reads r1 r2 c1 c2 (by omega) ⟨.bl _, H, I, rfl, wOk hw gh rfl⟩
 ·exact hw.elim
theorem od_ne (hu : X.A.units + 64 < cLine) : OpD X (compareOp .NotEq) neR := by
 intro pins s σ H G Q d1 d2 x y v u I gh rx ry i1 i2 hw
 unfold neR at hw
 split at hw
 ·rename_i h
  obtain ⟨h, l12⟩ := Bool.and_eq_true_iff.mp h
  obtain ⟨l1, l2⟩ := Bool.and_eq_true_iff.mp l12
  obtain ⟨⟨as, r1⟩, c1⟩ := reads_of I l1 rx (i1.same gh)
  obtain ⟨⟨bs, r2⟩, c2⟩ := reads_of I l2 ry (i2.same gh)
  have h' : min (toP d1).depth (toP d2).depth ≤ 64 := of_decide_eq_true h
  exact SeqAt.compareNe_reads r1 r2 c1 c2 (by omega) ⟨.bl _, H, I, rfl, wOk hw gh rfl⟩
 ·exact hw.elim
theorem is_non {K : PySem.W.Frag} {G : Hp} {d : D} {v : V} (h : Is K G d v) (hd : d ≠ .non) : v ≠ .non := by
 cases d with
 | non => exact absurd rfl hd
 | bl b => rw [show v = .bl b from h]; exact fun z => by cases z
 | int b => rw [show v = .int b from h]; exact fun z => by cases z
 | str b => rw [h.1]; exact fun z => by cases z
 | tup ds => obtain ⟨a, xs, rfl, _⟩ := h; exact fun z => by cases z
 | lst ds => obtain ⟨a, xs, rfl, _⟩ := h; exact fun z => by cases z
 | dct ks ds => obtain ⟨a, xs, rfl, _⟩ := h; exact fun z => by cases z
 | dtt ks ds => obtain ⟨a, xs, rfl, _⟩ := h; exact fun z => by cases z
 | dnn Φ ks ds => obtain ⟨a, xs, ys, rfl, _⟩ := h; exact fun z => by cases z
 | exn c => obtain ⟨a, φ, C, rfl, _⟩ := h; exact fun z => by cases z
theorem od_isN : OpD X (compareOp .Is) isNR := opD_of op_isN fun σ H G Q d1 d2 x y gh i1 i2 hw => by
 cases d2 with
 | non =>
  refine ⟨i2, ?_⟩
  cases d1 with
  | non => rw [show x = .non from i1]; exact wOk hw gh rfl
  | _ => rw [decide_eq_false (is_non i1 (by intro z; cases z))]; exact wOk hw gh rfl
 | _ => cases d1 <;> exact hw.elim
theorem od_isNot : OpD X (compareOp .IsNot) isNotR := opD_of op_notN fun σ H G Q d1 d2 x y gh i1 i2 hw => by
 cases d2 with
 | non =>
  refine ⟨i2, ?_⟩
  cases d1 with
  | non => rw [show x = .non from i1]; exact wOk hw gh rfl
  | _ => rw [decide_eq_false (is_non i1 (by intro z; cases z))]; exact wOk hw gh rfl
 | _ => cases d1 <;> exact hw.elim
end
noncomputable def truB : D → Bool
 | .non => false
 | .bl b => b
 | .int i => i != 0
 | .str x => (x.length : Int) != 0
 | .tup ds => !ds.isEmpty
 | .lst ds => !ds.isEmpty
 | .dct _ _ => false
 | .dtt _ _ => false
 | .dnn _ _ _ => false
 | .exn _ => false
noncomputable def truR : D → Rs Bool
 | .dct _ _ => .bad
 | .dtt _ _ => .bad
 | .dnn _ _ _ => .bad
 | .exn _ => .bad
 | d => .ok (truB d)
theorem truR_ok {d : D} {b : Bool} (h : truR d = .ok b) : b = truB d ∧ (∀ ks ds, d ≠ .dct ks ds) ∧ ∀ ks ds, d ≠ .dtt ks ds := by
 cases d <;> first | (cases h; exact ⟨rfl, fun _ _ z => (nomatch z), fun _ _ z => (nomatch z)⟩) | cases h
theorem truR_ne {d : D} {c : Str} : truR d ≠ .exc c := by cases d <;> (intro h; cases h)
section
variable {X : Cx} {B G₀ : Hp} {a b c : Expr} {fa fb fc : DS → Rs D} {ga gb : DS → Rs Bool} {pos : Pos} {rest : List Expr}
theorem IsL.empty {K : PySem.W.Frag} {G : Hp} {ds : List D} {xs : List V} (h : IsL K G ds xs) : xs.isEmpty = ds.isEmpty := by
 have := h.length
 cases xs <;> cases ds <;> simp_all
theorem tru_of {K : PySem.W.Frag} {H : Hp} {d : D} {v : V} {b : Bool} (hb : truR d = .ok b) (h : Is K H d v) : TruV K v H b := by
 obtain ⟨rfl, _, _⟩ := truR_ok hb
 cases d with
 | non => cases (show v = .non from h); rfl
 | bl b => cases (show v = .bl b from h); rfl
 | int i => cases (show v = .int i from h); rfl
 | str x => obtain ⟨rfl, h2, _⟩ := h; exact ⟨h2, rfl⟩
 | tup ds => obtain ⟨a, xs, rfl, h1, _, h3⟩ := h; exact .inr (.inl ⟨xs, .of h1, by rw [h3.empty]; rfl⟩)
 | lst ds => obtain ⟨a, xs, rfl, h1, _, h3⟩ := h; exact .inl ⟨xs, h1, by rw [h3.empty]; rfl⟩
 | dct ks ds => cases hb
 | dtt ks ds => cases hb
 | dnn Φ ks ds => cases hb
 | exn c => cases hb
theorem tru_then {X : Cx} {B G₀ : Hp} {pins : List (Addr × Obj)} {s : Shared} {σ : St} {H G : Hp} {δ : DS} {α : Type} {d : D} {v : V} {u : Value} {k : Bool → Rs α} {q : α → Prop} {Post : Bool → Shared → Prop} (I : Inv X pins σ H s) (R : Rel X B G₀ σ H G δ) (r : RelV v u) (i : Is X.K G d v)
  (hw : (truR d >>= k).wp (fun c => Xo X c σ H G) q) (hk : ∀ b s', Inv X pins σ H s' → (k b).wp (fun c => Xo X c σ H G) q → Post b s') : wpAny (model X.prog X.w) X.A (truthy u) Post X.xe s := by
 cases hb : truR d with
 | ok b =>
  rw [hb] at hw
  refine thn (tru_ok pins s σ H v u (fun k H' => k = b ∧ H' = H) I r ⟨_, tru_of hb (i.same R.ext.gh), rfl, rfl⟩) fun k' s2 ⟨H2, I2, hk', hH⟩ => ?_
  subst hk'; subst hH
  exact hk _ s2 I2 hw
 | exc c => exact (truR_ne hb).elim
 | bad => rw [hb] at hw; exact hw.elim
theorem bind_ok' {α : Type} (r : Rs α) : (r >>= fun b => Rs.ok b) = r := by cases r <;> rfl
theorem pdt_val (ha : PE X a (tE X B G₀ fa)) (he : ∀ whole, isTrue a X.env whole = (do let v ← whole; standAt a.pos; holding [v] (truthy v)) := by intro _; rfl) : PT X a (tT X B G₀ fun δ => fa δ >>= fun d => truR d) := by
 intro pins s σ H Q I ⟨G, δ, R, hw⟩
 refine isTrue_plain (bindE ha I R hw fun d u v s1 H1 G1 I1 R1 r1 e1 i1 hw1 => ?_) (he _)
 rw [← bind_ok' (truR d)] at hw1
 exact tru_then I1 R1 r1 i1 hw1 fun b s' I' q => ⟨H1, I', q H1 G1 e1⟩
theorem pdt_cmp {op : CmpOp} {g : D → D → Rs D} (ho : OpD X (compareOp op) g) (ha : PE X a (tE X B G₀ fa)) (hb : PE X b (tE X B G₀ fb)) (hm : behindInMarks op b = false := by first | exact nobehind _ (by decide) (by decide) | rfl) :
  PT X (.Compare a [op] [b] pos) (tT X B G₀ fun δ => fa δ >>= fun x => fb δ >>= fun y => g x y >>= fun d => truR d) := by
 intro pins s σ H Q I ⟨G, δ, R, hw⟩
 refine wpAny_isTrue_Compare1 (bindE ha I R hw fun d1 u1 v1 s1 H1 G1 I1 R1 r1 e1 i1 hw1 => bindE hb I1 R1 hw1 fun d2 u2 v2 s2 H2 G2 I2 R2 r2 e2 i2 hw2 => ?_) hm
 rw [wp_bind] at hw2
 refine thn (ho pins s2 σ H2 G2 (fun v H' => ∃ d G', Ext H2 G2 H' G' ∧ Is X.K G' d v ∧ (truR d).wp (fun c => Xo X c σ H' G') fun b => ∀ H' G', Ext H G H' G' → Q b H') d1 d2 v1 v2 u1 u2 I2 R2.ext.gh r1 r2 (i1.same e2.gg) i2
  (Rs.wp.mono hw2 (fun _ x => x) fun d q v H' G' e' i' => ⟨d, G', e', i', Rs.wp.mono q (fun _ x => x.mono e') fun _ z => z⟩)) fun u3 s3 ⟨v3, H3, I3, r3, d, G3, e3, i3, q⟩ => ?_
 rw [← bind_ok' (truR d)] at q
 exact tru_then I3 (R2.mono e3) r3 i3 q fun b s' I' q' => ⟨H3, I', q' H3 G3 ((e1.trans e2).trans e3)⟩
theorem pdt_not (ha : PT X a (tT X B G₀ ga)) : PT X (.UnaryOp .Not a pos) (tT X B G₀ fun δ => ga δ >>= fun b => .ok (!b)) := by
 intro pins s σ H Q I ⟨G, δ, R, hw⟩
 exact isTrue_not (bindT ha I R hw fun b s1 H1 G1 I1 R1 e1 hw1 => ⟨H1, I1, hw1 H1 G1 e1⟩)
theorem pw_one {op : BoolOp} (h : op = .And ∨ op = .Or) (ha : PT X a (tT X B G₀ ga)) : PW X (.BoolOp op [a] pos) (tT X B G₀ ga) := by
 rcases h with rfl | rfl
 ·exact pw_and1 ha
 ·exact pw_or1 ha
theorem pdw_and (ha : PT X a (tT X B G₀ ga)) (hb : PW X (.BoolOp .And (b :: rest) pos) (tT X B G₀ gb)) : PW X (.BoolOp .And (a :: b :: rest) pos) (tT X B G₀ fun δ => ga δ >>= fun c => if c = true then gb δ else .ok false) := by
 intro wh pins s σ H Q I ⟨G, δ, R, hw⟩
 refine isTrue_and (bindT ha I R hw fun c s1 H1 G1 I1 R1 e1 hw1 => ?_)
 cases c with
 | true => exact hb wh pins s1 σ H1 Q I1 ⟨G1, δ, R1, Rs.wp.mono hw1 (fun _ x => x) fun b q H' G' e' => q H' G' (e1.trans e')⟩
 | false => exact ⟨H1, I1, hw1 H1 G1 e1⟩
theorem pdw_or (ha : PT X a (tT X B G₀ ga)) (hb : PW X (.BoolOp .Or (b :: rest) pos) (tT X B G₀ gb)) : PW X (.BoolOp .Or (a :: b :: rest) pos) (tT X B G₀ fun δ => ga δ >>= fun c => if c = true then .ok true else gb δ) := by
 intro wh pins s σ H Q I ⟨G, δ, R, hw⟩
 refine isTrue_or (bindT ha I R hw fun c s1 H1 G1 I1 R1 e1 hw1 => ?_)
 cases c with
 | true => exact ⟨H1, I1, hw1 H1 G1 e1⟩
 | false => exact hb wh pins s1 σ H1 Q I1 ⟨G1, δ, R1, Rs.wp.mono hw1 (fun _ x => x) fun b q H' G' e' => q H' G' (e1.trans e')⟩
theorem pd_one {op : BoolOp} (ha : PE X a (tE X B G₀ fa)) : PE X (.BoolOp op [a] pos) (tE X B G₀ fa) := pe_one ha
theorem pd_and (ha : PE X a (tE X B G₀ fa)) (hb : PE X (.BoolOp .And (b :: rest) pos) (tE X B G₀ fb)) : PE X (.BoolOp .And (a :: b :: rest) pos) (tE X B G₀ fun δ => fa δ >>= fun x => truR x >>= fun k => if k = true then fb δ else .ok x) := by
 intro pins s σ H Q I ⟨G, δ, R, hw⟩
 refine BoolOp_and (bindE ha I R hw fun d u v s1 H1 G1 I1 R1 r1 e1 i1 hw1 => ?_)
 refine tru_then I1 R1 r1 i1 hw1 fun k s2 I2 hw2 => ?_
 cases k with
 | true => exact hb pins s2 σ _ Q I2 ⟨G1, δ, R1, Rs.wp.mono hw2 (fun _ x => x) fun d q v H' G' e' => q v H' G' (e1.trans e')⟩
 | false => exact ⟨v, _, I2, r1, hw2 v _ G1 e1 i1⟩
theorem pd_or (ha : PE X a (tE X B G₀ fa)) (hb : PE X (.BoolOp .Or (b :: rest) pos) (tE X B G₀ fb)) : PE X (.BoolOp .Or (a :: b :: rest) pos) (tE X B G₀ fun δ => fa δ >>= fun x => truR x >>= fun k => if k = true then .ok x else fb δ) := by
 intro pins s σ H Q I ⟨G, δ, R, hw⟩
 refine BoolOp_or (bindE ha I R hw fun d u v s1 H1 G1 I1 R1 r1 e1 i1 hw1 => ?_)
 refine tru_then I1 R1 r1 i1 hw1 fun k s2 I2 hw2 => ?_
 cases k with
 | false => exact hb pins s2 σ _ Q I2 ⟨G1, δ, R1, Rs.wp.mono hw2 (fun _ x => x) fun d q v H' G' e' => q v H' G' (e1.trans e')⟩
 | true => exact ⟨v, _, I2, r1, hw2 v _ G1 e1 i1⟩
theorem pd_not (ha : PE X a (tE X B G₀ fa)) : PE X (.UnaryOp .Not a pos) (tE X B G₀ fun δ => fa δ >>= fun x => truR x >>= fun k => .ok (.bl (!k))) := by
 intro pins s σ H Q I ⟨G, δ, R, hw⟩
 refine UnaryOp_ (bindE ha I R hw fun d u v s1 H1 G1 I1 R1 r1 e1 i1 hw1 => ?_)
 refine not_of (tru_then I1 R1 r1 i1 hw1 fun k s2 I2 hw2 => ?_)
 exact ⟨.bl _, _, I2, rfl, hw2 _ _ G1 e1 rfl⟩
theorem pd_neg (ha : PE X a (tE X B G₀ fa)) : PE X (.UnaryOp .USub a pos) (tE X B G₀ fun δ => fa δ >>= fun x => match x with | .int i => .ok (.int (-i)) | _ => .bad) := by
 intro pins s σ H Q I ⟨G, δ, R, hw⟩
 refine UnaryOp_ (bindE ha I R hw fun d u v s1 H1 G1 I1 R1 r1 e1 i1 hw1 => ?_)
 cases d with
 | int i => exact un_neg pins s1 σ H1 v u Q I1 r1 ⟨i, i1, hw1 _ H1 G1 e1 rfl⟩
 | _ => exact hw1.elim
theorem pd_if (hc : PT X c (tT X B G₀ ga)) (ha : PE X a (tE X B G₀ fa)) (hb : PE X b (tE X B G₀ fb)) : PE X (.IfExp c a b pos) (tE X B G₀ fun δ => ga δ >>= fun k => if k = true then fa δ else fb δ) := by
 intro pins s σ H Q I ⟨G, δ, R, hw⟩
 refine wpAny_IfExp (bindT hc I R hw fun k s1 H1 G1 I1 R1 e1 hw1 => ?_)
 cases k with
 | true => exact ha pins s1 σ H1 Q I1 ⟨G1, δ, R1, Rs.wp.mono hw1 (fun _ x => x) fun d q v H' G' e' => q v H' G' (e1.trans e')⟩
 | false => exact hb pins s1 σ H1 Q I1 ⟨G1, δ, R1, Rs.wp.mono hw1 (fun _ x => x) fun d q v H' G' e' => q v H' G' (e1.trans e')⟩
theorem pd_chain {op op' : CmpOp} {g g' : D → D → Rs D} (ho : OpD X (compareOp op) g) (ho' : OpD X (compareOp op') g') (ha : PE X a (tE X B G₀ fa)) (hb : PE X b (tE X B G₀ fb)) (hc : PE X c (tE X B G₀ fc))
  (hm : lastMarks [op, op'] [b, c] = false := by with_unfolding_all rfl) : PE X (.Compare a [op, op'] [b, c] pos) (tE X B G₀ fun δ => fa δ >>= fun x => fb δ >>= fun y => g x y >>= fun z => match z with
   | .bl true => fc δ >>= fun w => g' y w
   | .bl false => .ok (.bl false)
   | _ => .bad) := by
 intro pins s σ H Q I ⟨G, δ, R, hw⟩
 refine Compare_chain (bindE ha I R hw fun d1 u1 v1 s1 H1 G1 I1 R1 r1 e1 i1 hw1 => chain_link (bindE hb I1 R1 hw1 fun d2 u2 v2 s2 H2 G2 I2 R2 r2 e2 i2 hw2 => ?_)) hm
 rw [wp_bind] at hw2
 refine thn (ho pins s2 σ H2 G2 (fun v H' => ∃ d G', Ext H2 G2 H' G' ∧ Is X.K G' d v ∧ (match d with
   | .bl true => fc δ >>= fun w => g' d2 w
   | .bl false => .ok (.bl false)
   | _ => .bad : Rs D).wp (fun c => Xo X c σ H' G') fun d => ∀ v H' G', Ext H G H' G' → Is X.K G' d v → Q v H') d1 d2 v1 v2 u1 u2 I2 R2.ext.gh r1 r2 (i1.same e2.gg) i2
  (Rs.wp.mono hw2 (fun _ x => x) fun d q v H' G' e' i' => ⟨d, G', e', i', Rs.wp.mono q (fun _ x => x.mono e') fun _ z => z⟩)) fun u3 s3 ⟨v3, H3, I3, r3, d, G3, e3, i3, q⟩ => ?_
 cases d with
 | bl k =>
  cases (show v3 = .bl k from i3)
  cases (show u3 = .bool k from r3)
  refine wpAny_truthy_bool ?_
  have R3 := R2.mono e3
  cases k with
  | false => exact ite_ff ⟨.bl false, H3, I3, rfl, q _ H3 G3 ((e1.trans e2).trans e3) rfl⟩
  | true =>
   refine ite_tt (chain_last (bindE hc I3 R3 q fun d4 u4 v4 s4 H4 G4 I4 R4 r4 e4 i4 hw4 => ?_))
   exact ho' pins s4 σ H4 G4 Q d2 d4 v2 v4 u2 u4 I4 R4.ext.gh r2 r4 (i2.same (e3.trans e4).gg) i4 (Rs.wp.mono hw4 (fun _ x => x) fun d q v H' G' e' => q v H' G' (((e1.trans e2).trans (e3.trans e4)).trans e'))
 | _ => exact q.elim
end
end M
set_option Elab.async false
set_option linter.all false
set_option maxRecDepth 100000
set_option maxHeartbeats 4000000
namespace M
open PySem PySem.Spec PyProof.Rows L2
set_option autoImplicit false
theorem thousand : 1000 ≤ sizeLine := by decide
section
variable {X : Cx} {B G₀ : Hp} {a b e o : Expr} {es : List Expr} {fa fb fe fo : DS → Rs D} {fr : DS → Rs (List D)} {pos : Pos}
theorem wmono {Q : VK} {σ : St} {H G H1 G1 : Hp} {r : Rs D} (h : r.wp (fun c => Xo X c σ H1 G1) fun d => ∀ v H' G', Ext H G H' G' → Is X.K G' d v → Q v H') (e : Ext H G H1 G1) : W X Q σ H1 G1 r :=
 Rs.wp.mono h (fun _ x => x) fun d q v H' G' e' => q v H' G' (e.trans e')
theorem pda_nil : PA X [] (tAs X B G₀ fun _ => .ok []) := fun pos pins s σ H Q I ⟨G, δ, R, hw⟩ => Calls.spliced_nil ⟨[], H, I, .nil, hw [] H G (Ext.refl R.ext.gh) rfl⟩
theorem pda_cons (ha : PE X e (tE X B G₀ fe)) (hr : PA X es (tAs X B G₀ fr)) (hs : starEach (e :: es) X.env = (false, eval e X.env) :: starEach es X.env := by rfl) :
  PA X (e :: es) (tAs X B G₀ fun δ => fe δ >>= fun d => fr δ >>= fun ds => .ok (d :: ds)) := by
 intro pos pins s σ H Q I ⟨G, δ, R, hw⟩
 rw [hs]
 show wpAny _ _ (spliced ((false, eval e X.env) :: backTo pos (starEach es X.env))) _ _ s
 refine Calls.spliced_cons (bindE ha I R hw fun d u v s1 H1 G1 I1 R1 r1 e1 i1 hw1 => ?_)
 exact bindA hr I1 R1 hw1 fun ds us vs s2 H2 G2 I2 R2 r2 e2 i2 hw2 => ⟨v :: vs, H2, I2, .cons r1 r2, hw2 _ H2 G2 (e1.trans e2) (.cons (i1.same e2.gg) i2)⟩
noncomputable def tupR (ds : List D) : Rs D := if ds.length ≤ 1000 then .ok (.tup ds) else .bad
noncomputable def lstR (ds : List D) : Rs D := if ds.length ≤ 1000 then .ok (.lst ds) else .bad
theorem pd_tup {x1} (h : PA X es (tAs X B G₀ fr)) : PE X (.Tuple es x1 pos) (tE X B G₀ fun δ => fr δ >>= tupR) := by
 refine pd_of (pe_tup h) fun σ H G δ Q R hw => ?_
 refine ⟨G, δ, R, ?_⟩
 unfold W at hw
 rw [wp_bind] at hw
 refine Rs.wp.mono hw (fun _ x => x) fun ds q vs H1 G1 e1 i1 => ?_
 unfold tupR at q
 split at q
 ·rename_i hl
  have hl' := i1.length
  have hz : vs.length ≤ sizeLine := Nat.le_trans (by omega) thousand
  refine ⟨hz, fun p hp => q (.ref p) _ (upd G1 p (.tup vs)) (e1.trans (Ext.laid e1.gh hp)) ⟨p, vs, rfl, upd_same, hz, i1.same (same_upd (e1.gh.free hp) _)⟩⟩
 ·exact q.elim
theorem pd_lst (h : PA X es (tAs X B G₀ fr)) : PE X (.List es pos) (tE X B G₀ fun δ => fr δ >>= lstR) := by
 refine pd_of (pe_lst h) fun σ H G δ Q R hw => ?_
 refine ⟨G, δ, R, ?_⟩
 unfold W at hw
 rw [wp_bind] at hw
 refine Rs.wp.mono hw (fun _ x => x) fun ds q vs H1 G1 e1 i1 => ?_
 unfold lstR at q
 split at q
 ·rename_i hl
  have hl' := i1.length
  have hz : vs.length ≤ sizeLine := Nat.le_trans (by omega) thousand
  refine ⟨hz, fun p hp => q (.ref p) _ (upd G1 p (.lst vs)) (e1.trans (Ext.laid e1.gh hp)) ⟨p, vs, rfl, .of upd_same, hz, i1.same (same_upd (e1.gh.free hp) _)⟩⟩
 ·exact q.elim
noncomputable def chr1 (c : Nat) : Str := ⟨#[c]⟩
noncomputable def idxR : D → D → Rs D
 | .str z, .int i => match atI z.cps.toList i with | some c => .ok (.str (chr1 c)) | none => .bad
 | .tup ds, .int i => match atI ds i with | some d => .ok d | none => .bad
 | .lst ds, .int i => match atI ds i with | some d => .ok d | none => .bad
 | _, _ => .bad
theorem IsL.atI {K : PySem.W.Frag} {G : Hp} {ds : List D} {xs : List V} {i : Int} {d : D} (h : IsL K G ds xs) (e : atI ds i = some d) : ∃ x, L2.atI xs i = some x ∧ Is K G d x := by
 unfold L2.atI at e ⊢
 rw [h.length]
 cases q : ixN ds.length i with
 | none => rw [q] at e; cases e
 | some j =>
  rw [q] at e
  exact h.get e
theorem strOk_at {z : Str} {i : Int} {c : Nat} (h : PyData.strOk z = true) (e : atI z.cps.toList i = some c) : PyData.strOk (chr1 c) = true := by
 unfold L2.atI at e
 cases q : ixN z.cps.toList.length i with
 | none => rw [q] at e; cases e
 | some j =>
  rw [q] at e
  have e' : z.cps.toList[j]? = some c := e
  have hm : c ∈ z.cps := by
   have := List.mem_of_getElem? e'
   simpa using this
  unfold PyData.strOk at h ⊢
  have := Array.all_eq_true_iff_forall_mem.mp h c hm
  simpa [chr1] using this
theorem pd_ix (ha : PE X a (tE X B G₀ fa)) (hb : PE X b (tE X B G₀ fb)) (hs : PlainIx b := by intro _ _; rfl) : PE X (.Subscript a b pos) (tE X B G₀ fun δ => fa δ >>= fun x => fb δ >>= fun y => idxR x y) := by
 intro pins s σ H Q I ⟨G, δ, R, hw⟩
 refine Subscript_ (bindE ha I R hw fun d1 u1 v1 s1 H1 G1 I1 R1 r1 e1 i1 hw1 => bindE hb I1 R1 hw1 fun d2 u2 v2 s2 H2 G2 I2 R2 r2 e2 i2 hw2 => ?_)
 have hw2 := wmono hw2 (e1.trans e2)
 have i1 := i1.same e2.gg
 refine ix_seq a b pins s2 σ H2 v1 v2 u1 u2 Q I2 r1 r2 ?_ (hs _ _)
 cases d1 with
 | str z =>
  cases d2 with
  | int i =>
   obtain ⟨rfl, h2, h3⟩ := i1
   cases q : atI z.cps.toList i with
   | none =>
    have : W X Q σ H2 G2 (match atI z.cps.toList i with | some c => .ok (.str (chr1 c)) | none => .bad) := hw2
    rw [q] at this; exact this.elim
   | some c =>
    have w : W X Q σ H2 G2 (match atI z.cps.toList i with | some c => .ok (.str (chr1 c)) | none => .bad) := hw2
    rw [q] at w
    exact .inr (.inr ⟨z, i, c, rfl, i2, h2, q, wOk w R2.ext.gh ⟨rfl, (by show 1 ≤ sizeLine; decide), strOk_at h3 q⟩⟩)
  | _ => exact hw2.elim
 | tup ds =>
  cases d2 with
  | int i =>
   obtain ⟨p, xs, rfl, h1, h2, h3⟩ := i1
   cases q : atI ds i with
   | none =>
    have : W X Q σ H2 G2 (match atI ds i with | some d => .ok d | none => .bad) := hw2
    rw [q] at this; exact this.elim
   | some d =>
    have w : W X Q σ H2 G2 (match atI ds i with | some d => .ok d | none => .bad) := hw2
    rw [q] at w
    obtain ⟨x, e, hx⟩ := h3.atI q
    exact .inr (.inl ⟨p, xs, i, x, rfl, i2, SqT.same R2.ext.gh h1, e, wOk w R2.ext.gh hx⟩)
  | _ => exact hw2.elim
 | lst ds =>
  cases d2 with
  | int i =>
   obtain ⟨p, xs, rfl, h1, h2, h3⟩ := i1
   cases q : atI ds i with
   | none =>
    have : W X Q σ H2 G2 (match atI ds i with | some d => .ok d | none => .bad) := hw2
    rw [q] at this; exact this.elim
   | some d =>
    have w : W X Q σ H2 G2 (match atI ds i with | some d => .ok d | none => .bad) := hw2
    rw [q] at w
    obtain ⟨x, e, hx⟩ := h3.atI q
    exact .inl ⟨p, xs, i, x, rfl, i2, R2.ext.gh.seq h1, e, wOk w R2.ext.gh hx⟩
  | _ => exact hw2.elim
 | _ => cases d2 <;> exact hw2.elim
noncomputable def CallD (X : Cx) (f : Value) (g : List D → Rs D) : Prop :=
 ∀ (pins : List (Addr × Obj)) (s : Shared) (σ : St) (H G : Hp) (Q : VK) (ds : List D) (vs : List V) (us : List Value), Inv X pins σ H s → Same G H → Vals vs us → IsL X.K G ds vs → W X Q σ H G (g ds) →
  wpAny (model X.prog X.w) X.A (call f us) (EP X pins σ Q) X.xe s
variable {x : Str} {p : Pos} {id T : String} {g : List D → Rs D}
theorem pd_callB (hc : CallD X (.builtin id) g) (hm : X.mg x = none) (hv : bootBuiltins x = some (.builtin id)) (ha : PA X (e :: es) (tAs X B G₀ fr)) (hg : Gl X x := by rfl) (hn : x ≠ "__name__" := by decide) (hdb : (x == ("__debug__" : Str)) = false := by decide)
  (he : starEach (e :: es) X.env = (false, eval e X.env) :: starEach es X.env := by rfl) (hpl : (backTo pos (starEach es X.env)).any (·.1) = false := by rfl) : PE X (.Call (.Name x p) (e :: es) [] pos) (tE X B G₀ fun δ => fr δ >>= g) := by
 intro pins s σ H Q I ⟨G, δ, R, hw⟩
 refine wpAny_Call_Name_kw (ld_blt I hg hm hv ?_ hn hdb)
 exact PyProof.Rows.callWith_builtin1 (bindA ha I R hw fun ds us vs s1 H1 G1 I1 R1 r1 e1 i1 hw1 => hc pins s1 σ H1 G1 Q ds vs us I1 R1.ext.gh r1 i1 (wmono hw1 e1)) he hpl
theorem pd_callTy (hc : CallD X (.type T) g) (hm : X.mg x = none) (hv : bootBuiltins x = some (.type T)) (ha : PA X (e :: es) (tAs X B G₀ fr)) (hg : Gl X x := by rfl) (hn : x ≠ "__name__" := by decide) (hdb : (x == ("__debug__" : Str)) = false := by decide)
  (he : starEach (e :: es) X.env = (false, eval e X.env) :: starEach es X.env := by rfl) (hpl : (backTo pos (starEach es X.env)).any (·.1) = false := by rfl) : PE X (.Call (.Name x p) (e :: es) [] pos) (tE X B G₀ fun δ => fr δ >>= g) := by
 intro pins s σ H Q I ⟨G, δ, R, hw⟩
 refine wpAny_Call_Name_kw (ld_blt I hg hm hv ?_ hn hdb)
 exact PyProof.Rows.callWith_type1 (bindA ha I R hw fun ds us vs s1 H1 G1 I1 R1 r1 e1 i1 hw1 => hc pins s1 σ H1 G1 Q ds vs us I1 R1.ext.gh r1 i1 (wmono hw1 e1)) he hpl
theorem callD_of {f : Value} {r : List V → Hp → VK → Prop} (hc : CallR X f r) (h : ∀ σ H G Q ds vs, Same G H → IsL X.K G ds vs → W X Q σ H G (g ds) → r vs H Q) : CallD X f g :=
 fun pins s σ H G Q ds vs us I gh r i hw => hc pins s σ H vs us Q I r (h σ H G Q ds vs gh i hw)
noncomputable def lenR : List D → Rs D
 | [.str z] => .ok (.int z.length)
 | [.tup ds] => .ok (.int ds.length)
 | [.lst ds] => .ok (.int ds.length)
 | _ => .bad
theorem isL1 {K : PySem.W.Frag} {G : Hp} {d : D} {vs : List V} (h : IsL K G [d] vs) : ∃ v, vs = [v] ∧ Is K G d v := by
 obtain ⟨v, r, rfl, h1, h2⟩ := h
 rw [show r = [] from h2]
 exact ⟨v, rfl, h1⟩
theorem isL2 {K : PySem.W.Frag} {G : Hp} {d e : D} {vs : List V} (h : IsL K G [d, e] vs) : ∃ v w, vs = [v, w] ∧ Is K G d v ∧ Is K G e w := by
 obtain ⟨v, r, rfl, h1, h2⟩ := h
 obtain ⟨w, rfl, h3⟩ := isL1 h2
 exact ⟨v, w, rfl, h1, h3⟩
theorem cd_len : CallD X (.builtin "len") lenR := callD_of call_len fun σ H G Q ds vs gh i hw => by
 cases ds with
 | nil => exact hw.elim
 | cons d r =>
  cases r with
  | cons _ _ => cases d <;> exact hw.elim
  | nil =>
   cases d with
   | str z =>
    obtain ⟨v, rfl, h⟩ := isL1 i
    obtain ⟨rfl, h2, _⟩ := h
    exact ⟨_, _, rfl, ⟨h2, rfl⟩, wOk hw gh rfl⟩
   | tup ds =>
    obtain ⟨v, rfl, h⟩ := isL1 i
    obtain ⟨a, xs, rfl, h1, h2, h3⟩ := h
    exact ⟨_, _, rfl, .inr ⟨xs, SqT.same gh h1, rfl⟩, by rw [h3.length]; exact wOk hw gh rfl⟩
   | lst ds =>
    obtain ⟨v, rfl, h⟩ := isL1 i
    obtain ⟨a, xs, rfl, h1, h2, h3⟩ := h
    exact ⟨_, _, rfl, .inl ⟨xs, gh.seq h1, rfl⟩, by rw [h3.length]; exact wOk hw gh rfl⟩
   | _ => exact hw.elim
noncomputable def ordR : List D → Rs D
 | [.str z] => if z.length = 1 then .ok (.int (z.cps.getD 0 0 : Nat)) else .bad
 | _ => .bad
theorem cd_ord : CallD X (.builtin "ord") ordR := callD_of call_ord fun σ H G Q ds vs gh i hw => by
 cases ds with
 | nil => exact hw.elim
 | cons d r =>
  cases r with
  | cons _ _ => cases d <;> exact hw.elim
  | nil =>
   cases d with
   | str z =>
    obtain ⟨v, rfl, h⟩ := isL1 i
    obtain ⟨rfl, h2, _⟩ := h
    obtain ⟨hz, hw⟩ := wIf (r := .ok (.int (z.cps.getD 0 0 : Nat))) (c := z.length = 1) hw
    exact ⟨_, rfl, hz, wOk hw gh rfl⟩
   | _ => exact hw.elim
noncomputable def intR : List D → Rs D
 | [.int i] => .ok (.int i)
 | [.bl b] => .ok (.int (if b then 1 else 0))
 | _ => .bad
theorem cd_int : CallD X (.type "int") intR := callD_of call_int1 fun σ H G Q ds vs gh i hw => by
 cases ds with
 | nil => exact hw.elim
 | cons d r =>
  cases r with
  | cons _ _ => cases d <;> exact hw.elim
  | nil =>
   cases d with
   | int z =>
    obtain ⟨v, rfl, h⟩ := isL1 i
    cases (show v = .int z from h)
    exact .inl ⟨_, rfl, wOk hw gh rfl⟩
   | bl b =>
    obtain ⟨v, rfl, h⟩ := isL1 i
    cases (show v = .bl b from h)
    exact .inr ⟨_, rfl, wOk hw gh rfl⟩
   | _ => exact hw.elim
noncomputable def tyN : D → String
 | .non => "NoneType"
 | .bl _ => "bool"
 | .int _ => "int"
 | .str _ => "str"
 | .tup _ => "tuple"
 | .lst _ => "list"
 | .dct _ _ => "dict"
 | .dtt _ _ => "dict"
 | .dnn _ _ _ => ""
 | .exn _ => ""
noncomputable def isiN (t T : String) : Bool := t == T || (t == "bool" && T == "int")
noncomputable def noX : D → Bool
 | .dnn _ _ _ => false
 | .exn _ => false
 | _ => true
noncomputable def isiR (T : String) (d : D) : Rs D := if noX d = true then .ok (.bl (isiN (tyN d) T)) else .bad
noncomputable def IsiOk (K : PySem.W.Frag) (T : String) : Prop := ∀ d : D, noX d = true → PySem.W.kitOne K (.type (tyN d)) (.type T) = some (isiN (tyN d) T)
theorem isi_any {X : Cx} {A : Around} {E : Value → Shared → Prop} {pins : List (Addr × Obj)} {s : Shared} {σ : St} {H : Hp} {d : D} {v : V} {u : Value} {T : String} {Q : Value → Shared → Prop} (I : Inv X pins σ H s) (r : RelV v u) (i : Is X.K H d v) (hT : IsiOk X.K T) (hno : noX d = true)
  (h : ∀ tk, Q (.bool (isiN (tyN d) T)) { s with toks := tk }) : wpAny (model X.prog X.w) A (call (.builtin "isinstance") [u, .type T]) Q E s := by
 have e := hT d hno
 cases d with
 | exn c => cases hno
 | dnn Φ ks ds => cases hno
 | non => cases (show v = .non from i); cases (show u = .none from r); exact PySem.W.kia_one PySem.W.kitx_none I.kIn True.intro e (fun z => nomatch z) h
 | bl b => cases (show v = .bl b from i); cases (show u = .bool b from r); exact PySem.W.kia_one PySem.W.kitx_bool I.kIn True.intro e (fun z => nomatch z) h
 | int b => cases (show v = .int b from i); obtain ⟨t, rfl⟩ := (show ∃ t, u = .int b t from r); exact PySem.W.kia_one PySem.W.kitx_int I.kIn True.intro e (fun z => nomatch z) h
 | str b => obtain ⟨rfl, _⟩ := i; obtain ⟨t, rfl⟩ := (show ∃ t, u = .str b t from r); exact PySem.W.kia_one PySem.W.kitx_str I.kIn True.intro e (fun z => nomatch z) h
 | tup ds =>
  obtain ⟨a, xs, rfl, h1, _⟩ := i
  cases (show u = .ref a from r)
  obtain ⟨its, _, ⟨o, e1, e2, _⟩, _⟩ := I.tuple (.of h1)
  exact PySem.W.kia_one PySem.W.kitx_tuple I.kIn ⟨o, e1, e2⟩ e (fun z => nomatch z) h
 | lst ds =>
  obtain ⟨a, xs, rfl, h1, _⟩ := i
  cases (show u = .ref a from r)
  obtain ⟨its, _, ⟨o, _, e1, e2, _⟩, _⟩ := I.list h1
  exact PySem.W.kia_one PySem.W.kitx_list I.kIn ⟨o, e1, e2⟩ e (fun z => nomatch z) h
 | dct ks ds =>
  obtain ⟨a, xs, rfl, h1, _⟩ := i
  cases (show u = .ref a from r)
  obtain ⟨_, _, vs, _, o, es, ep, e1, e2, _⟩ := I.hok a _ h1
  exact PySem.W.kia_one PySem.W.kitx_dict I.kIn ⟨o, e1, e2.1⟩ e (fun z => nomatch z) h
 | dtt ks ds =>
  obtain ⟨a, xs, rfl, h1, _⟩ := i
  cases (show u = .ref a from r)
  obtain ⟨_, _, vs, _, o, es, ep, e1, e2, _⟩ := I.hok a _ h1
  exact PySem.W.kia_one PySem.W.kitx_dict I.kIn ⟨o, e1, e2.1⟩ e (fun z => nomatch z) h
theorem cr_isi (hT : IsiOk X.K T) : CallR X (.builtin "isinstance") (fun xs H Q => ∃ x d, xs = [x, .ty T] ∧ Is X.K H d x ∧ noX d = true ∧ Q (.bl (isiN (tyN d) T)) H) := by
 intro pins s σ H xs us Q I r h
 obtain ⟨x, d, rfl, i, hno, q⟩ := h
 obtain ⟨u, w, rfl, r1, r2⟩ := vals2 r
 cases (show w = .type T from r2)
 exact isi_any I r1 i hT hno fun tk => ⟨.bl _, H, I.tok tk, rfl, q⟩
theorem pd_isi {y : Str} {p2 : Pos} (hT : IsiOk X.K T) (hm : X.mg "isinstance" = none) (hm2 : X.mg y = none) (hv2 : bootBuiltins y = some (.type T)) (ha : PE X e (tE X B G₀ fe)) (hg : Gl X "isinstance" := by rfl) (hg2 : Gl X y := by rfl)
  (hn2 : y ≠ "__name__" := by decide) (hd2 : (y == ("__debug__" : Str)) = false := by decide) (hs1 : starEach [e, .Name y p2] X.env = (false, eval e X.env) :: starEach [.Name y p2] X.env := by rfl) :
  PE X (.Call (.Name "isinstance" p) [e, .Name y p2] [] pos) (tE X B G₀ fun δ => fe δ >>= fun d => isiR T d) := by
 refine pd_of (pe_callB (cr_isi hT) hg hm PyProof.Rows.boot_isinstance (pa_cons ha (pa_cons (pe_bltn (v := .ty T) hg2 hm2 hv2 rfl hn2 hd2) pa_nil) hs1) (by decide) (by decide) hs1) fun σ H G δ Q R hw => ?_
 unfold W at hw
 rw [wp_bind] at hw
 refine ⟨G, δ, R, Rs.wp.mono hw (fun _ x => x) fun d q v H1 G1 e1 i1 => ?_⟩
 unfold isiR at q
 split at q
 ·rename_i hno
  exact ⟨v, d, rfl, i1.same e1.gh, hno, q _ H1 G1 e1 rfl⟩
 ·exact q.elim
end
theorem isi_int (K : PySem.W.Frag) : IsiOk K "int" := by intro d hd; cases d <;> first | rfl | cases hd
theorem isi_bool (K : PySem.W.Frag) : IsiOk K "bool" := by intro d hd; cases d <;> first | rfl | cases hd
theorem isi_str (K : PySem.W.Frag) : IsiOk K "str" := by intro d hd; cases d <;> first | rfl | cases hd
theorem isi_tuple (K : PySem.W.Frag) : IsiOk K "tuple" := by intro d hd; cases d <;> first | rfl | cases hd
theorem isi_list (K : PySem.W.Frag) : IsiOk K "list" := by intro d hd; cases d <;> first | rfl | cases hd
end M
set_option Elab.async false
set_option linter.all false
set_option maxRecDepth 100000
set_option maxHeartbeats 4000000
namespace M
open PySem PySem.Spec PyProof.Rows L2
set_option autoImplicit false
noncomputable def boolsOf : List D → Option (List Bool)
 | [] => some []
 | .bl b :: r => (boolsOf r).map (b :: ·)
 | _ :: _ => none
noncomputable def intsOf : List D → Option (List Int)
 | [] => some []
 | .int b :: r => (intsOf r).map (b :: ·)
 | _ :: _ => none
noncomputable def strsOf : List D → Option (List Str)
 | [] => some []
 | .str b :: r => (strsOf r).map (b :: ·)
 | _ :: _ => none
@[simp] theorem boolsOf_map {α : Type} (f : α → Bool) (l : List α) : boolsOf (l.map fun x => D.bl (f x)) = some (l.map f) := by
 induction l with
 | nil => rfl
 | cons a r ih => simp [boolsOf, ih]
@[simp] theorem intsOf_map {α : Type} (f : α → Int) (l : List α) : intsOf (l.map fun x => D.int (f x)) = some (l.map f) := by
 induction l with
 | nil => rfl
 | cons a r ih => simp [intsOf, ih]
@[simp] theorem strsOf_map {α : Type} (f : α → Str) (l : List α) : strsOf (l.map fun x => D.str (f x)) = some (l.map f) := by
 induction l with
 | nil => rfl
 | cons a r ih => simp [strsOf, ih]
noncomputable def allR : List D → Rs D
 | [.lst ds] => match boolsOf ds with
  | some bs => .ok (.bl (bs.all id))
  | none => .bad
 | _ => .bad
noncomputable def inSum (n : Int) : Bool := decide (-(2 ^ 40) ≤ n ∧ n ≤ 2 ^ 40)
noncomputable def sumR : List D → Rs D
 | [.lst ds] => match intsOf ds with
  | some ns => if (ns.all inSum && decide (ns.length ≤ 1000000)) = true then .ok (.int ns.sum) else .bad
  | none => .bad
 | _ => .bad
section
variable {K : PySem.W.Frag} {G : Hp}
theorem bools_get : ∀ {ds : List D} {bs : List Bool} {xs : List V} {us : List Value}, boolsOf ds = some bs → IsL K G ds xs → Vals xs us → ∀ (i : Nat) (u : Value), us[i]? = some u → u = .bool (bs.getD i false) ∧ us.length = bs.length
 | [], bs, xs, us, e, h, r => by
  rw [show xs = [] from h] at r
  cases r
  intro i u q
  simp at q
 | d :: ds, bs, xs, us, e, h, r => by
  obtain ⟨x, xr, rfl, h1, h2⟩ := h
  cases r with
  | @cons _ u0 _ ur r1 r2 =>
   cases d with
   | bl b =>
    unfold boolsOf at e
    cases q : boolsOf ds with
    | none => rw [q] at e; cases e
    | some br =>
     rw [q] at e
     cases e
     cases (show x = .bl b from h1)
     cases (show u0 = .bool b from r1)
     have hl : ur.length = br.length := by
      cases ur with
      | nil =>
       have := r2.length
       have h3 := h2.length
       have : ds = [] := by
        cases ds with
        | nil => rfl
        | cons _ _ => simp at h3; simp_all
       subst this
       cases q
       rfl
      | cons z zs => exact (bools_get q h2 r2 0 z rfl).2
     intro i u e
     cases i with
     | zero => simp at e; subst e; exact ⟨rfl, by simp [hl]⟩
     | succ i =>
      have := bools_get q h2 r2 i u (by simpa using e)
      exact ⟨by simpa using this.1, by simp [hl]⟩
   | _ => exact absurd e (by simp [boolsOf])
theorem ints_get : ∀ {ds : List D} {bs : List Int} {xs : List V} {us : List Value}, intsOf ds = some bs → IsL K G ds xs → Vals xs us → IntsAre us bs
 | [], bs, xs, us, e, h, r => by
  rw [show xs = [] from h] at r
  cases r
  cases e
  exact .nil
 | d :: ds, bs, xs, us, e, h, r => by
  obtain ⟨x, xr, rfl, h1, h2⟩ := h
  cases r with
  | @cons _ u0 _ ur r1 r2 =>
   cases d with
   | int b =>
    unfold intsOf at e
    cases q : intsOf ds with
    | none => rw [q] at e; cases e
    | some br =>
     rw [q] at e
     cases e
     cases (show x = .int b from h1)
     obtain ⟨t, rfl⟩ := (show ∃ t, u0 = .int b t from r1)
     exact .cons b t (ints_get q h2 r2)
   | _ => exact absurd e (by simp [intsOf])
theorem strs_get : ∀ {ds : List D} {bs : List Str} {xs : List V} {us : List Value}, strsOf ds = some bs → IsL K G ds xs → Vals xs us → StrsAre us bs ∧ ∀ y ∈ bs, PyData.strOk y = true
 | [], bs, xs, us, e, h, r => by
  rw [show xs = [] from h] at r
  cases r
  cases e
  exact ⟨.nil, by simp⟩
 | d :: ds, bs, xs, us, e, h, r => by
  obtain ⟨x, xr, rfl, h1, h2⟩ := h
  cases r with
  | @cons _ u0 _ ur r1 r2 =>
   cases d with
   | str b =>
    unfold strsOf at e
    cases q : strsOf ds with
    | none => rw [q] at e; cases e
    | some br =>
     rw [q] at e
     cases e
     obtain ⟨rfl, _, ok⟩ := h1
     obtain ⟨t, rfl⟩ := (show ∃ t, u0 = .str b t from r1)
     obtain ⟨z1, z2⟩ := strs_get q h2 r2
     exact ⟨.cons b t z1, by simpa using ⟨ok, z2⟩⟩
   | _ => exact absurd e (by simp [strsOf])
theorem range_all (bs : List Bool) : (List.range bs.length).all (fun i => bs.getD i false) = bs.all id := by
 induction bs with
 | nil => rfl
 | cons b r ih =>
  rw [List.length_cons, List.range_succ_eq_map, List.all_cons, List.all_map]
  have e : (List.range r.length).all ((fun i => (b :: r).getD i false) ∘ Nat.succ) = r.all id := by simpa [Function.comp_def] using ih
  rw [e]; rfl
theorem IntsAre.get {us : List Value} {ns : List Int} (h : IntsAre us ns) : ∀ (i : Nat) (u : Value), us[i]? = some u → ∃ t, u = .int (ns.getD i 0) t := by
 induction h with
 | nil => intro i u e; simp at e
 | cons n t r ih =>
  intro i u e
  cases i with
  | zero => simp at e; subst e; exact ⟨t, rfl⟩
  | succ i => simpa using ih i u (by simpa using e)
theorem preSum_take (ns : List Int) : ∀ k : Nat, preSum (fun i => ns.getD i 0) k = (ns.take k).sum
 | 0 => by simp [preSum]
 | k + 1 => by
  unfold preSum
  rw [preSum_take ns k, List.take_add_one]
  simp only [List.sum_append]
  congr 1
  cases h : ns[k]? with
  | none => simp [List.getD, h]
  | some x => simp [List.getD, h]
theorem sum_bound : ∀ ns : List Int, (∀ n ∈ ns, -(2 ^ 40) ≤ n ∧ n ≤ 2 ^ 40) → -(2 ^ 40) * (ns.length : Int) ≤ ns.sum ∧ ns.sum ≤ 2 ^ 40 * (ns.length : Int)
 | [], _ => by simp
 | n :: r, h => by
  have := sum_bound r fun x hx => h x (List.mem_cons_of_mem _ hx)
  have h0 := h n (List.mem_cons_self ..)
  simp only [List.sum_cons, List.length_cons]
  omega
end
section
variable {X : Cx} {B G₀ : Hp}
theorem cd_all (hc : X.calm = true) : CallD X (.builtin "all") allR := by
 intro pins s σ H G Q ds vs us I gh r i hw
 unfold allR at hw
 split at hw
 ·rename_i ds
  split at hw
  ·rename_i bs hb
   obtain ⟨v, rfl, h⟩ := isL1 i
   obtain ⟨u, rfl, ru⟩ := vals1 r
   obtain ⟨a, xs, rfl, h1, h2, h3⟩ := h
   cases (show u = .ref a from ru)
   obtain ⟨its, rv, pl, hz⟩ := I.list (gh.seq h1)
   have hget := bools_get hb h3 rv
   have hlen : its.length = bs.length := by
    cases its with
    | nil =>
     have e1 := rv.length
     have e2 := h3.length
     have : ds = [] := by cases ds with
      | nil => rfl
      | cons _ _ => simp at e2; simp_all
     subst this
     cases hb
     rfl
    | cons z zs => exact (hget 0 z rfl).2
   have hne : a ≠ s.heap.objs.size := Nat.ne_of_lt (by obtain ⟨o, e, _⟩ := pl.isList; exact Heap.lt_size e)
   refine call_all_walk (wpAny_pyIter_list pl.isList ?_)
   refine ⟨s.heap.objs.size, [s.heap.objs.size, a], [s.heap.objs.size], its.toArray.size, fun i v => its.toArray[i]? = some v, fun i h => h.IsListIter s.heap.objs.size a i ∧ h.IsList a its.toArray, fun i => bs.getD i false, rfl,
    Walks.list (show X.A.in1.handled = none from I.ok.hd hc) _ a hne its.toArray, ⟨⟨_, Heap.get?_push_size _ rfl, rfl, rfl⟩, pl.isList.at fun o e => Heap.get?_push_of_some _ e⟩, ?_, ?_⟩
   ·intro i v s' Q' E' hP hQ
    have hP' : its[i]? = some v := by simpa using hP
    rw [(hget i v hP').1]
    exact wpAny_truthy_bool hQ
   ·intro h' tk hk
    rw [List.size_toArray, hlen, range_all]
    refine ⟨.bl _, H, I.kept (t' := tk) fun b o e => hk b o (fun hb => ?_) (Heap.get?_push_of_some _ e), rfl, wOk hw gh rfl⟩
    rw [List.mem_singleton.mp hb] at e
    exact absurd (Heap.lt_size e) (Nat.lt_irrefl _)
  ·exact hw.elim
 ·exact hw.elim
theorem cd_sum (hc : X.calm = true) : CallD X (.builtin "sum") sumR := by
 intro pins s σ H G Q ds vs us I gh r i hw
 unfold sumR at hw
 split at hw
 ·rename_i ds
  split at hw
  ·rename_i ns hb
   obtain ⟨hcond, hw⟩ := wIf hw
   rw [Bool.and_eq_true] at hcond
   have hin : ∀ n ∈ ns, -(2 ^ 40) ≤ n ∧ n ≤ 2 ^ 40 := fun n hn => of_decide_eq_true (List.all_eq_true.mp hcond.1 n hn)
   have hln : ns.length ≤ 1000000 := of_decide_eq_true hcond.2
   obtain ⟨v, rfl, h⟩ := isL1 i
   obtain ⟨u, rfl, ru⟩ := vals1 r
   obtain ⟨a, xs, rfl, h1, h2, h3⟩ := h
   cases (show u = .ref a from ru)
   obtain ⟨its, rv, pl, hz⟩ := I.list (gh.seq h1)
   have hI := ints_get hb h3 rv
   have hget := IntsAre.get hI
   have hlen : its.length = ns.length := hI.length
   have hne : a ≠ s.heap.objs.size := Nat.ne_of_lt (by obtain ⟨o, e, _⟩ := pl.isList; exact Heap.lt_size e)
   refine call_sum_walk (wpAny_pyIter_list pl.isList ?_)
   refine ⟨s.heap.objs.size, [s.heap.objs.size, a], [s.heap.objs.size], its.toArray.size, fun i v => its.toArray[i]? = some v, fun i h => h.IsListIter s.heap.objs.size a i ∧ h.IsList a its.toArray, fun i => ns.getD i 0, rfl,
    Walks.list (show X.A.in1.handled = none from I.ok.hd hc) _ a hne its.toArray, ⟨⟨_, Heap.get?_push_size _ rfl, rfl, rfl⟩, pl.isList.at fun o e => Heap.get?_push_of_some _ e⟩, ?_, ?_, ?_, ?_⟩
   ·intro b hb'
    have la : a < s.heap.objs.size := by obtain ⟨o, e, _⟩ := pl.isList; exact Heap.lt_size e
    have hs : ∀ o : Obj, (s.heap.push o).objs.size = s.heap.objs.size + 1 := fun o => Heap.size_push _ _
    show b < (s.heap.push _).objs.size
    rw [hs]
    simp at hb'
    rcases hb' with rfl | rfl
    ·exact Nat.lt_succ_self _
    ·exact Nat.lt_succ_of_lt la
   ·intro i v hP
    exact hget i v (by simpa using hP)
   ·intro j hj
    have h0 : -(2 ^ 40) ≤ ns.getD j 0 ∧ ns.getD j 0 ≤ 2 ^ 40 := by
     cases q : ns[j]? with
     | none => simp [List.getD, q]
     | some x => simp [List.getD, q]; exact hin x (List.mem_of_getElem? q)
    refine ⟨⟨by show -(2 ^ 63) ≤ ns.getD j 0; omega, by show ns.getD j 0 < 2 ^ 63; omega⟩, ?_⟩
    rw [preSum_take]
    have hb2 := sum_bound (ns.take (j + 1)) fun n hn => hin n (List.mem_of_mem_take hn)
    have hl2 : (ns.take (j + 1)).length ≤ 1000000 := by rw [List.length_take]; omega
    exact ⟨by omega, by omega⟩
   ·intro h' tk t' hk
    rw [preSum_take, List.size_toArray, hlen, List.take_length]
    refine ⟨.int _, H, I.kept (t' := tk) fun b o e => hk b o (fun hb => ?_) (Heap.get?_push_of_some _ e), ⟨t', rfl⟩, wOk hw gh rfl⟩
    rw [List.mem_singleton.mp hb] at e
    exact absurd (Heap.lt_size e) (Nat.lt_irrefl _)
  ·exact hw.elim
 ·exact hw.elim
noncomputable def listR : List D → Rs D
 | [.lst ds] => .ok (.lst ds)
 | [.tup ds] => .ok (.lst ds)
 | _ => .bad
theorem cd_list : CallD X (.type "list") listR := callD_of call_list_of fun σ H G Q ds vs gh i hw => by
 unfold listR at hw
 split at hw
 ·rename_i ds
  obtain ⟨v, rfl, h⟩ := isL1 i
  obtain ⟨a, xs, rfl, h1, h2, h3⟩ := h
  exact ⟨a, xs, rfl, .inl (gh.seq h1), fun l hl => hw (.ref l) _ (upd G l (.lst xs)) (Ext.laid gh hl) ⟨l, xs, rfl, .of upd_same, h2, h3.same (same_upd (gh.free hl) _)⟩⟩
 ·rename_i ds
  obtain ⟨v, rfl, h⟩ := isL1 i
  obtain ⟨a, xs, rfl, h1, h2, h3⟩ := h
  exact ⟨a, xs, rfl, .inr (SqT.same gh h1), fun l hl => hw (.ref l) _ (upd G l (.lst xs)) (Ext.laid gh hl) ⟨l, xs, rfl, .of upd_same, h2, h3.same (same_upd (gh.free hl) _)⟩⟩
 ·exact hw.elim
end
end M
set_option Elab.async false
set_option linter.all false
set_option maxRecDepth 100000
set_option maxHeartbeats 4000000
namespace M
open PySem PySem.Spec PyProof.Rows L2
set_option autoImplicit false
inductive Out where
 | nx (δ : DS) | rt (d : D) | bk (δ : DS) | ct (δ : DS) | exc (c : Str) (δ : DS) | bad
noncomputable def Rs.out {α : Type} (r : Rs α) (δ : DS) (k : α → Out) : Out := match r with
 | .ok a => k a
 | .exc c => .exc c δ
 | .bad => .bad
@[simp] theorem ok_out {α : Type} (a : α) (δ : DS) (k : α → Out) : (Rs.ok a).out δ k = k a := nodef rfl
noncomputable def XS (X : Cx) (B G₀ : Hp) (c : Str) (δ : DS) : Prop := ∀ (pins : List (Addr × Obj)) (σ : St) (s' : Shared) (H G : Hp) (ev : Value), Rel X B G₀ σ H G δ → Inv X pins σ H s' → ∀ s'' : Shared, IsX X c H G s' ev s'' → X.xe ev s''
noncomputable def WS (X : Cx) (B G₀ : Hp) (D : Ends) (o : Out) : Prop := match o with
 | .nx δ => ∀ σ H G, Rel X B G₀ σ H G δ → D.nx σ H
 | .rt d => ∀ v H G, Ext B G₀ H G → Is X.K G d v → D.rt v H
 | .bk δ => ∀ σ H G, Rel X B G₀ σ H G δ → D.bk σ H
 | .ct δ => ∀ σ H G, Rel X B G₀ σ H G δ → D.ct σ H
 | .exc c δ => XS X B G₀ c δ
 | .bad => False
noncomputable def tS (X : Cx) (B G₀ : Hp) (F : DS → Out) : TS := fun D σ H => ∃ G δ, Rel X B G₀ σ H G δ ∧ WS X B G₀ D (F δ)
section
variable {X : Cx} {B G₀ : Hp} {σ : St} {H G : Hp} {δ : DS} {D' : Ends}
theorem out_W {r : Rs D} {k : D → Out} {Q : VK} (R : Rel X B G₀ σ H G δ) (hw : WS X B G₀ D' (r.out δ k)) (hk : ∀ d, r = .ok d → WS X B G₀ D' (k d) → ∀ v H' G', Ext H G H' G' → Is X.K G' d v → Q v H') : W X Q σ H G r := by
 cases r with
 | ok d => exact hk d rfl hw
 | exc c => exact fun pins s' H' G' ev e I x => hw pins σ s' H' G' ev (R.mono e) I x
 | bad => exact hw.elim
theorem out_WT {r : Rs Bool} {k : Bool → Out} {Q : Bool → Hp → Prop} (R : Rel X B G₀ σ H G δ) (hw : WS X B G₀ D' (r.out δ k)) (hk : ∀ d, r = .ok d → WS X B G₀ D' (k d) → ∀ H' G', Ext H G H' G' → Q d H') : WT X Q σ H G r := by
 cases r with
 | ok d => exact hk d rfl hw
 | exc c => exact fun pins s' H' G' ev e I x => hw pins σ s' H' G' ev (R.mono e) I x
 | bad => exact hw.elim
theorem ps_imp {st : Stmt} {t t' : TS} (h : PS X st t) (k : ∀ D σ H, t' D σ H → t D σ H) : PS X st t' := fun pins s σ H D I hw => h pins s σ H D I (k D σ H hw)
theorem pss_imp {st : List Stmt} {t t' : TS} (h : PSs X st t) (k : ∀ D σ H, t' D σ H → t D σ H) : PSs X st t' := fun pins s σ H D I hw => h pins s σ H D I (k D σ H hw)
noncomputable def seqO (F1 F2 : DS → Out) : DS → Out := fun δ => match F1 δ with
 | .nx δ' => F2 δ'
 | .rt d => .rt d
 | .bk δ' => .bk δ'
 | .ct δ' => .ct δ'
 | .exc c δ' => .exc c δ'
 | .bad => .bad
variable {st : Stmt} {rest sts sts' : List Stmt} {F F1 F2 : DS → Out} {e a b c : Expr} {fe fa fb : DS → Rs D} {gc : DS → Rs Bool} {pos : Pos}
theorem pds_nil : PSs X [] (tS X B G₀ Out.nx) := pss_imp pss_nil fun D σ H ⟨G, δ, R, hw⟩ => hw σ H G R
theorem pds_cons (h1 : PS X st (tS X B G₀ F1)) (h2 : PSs X rest (tS X B G₀ F2)) : PSs X (st :: rest) (tS X B G₀ (seqO F1 F2)) := by
 refine pss_imp (pss_cons h1 h2) fun D σ H ⟨G, δ, R, hw⟩ => ⟨G, δ, R, ?_⟩
 unfold seqO at hw
 cases q : F1 δ with
 | nx δ' => rw [q] at hw; exact fun σ' H' G' R' => ⟨G', δ', R', hw⟩
 | rt d => rw [q] at hw; exact hw
 | bk δ' => rw [q] at hw; exact hw
 | ct δ' => rw [q] at hw; exact hw
 | exc c δ' => rw [q] at hw; exact hw
 | bad => rw [q] at hw; exact hw
theorem pds_one (h1 : PS X st (tS X B G₀ F1)) : PSs X [st] (tS X B G₀ F1) := pss_one h1
theorem pds_continue : PS X (.Continue pos) (tS X B G₀ Out.ct) := ps_imp ps_continue fun D σ H ⟨G, δ, R, hw⟩ => hw σ H G R
theorem pds_never : PS X st (tS X B G₀ fun _ => .bad) := ps_imp ps_never fun D σ H ⟨G, δ, R, hw⟩ => hw
theorem pds_expr (he : PE X e (tE X B G₀ fe)) (hs : swapsWith e none pos.line X.env = pure false := by rfl) : PS X (.Expr e pos) (tS X B G₀ fun δ => (fe δ).out δ fun _ => .nx δ) :=
 ps_imp (ps_expr he hs) fun D σ H ⟨G, δ, R, hw⟩ => ⟨G, δ, R, out_W R hw fun d _ hk v H' G' e i => hk σ H' G' (R.mono e)⟩
theorem pds_ret (he : PE X e (tE X B G₀ fe)) : PS X (.Return (some e) pos) (tS X B G₀ fun δ => (fe δ).out δ fun d => .rt d) :=
 ps_imp (ps_ret he) fun D σ H ⟨G, δ, R, hw⟩ => ⟨G, δ, R, out_W R hw fun d _ hk v H' G' e i => hk v H' G' (R.ext.trans e) i⟩
theorem pds_if (hc : PT X c (tT X B G₀ gc)) (ha : PSs X sts (tS X B G₀ F1)) (hb : PSs X sts' (tS X B G₀ F2)) : PS X (.If c sts sts' pos) (tS X B G₀ fun δ => (gc δ).out δ fun k => if k = true then F1 δ else F2 δ) := by
 refine ps_imp (ps_if hc ha hb) fun D σ H ⟨G, δ, R, hw⟩ => ⟨G, δ, R, out_WT R hw fun k _ hk H' G' e => ?_⟩
 cases k with
 | true => exact ⟨G', δ, R.mono e, hk⟩
 | false => exact ⟨G', δ, R.mono e, hk⟩
theorem pds_set (i : Nat) {x : Str} {pos' : Pos} (hN : X.N.Nodup) (he : PE X e (tE X B G₀ fe)) (hi : X.N[i]? = some x := by rfl) (hx : Loc X.env.scope x := by first | exact Or.inl rfl | exact Or.inr rfl) (hs : swapsWith e (some (.Name x pos')) pos.line X.env = pure false := by rfl)
  (hf : X.fn x = true ∨ X.env.scope.names.lookup x = some .local := by first | exact .inl rfl | exact .inr rfl | assumption) :
  PS X (.Assign [.Name x pos'] e pos) (tS X B G₀ fun δ => (fe δ).out δ fun d => .nx (δ.set i (some (.v d)))) :=
 ps_imp (ps_set hN hi hx he hs hf) fun D σ H ⟨G, δ, R, hw⟩ => ⟨G, δ, R, out_W R hw fun d _ hk v H' G' e i' => hk _ H' G' ((R.mono e).set i i')⟩
noncomputable def getV (δ : DS) (i : Nat) : Rs D := match δ[i]? with
 | some (some (.v d)) => .ok d
 | _ => .bad
noncomputable def IpD (X : Cx) (op : Operator) (g : D → D → Rs D) : Prop := OpD X (inplaceOp op) g
theorem ip_addD : IpD X .Add addR := by
 intro pins s σ H G Q d1 d2 x y v u I gh rx ry i1 i2 hw
 cases d1 with
 | int i =>
  cases d2 with
  | int j => exact iop_add pins s σ H x y v u Q I rx ry ⟨i, j, i1, i2, wOk hw gh rfl⟩
  | _ => exact hw.elim
 | str i =>
  cases d2 with
  | str j =>
   obtain ⟨hz, hw⟩ := wIf (r := .ok (.str (i ++ j))) (c := i.length + j.length ≤ sizeLine) hw
   have hl : (i ++ j).length = i.length + j.length := by simp [Str.length, show (i ++ j).cps = i.cps ++ j.cps from rfl]
   exact iop_add_str pins s σ H x y v u Q I rx ry ⟨i, j, i1.1, i2.1, hz, wOk hw gh ⟨rfl, by rw [hl]; exact hz, strOk_append i1.2.2 i2.2.2⟩⟩
  | _ => exact hw.elim
 | _ => cases d2 <;> exact hw.elim
theorem pds_aug (i : Nat) {x : Str} {op : Operator} {g : D → D → Rs D} {pos' : Pos} (ho : IpD X op g) (hN : X.N.Nodup) (he : PE X e (tE X B G₀ fe)) (hi : X.N[i]? = some x := by rfl) (hx : Loc X.env.scope x := by first | exact Or.inl rfl | exact Or.inr rfl)
  (hf : X.fn x = true ∨ X.env.scope.names.lookup x = some .local := by first | exact .inl rfl | exact .inr rfl | assumption) :
  PS X (.AugAssign (.Name x pos') op e pos) (tS X B G₀ fun δ => (getV δ i >>= fun d => fe δ >>= fun y => g d y).out δ fun d => .nx (δ.set i (some (.v d)))) := by
 intro pins s σ H D' I h
 obtain ⟨G, δ, R, hw⟩ := h
 have W0 : W X (fun v H' => D'.nx (σ.set i (some v)) H') σ H G (getV δ i >>= fun d => fe δ >>= fun y => g d y) :=
  out_W R hw fun d _ hk v H' G' e i' => hk _ H' G' ((R.mono e).set i i')
 cases q : getV δ i with
 | exc c => unfold getV at q; split at q <;> cases q
 | bad => rw [q] at W0; exact W0.elim
 | ok d0 =>
  rw [q] at W0
  have q' : δ[i]? = some (some (.v d0)) := by
   unfold getV at q
   split at q
   ·rename_i e; cases q; exact e
   ·cases q
  obtain ⟨v0, hσ, hi0⟩ := R.val i d0 q'
  obtain ⟨m, hn, hl⟩ := I.loc
  have vis : Vis X.env.scope x := by rcases hx with k | k; exact .inl k; exact .inr (.inl k)
  obtain ⟨u0, r0, l⟩ := hl i x v0 hi hσ vis
  refine wpAny_AugAssign_Name ?_
  have go : wpAny (model X.prog X.w) X.A (eval e X.env) (fun w s₂ => wpAny (model X.prog X.w) X.A (inplaceOp op u0 w) (fun r s₃ => wpAny (model X.prog X.w) X.A (storeName X.env x r) (fun _ => SP X pins D' .next) X.xe s₃) X.xe s₂) X.xe s := by
   refine bindE he I R W0 fun d1 u1 v1 s1 H1 G1 I1 R1 r1 e1 i1 hw1 => ?_
   refine thn (ho pins s1 σ H1 G1 (fun v H' => D'.nx (σ.set i (some v)) H') d0 d1 v0 v1 u0 u1 I1 R1.ext.gh r0 r1 (hi0.same e1.gg) i1 (wmono hw1 e1)) fun z s2 ⟨zv, H2, I2, r2, q2⟩ => ?_
   exact store_ok I2 hN hi hx r2 (fun s3 I3 => ⟨_, H2, I3, q2⟩) hf
  rcases l with ⟨hk, hm⟩ | ⟨hk, c, hc, hcell⟩
  ·exact wpAny_loadName_local I.ok.kind hk hn hm go
  ·rcases hk with hk | hk
   ·exact wpAny_loadName_cell I.ok.kind hk hc hcell go
   ·have : X.env.scope.names.lookup x = some .free := hk
    rcases hx with k | k <;> (rw [k] at this; cases this)
theorem Ext.rebase {H1 G1 : Hp} (e : Ext B G₀ H1 G1) (f : Ext B G1 H G) : Ext B G₀ H G :=
 ⟨f.hh, e.gg.trans f.gg, f.gh, fun b o q => by
  rcases f.new b o q with z | z
  ·exact e.new b o z
  ·exact .inr z⟩
theorem Rel.up (R : Rel X B G₀ σ H G δ) : Rel X B G σ H G δ := ⟨⟨R.ext.hh, Same.refl _, R.ext.gh, fun _ _ q => .inl q⟩, R.len, R.val, R.own, R.apart⟩
theorem Rel.down {H1 G1 : Hp} (e : Ext B G₀ H1 G1) (R : Rel X B G1 σ H G δ) : Rel X B G₀ σ H G δ := ⟨e.rebase R.ext, R.len, R.val, R.own, R.apart⟩
theorem XS.up {c : Str} {H1 G1 : Hp} (e : Ext B G₀ H1 G1) (h : XS X B G₀ c δ) : XS X B G1 c δ := fun pins σ s' H G ev R I x => h pins σ s' H G ev (R.down e) I x
noncomputable def whileO (gc : DS → Rs Bool) (F : DS → Out) : Nat → DS → Out
 | 0, _ => .bad
 | n + 1, δ => (gc δ).out δ fun k => if k = true then (match F δ with
   | .nx δ' => whileO gc F n δ'
   | .ct δ' => whileO gc F n δ'
   | .bk δ' => .nx δ'
   | .rt d => .rt d
   | .exc c δ' => .exc c δ'
   | .bad => .bad) else .nx δ
theorem pds_while (fu : DS → Nat) (hp : PassesOwn (model X.prog X.w) X.A X.env X.xe) (hc : PT X c (tT X B G₀ gc)) (hb : PSs X sts (tS X B G₀ F)) : PS X (.While c sts [] pos) (tS X B G₀ fun δ => whileO gc F (fu δ) δ) := by
 refine ps_imp (ps_while hp hc hb) fun D' σ H ⟨G, δ, R, hw⟩ => ?_
 refine ⟨fun m σ H => ∃ G δ, Rel X B G₀ σ H G δ ∧ WS X B G₀ D' (whileO gc F m δ), ⟨_, G, δ, R, hw⟩, ?_⟩
 rintro m σ H ⟨G, δ, R, hw⟩
 cases m with
 | zero => exact hw.elim
 | succ m =>
  refine ⟨G, δ, R, out_WT R hw fun k _ hk H' G' e => ?_⟩
  cases k with
  | false => exact hk σ H' G' (R.mono e)
  | true =>
   refine ⟨fun σ' H' => ∃ G δ, Rel X B G₀ σ' H' G δ ∧ WS X B G₀ D' (whileO gc F m δ), fun σ' H' h => ⟨m, Nat.lt_succ_self _, h⟩, G', δ, R.mono e, ?_⟩
   have hk : WS X B G₀ D' (match F δ with
    | .nx δ' => whileO gc F m δ'
    | .ct δ' => whileO gc F m δ'
    | .bk δ' => .nx δ'
    | .rt d => .rt d
    | .exc c δ' => .exc c δ'
    | .bad => .bad) := hk
   cases q : F δ with
   | nx δ' => rw [q] at hk; exact fun σ' H' G' R' => ⟨G', δ', R', hk⟩
   | ct δ' => rw [q] at hk; exact fun σ' H' G' R' => ⟨G', δ', R', hk⟩
   | bk δ' => rw [q] at hk; exact hk
   | rt d => rw [q] at hk; exact hk
   | exc c δ' => rw [q] at hk; exact hk
   | bad => rw [q] at hk; exact hk
noncomputable def ItD (X : Cx) (J : It) (ds : List D) (G1 : Hp) : Prop := ∀ H G, Same G1 G → Same G H →
 (∀ (i : Nat) (d : D), ds[i]? = some d → J.go i H ∧ ∀ x H2, J.yld i H x H2 → ∃ G2, Ext H G H2 G2 ∧ Is X.K G2 d x) ∧ J.stop ds.length H
noncomputable def tI (X : Cx) (B G₀ : Hp) (f : DS → Rs (List D)) : TI := fun σ H R => ∃ G δ, Rel X B G₀ σ H G δ ∧ (f δ).wp (fun c => Xo X c σ H G) fun ds => ∀ J H' G', Ext H G H' G' → ItD X J ds G' → R J H'
noncomputable def forO (tg : D → DS → Option DS) (F : DS → Out) : List D → DS → Out
 | [], δ => .nx δ
 | d :: ds, δ => match tg d δ with
  | none => .bad
  | some δ1 => match F δ1 with
   | .nx δ' => forO tg F ds δ'
   | .ct δ' => forO tg F ds δ'
   | .bk δ' => .nx δ'
   | .rt d => .rt d
   | .exc c δ' => .exc c δ'
   | .bad => .bad
noncomputable def TgD (X : Cx) (B : Hp) (g : TG) (tg : D → DS → Option DS) : Prop := ∀ (G₀ : Hp) (σ : St) (H G : Hp) (δ δ1 : DS) (d : D) (x : V) (Q : St → Hp → Prop), Rel X B G₀ σ H G δ → Is X.K G d x → tg d δ = some δ1 → (∀ σ' H' G', Rel X B G₀ σ' H' G' δ1 → Q σ' H') → g x σ H Q
theorem tg_name (i : Nat) : TgD X B (gName i) (fun d δ => some (δ.set i (some (.v d)))) := fun G₀ σ H G δ δ1 d x Q R hi e hQ => by
 cases e
 exact hQ _ H G (R.set i hi)
theorem pds_for {tgt iter : Expr} {g : TG} {tg : D → DS → Option DS} {f : DS → Rs (List D)} (hp : PassesOwn (model X.prog X.w) X.A X.env X.xe) (hc : X.calm = true) (hi : PI X tgt iter (tI X B G₀ f)) (hg : PG X tgt g) (ht : TgD X B g tg) (hb : ∀ G₀, PSs X sts (tS X B G₀ F))
  (hs : ∀ x, foldedSetIterable iter X.env x = pure x := by intro _; rfl) : PS X (.For tgt iter sts [] pos) (tS X B G₀ fun δ => (f δ).out δ fun ds => forO tg F ds δ) := by
 intro pins s σ H D' I h
 obtain ⟨G, δ, R, hw⟩ := h
 have hw : WS X B G₀ D' ((f δ).out δ fun ds => forO tg F ds δ) := hw
 have hbody : PSs X sts fun D σ H => ∃ G₀, tS X B G₀ F D σ H := fun pins s σ H D I ⟨G₀, h⟩ => hb G₀ pins s σ H D I h
 refine ps_for hp hc hi hg hbody hs pins s σ H D' I ⟨G, δ, R, ?_⟩
 cases q : f δ with
 | exc c => rw [q] at hw; exact fun pins s' H' G' ev e I x => hw pins σ s' H' G' ev (R.mono e) I x
 | bad => rw [q] at hw; exact hw.elim
 | ok ds =>
  rw [q] at hw
  intro J H1 G1 e1 hJ
  have R1 := R.mono e1
  have eb : Ext B G₀ H1 G1 := R1.ext
  refine ⟨fun k m σ H => m = ds.length - k ∧ k ≤ ds.length ∧ ∃ G δ, Rel X B G1 σ H G δ ∧ WS X B G₀ D' (forO tg F (ds.drop k) δ), ⟨ds.length, by simp, Nat.zero_le _, G1, δ, R1.up, by simpa using hw⟩, ?_⟩
  rintro k m σ H ⟨rfl, hk, G, δ, R, hw⟩
  obtain ⟨j1, j2⟩ := hJ H G R.ext.gg R.ext.gh
  by_cases hlt : k < ds.length
  ·have hd : ds[k]? = some ds[k] := List.getElem?_eq_getElem hlt
   obtain ⟨go, yl⟩ := j1 k _ hd
   rw [List.drop_eq_getElem_cons hlt] at hw
   refine .inr ⟨go, fun σ' H' => ∃ G δ, Rel X B G1 σ' H' G δ ∧ WS X B G₀ D' (forO tg F (ds.drop (k + 1)) δ), fun σ' H' ⟨G, δ, R, hw⟩ => ⟨ds.length - (k + 1), by omega, rfl, hlt, G, δ, R, hw⟩, fun x H2 y => ?_⟩
   obtain ⟨G2, e2, i2⟩ := yl x H2 y
   unfold forO at hw
   cases q1 : tg ds[k] δ with
   | none => rw [q1] at hw; exact hw.elim
   | some δ1 =>
    rw [q1] at hw
    refine ht G1 σ H2 G2 δ δ1 _ x _ (R.mono e2) i2 q1 fun σ3 H3 G3 R3 => ⟨G1, G3, δ1, R3, ?_⟩
    dsimp only at hw
    cases q2 : F δ1 with
    | nx δ' => rw [q2] at hw; exact fun σ' H' G' R' => ⟨G', δ', R', hw⟩
    | ct δ' => rw [q2] at hw; exact fun σ' H' G' R' => ⟨G', δ', R', hw⟩
    | bk δ' => rw [q2] at hw; exact fun σ' H' G' R' => hw σ' H' G' (R'.down eb)
    | rt d => rw [q2] at hw; exact fun v H' G' e i => hw v H' G' (eb.rebase e) i
    | exc c δ' => rw [q2] at hw; exact hw.up eb
    | bad => rw [q2] at hw; exact hw
  ·have e : k = ds.length := by omega
   subst e
   refine .inl ⟨j2, ?_⟩
   rw [List.drop_length] at hw
   exact hw σ H G (R.down eb)
end
end M
set_option Elab.async false
set_option linter.all false
set_option maxRecDepth 100000
set_option maxHeartbeats 4000000
namespace M
open PySem PySem.Spec PyProof.Rows L2
set_option autoImplicit false
section
variable {X : Cx} {B G₀ : Hp}
theorem itD_list {a : Addr} {xs : List V} {ds : List D} {G1 : Hp} (h1 : SqL X.K G1 a xs) (h3 : IsL X.K G1 ds xs) : ItD X (Itl X.K a) ds G1 := by
 intro H G gg gh
 have hs : SqL X.K H a xs := (gg.trans gh).seq h1
 have hi := h3.same gg
 refine ⟨fun i d e => ?_, xs, hs, by rw [h3.length]; exact Nat.le_refl _⟩
 obtain ⟨x, hx, ix⟩ := hi.get e
 refine ⟨⟨xs, x, hs, hx⟩, fun y H2 ⟨eq, q⟩ => ?_⟩
 subst eq
 have := q xs hs
 rw [hx] at this; cases this
 exact ⟨G, Ext.refl gh, ix⟩
theorem itD_tup {a : Addr} {xs : List V} {ds : List D} {G1 : Hp} (h1 : G1 a = some (.tup xs)) (h3 : IsL X.K G1 ds xs) : ItD X (Itt X.K a) ds G1 := by
 intro H G gg gh
 have hs : SqT X.K H a xs := SqT.same (gg.trans gh) h1
 have hi := h3.same gg
 refine ⟨fun i d e => ?_, xs, hs, by rw [h3.length]; exact Nat.le_refl _⟩
 obtain ⟨x, hx, ix⟩ := hi.get e
 refine ⟨⟨xs, x, hs, hx⟩, fun y H2 ⟨eq, q⟩ => ?_⟩
 subst eq
 have := q xs hs
 rw [hx] at this; cases this
 exact ⟨G, Ext.refl gh, ix⟩
noncomputable def Its (x : Str) : It := ⟨fun i _ => i < x.length, fun i H v H' => H' = H ∧ ∃ c, x.cps[i]? = some c ∧ v = .str (chr1 c), fun i _ => x.length ≤ i⟩
noncomputable def signsD (x : Str) : List D := x.cps.toList.map fun c => .str (chr1 c)
theorem itD_str {x : Str} {G1 : Hp} (ok : PyData.strOk x = true) : ItD X (Its x) (signsD x) G1 := by
 intro H G gg gh
 have hl : (signsD x).length = x.length := by simp [signsD, Str.length]
 refine ⟨fun i d e => ?_, by rw [hl]; exact Nat.le_refl _⟩
 have hi : i < x.length := by rw [← hl]; exact (List.getElem?_eq_some_iff.mp e).1
 refine ⟨hi, fun v H2 ⟨eq, c, hc, hv⟩ => ?_⟩
 subst eq
 refine ⟨G, Ext.refl gh, ?_⟩
 have e2 : d = .str (chr1 c) := by
  unfold signsD at e
  rw [List.getElem?_map] at e
  have : x.cps.toList[i]? = some c := by simpa using hc
  rw [this] at e
  cases e; rfl
 subst e2
 refine ⟨hv, (by show 1 ≤ sizeLine; decide), ?_⟩
 have hm : c ∈ x.cps := by
  have : x.cps.toList[i]? = some c := by simpa using hc
  simpa using List.mem_of_getElem? this
 unfold PyData.strOk at ok ⊢
 have := Array.all_eq_true_iff_forall_mem.mp ok c hm
 simpa [chr1] using this
theorem turn_ascii {P : Program} {w : World} {K : PySem.W.Frag} {tg : Expr} (x : Str) (t : Tok) (it : Addr) : Turn P w K tg (Its x) [it] it (fun i h => h.IsStrIter it "str_ascii_iterator" x t i) where
 mem := by simp
 obj := fun i h st b hb => by
  have e : b = it := by simpa using hb
  subst e
  obtain ⟨o, e, c, d⟩ := st
  exact ⟨o, e, fun v z => by rw [d] at z; cases z⟩
 keep := fun i h h' ⟨o, e, r⟩ k => ⟨o, k it (by simp) o e, r⟩
 item := by
  intro X hP hw hK hc i pins s σ H E I hf st hg
  subst hP hw hK
  obtain ⟨f0, f1, f2, f3, f4, f5⟩ := hf it (by simp)
  have hi : i < x.cps.size := hg
  have hx : x.cps[i]? = some x.cps[i] := by simp [hi]
  refine wpAny_pyNext_ascii_item st hx fun h' st' sb => ?_
  have I1 : Inv X pins σ H { s with heap := h', toks := s.toks + 1 } := I.turned (t' := s.toks + 1) (fun b o hb e => (sb.2 b hb).trans e) f0 f1 f3 f4 f5
  obtain ⟨o, e, c, d⟩ := id st'
  exact ⟨_, rfl, go_of (s := { s with heap := h', toks := s.toks + 1 }) e c d (by decide) ⟨.str (chr1 x.cps[i]), H, I1, ⟨_, rfl⟩, ⟨rfl, _, hx, rfl⟩, st', fun b hb => (hf b hb).1⟩⟩
 done := by
  intro X hP hw hK hc i pins s σ H E I hf st hg
  subst hP hw hK
  obtain ⟨f0, f1, f2, f3, f4, f5⟩ := hf it (by simp)
  have hi : x.cps.size ≤ i := hg
  exact wpAny_pyNext_ascii_end (I.ok.hd hc) st (by simp [hi]) fun h' eb => ⟨rfl, I.turned (t' := s.toks) (fun b o hb e => eb b o hb e) f0 f1 f3 f4 f5⟩
 self := fun _ _ _ _ _ st h => wpAny_pyIter_striter_ascii st h
theorem turn_wide {P : Program} {w : World} {K : PySem.W.Frag} {tg : Expr} (x : Str) (t : Tok) (it : Addr) : Turn P w K tg (Its x) [it] it (fun i h => h.IsStrIter it "str_iterator" x t i) where
 mem := by simp
 obj := fun i h st b hb => by
  have e : b = it := by simpa using hb
  subst e
  obtain ⟨o, e, c, d⟩ := st
  exact ⟨o, e, fun v z => by rw [d] at z; cases z⟩
 keep := fun i h h' ⟨o, e, r⟩ k => ⟨o, k it (by simp) o e, r⟩
 item := by
  intro X hP hw hK hc i pins s σ H E I hf st hg
  subst hP hw hK
  obtain ⟨f0, f1, f2, f3, f4, f5⟩ := hf it (by simp)
  have hi : i < x.cps.size := hg
  have hx : x.cps[i]? = some x.cps[i] := by simp [hi]
  refine wpAny_pyNext_wide_item st hx fun h' st' sb => ?_
  have I1 : Inv X pins σ H { s with heap := h', toks := s.toks + 1 } := I.turned (t' := s.toks + 1) (fun b o hb e => (sb.2 b hb).trans e) f0 f1 f3 f4 f5
  obtain ⟨o, e, c, d⟩ := id st'
  exact ⟨_, rfl, go_of (s := { s with heap := h', toks := s.toks + 1 }) e c d (by decide) ⟨.str (chr1 x.cps[i]), H, I1, ⟨_, rfl⟩, ⟨rfl, _, hx, rfl⟩, st', fun b hb => (hf b hb).1⟩⟩
 done := by
  intro X hP hw hK hc i pins s σ H E I hf st hg
  subst hP hw hK
  obtain ⟨f0, f1, f2, f3, f4, f5⟩ := hf it (by simp)
  have hi : x.cps.size ≤ i := hg
  exact wpAny_pyNext_wide_end (I.ok.hd hc) st (by simp [hi]) fun h' eb => ⟨rfl, I.turned (t' := s.toks) (fun b o hb e => eb b o hb e) f0 f1 f3 f4 f5⟩
 self := fun _ _ _ _ _ st h => wpAny_pyIter_striter_wide st h
noncomputable def itR : D → Rs (List D)
 | .lst ds => .ok ds
 | .tup ds => .ok ds
 | .str x => .ok (signsD x)
 | _ => .bad
variable {l : Expr} {fe : DS → Rs D} {tg : Expr}
theorem pdi_any (hl : PE X l (tE X B G₀ fe)) : PI X tg l (tI X B G₀ fun δ => fe δ >>= itR) := by
 intro pins s σ H Rk I ⟨G, δ, R, hw⟩
 refine bindE hl I R hw fun d u v s1 H1 G1 I1 R1 r1 e1 i1 hw1 => ?_
 have fp1 : ∀ b ∈ [s1.heap.objs.size], FpOk X pins H1 b := fun b hb => by
  have e : b = s1.heap.objs.size := by simpa using hb
  subst e
  exact I1.fpOk (Nat.le_refl _) (I1.hok.fresh (Nat.le_refl _))
 cases d with
 | lst ds =>
  obtain ⟨a, xs, rfl, h1, h2, h3⟩ := i1
  cases r1
  obtain ⟨its, rv, p, hz⟩ := I1.list (R1.ext.gh.seq h1)
  refine wpAny_pyIter_list p.isList ?_
  exact ⟨s1.heap.objs.size, [s1.heap.objs.size], _, _, H1, rfl, I1.kept (t' := s1.toks) fun b o e => Heap.get?_push_of_some _ e, turn_list a _, ⟨_, Heap.get?_push_size _ rfl, rfl, rfl⟩, fp1, hw1 _ H1 G1 e1 (itD_list h1 h3)⟩
 | tup ds =>
  obtain ⟨a, xs, rfl, h1, h2, h3⟩ := i1
  cases r1
  obtain ⟨its, rv, p, hz⟩ := I1.tuple (SqT.same R1.ext.gh h1)
  refine wpAny_pyIter_tuple (show s1.heap.IsTuple a its.toArray from p) ?_
  exact ⟨s1.heap.objs.size, [s1.heap.objs.size], _, _, H1, rfl, I1.kept (t' := s1.toks) fun b o e => Heap.get?_push_of_some _ e, turn_tuple a _, ⟨_, Heap.get?_push_size _ rfl, rfl, rfl⟩, fp1, hw1 _ H1 G1 e1 (itD_tup h1 h3)⟩
 | str x =>
  obtain ⟨rfl, h2, h3⟩ := i1
  obtain ⟨t, rfl⟩ := r1
  cases ha : x.cps.all (· < 128) with
  | false =>
   refine wpAny_pyIter_wide ha ?_
   exact ⟨s1.heap.objs.size, [s1.heap.objs.size], _, _, H1, rfl, I1.kept (t' := s1.toks) fun b o e => Heap.get?_push_of_some _ e, turn_wide x t _, ⟨_, Heap.get?_push_size _ rfl, rfl, rfl⟩, fp1, hw1 _ H1 G1 e1 (itD_str h3)⟩
  | true =>
   refine wpAny_pyIter_ascii ha ?_
   exact ⟨s1.heap.objs.size, [s1.heap.objs.size], _, _, H1, rfl, I1.kept (t' := s1.toks) fun b o e => Heap.get?_push_of_some _ e, turn_ascii x t _, ⟨_, Heap.get?_push_size _ rfl, rfl, rfl⟩, fp1, hw1 _ H1 G1 e1 (itD_str h3)⟩
 | _ => exact hw1.elim
noncomputable def rngD (lo : Int) (n : Nat) : List D := (List.range n).map fun (k : Nat) => .int (lo + (k : Int))
theorem itD_rng {lo : Int} {n : Nat} {G1 : Hp} : ItD X (Itr lo n) (rngD lo n) G1 := by
 intro H G gg gh
 have hl : (rngD lo n).length = n := by simp [rngD]
 refine ⟨fun i d e => ?_, by rw [hl]; exact Nat.le_refl _⟩
 have hi : i < n := by rw [← hl]; exact (List.getElem?_eq_some_iff.mp e).1
 refine ⟨hi, fun v H2 ⟨eq, hv⟩ => ?_⟩
 subst eq
 refine ⟨G, Ext.refl gh, ?_⟩
 have e2 : d = .int (lo + i) := by
  unfold rngD at e
  rw [List.getElem?_map, List.getElem?_range hi] at e
  cases e; rfl
 subst e2
 exact hv
noncomputable def inRng (j : Int) : Bool := decide (-(2 ^ 62) ≤ j ∧ j < 2 ^ 62)
noncomputable def rngR : List D → Rs (List D)
 | [.int j] => if inRng j = true then .ok (rngD 0 j.toNat) else .bad
 | [.int i, .int j] => if (inRng i && inRng j) = true then .ok (rngD i (j - i).toNat) else .bad
 | _ => .bad
variable {a b : Expr} {fr : DS → Rs (List D)} {p pos : Pos}
theorem pi_imp {iter : Expr} {t t' : TI} (h : PI X tg iter t) (k : ∀ σ H R, t' σ H R → t σ H R) : PI X tg iter t' := fun pins s σ H R I hw => h pins s σ H R I (k σ H R hw)
theorem pdi_range1 (hm : X.mg "range" = none) (ha : PA X [a] (tAs X B G₀ fr)) (hg : Gl X "range" := by rfl) (hs : starEach [a] X.env = [(false, eval a X.env)] := by rfl) : PI X tg (.Call (.Name "range" p) [a] [] pos) (tI X B G₀ fun δ => fr δ >>= fun ds => match ds with | [d] => rngR [d] | _ => .bad) := by
 refine pi_imp (pi_range1 hg hm ha hs) fun σ H Rk ⟨G, δ, R, hw⟩ => ⟨G, δ, R, ?_⟩
 rw [wp_bind] at hw
 refine Rs.wp.mono hw (fun _ x => x) fun ds q vs H1 G1 e1 i1 => ?_
 cases ds with
 | nil => exact q.elim
 | cons d r =>
  cases r with
  | cons _ _ => exact q.elim
  | nil =>
   cases d with
   | int j =>
    obtain ⟨v, rfl, h⟩ := isL1 i1
    cases (show v = .int j from h)
    have q : (if inRng j = true then (.ok (rngD 0 j.toNat) : Rs (List D)) else .bad).wp _ _ := q
    split at q
    ·rename_i hj
     obtain ⟨h1, h2⟩ := of_decide_eq_true hj
     exact ⟨j, rfl, h1, h2, q _ H1 G1 e1 itD_rng⟩
    ·exact q.elim
   | _ => exact q.elim
end
end M
set_option Elab.async false
set_option linter.all false
set_option maxRecDepth 100000
set_option maxHeartbeats 4000000
namespace M
open PySem PySem.Spec PyProof.Rows L2
set_option autoImplicit false
noncomputable def clOf (cells : List (Str × Addr)) : List (Str × NameKind) → List (Str × Addr) → List (Str × Addr)
 | [], acc => acc
 | (n, k) :: r, acc => if (k == .free) = true then clOf cells r ((n, (cells.lookup n).getD 0) :: acc) else clOf cells r acc
theorem closure_eq {env : Env} : ∀ (names : List (Str × NameKind)) (acc : List (Str × Addr)), (∀ y ∈ names, y.2 = .free → ∃ c, env.cells.lookup y.1 = some c) →
  (forIn names acc fun (p : Str × NameKind) (cs : List (Str × Addr)) => (if (p.2 == .free) = true then do let c ← cellOf env p.1; pure (ForInStep.yield ((p.1, c) :: cs)) else pure (ForInStep.yield cs) : Sem (ForInStep (List (Str × Addr))))) = (pure (clOf env.cells names acc) : Sem (List (Str × Addr)))
 | [], acc, _ => rfl
 | (n, k) :: r, acc, h => by
  have hr := fun acc => closure_eq r acc fun y hy => h y (List.mem_cons_of_mem _ hy)
  rw [List.forIn_cons]
  by_cases hk : (k == NameKind.free) = true
  ·obtain ⟨c, hc⟩ := h (n, k) (List.mem_cons_self ..) (eq_of_beq hk)
   have e : cellOf env n = pure c := by
    unfold cellOf
    rw [hc]
   unfold clOf
   simp only [hk, if_true]
   rw [e, hc]
   exact hr _
  ·unfold clOf
   simp only [hk, if_false]
   exact hr _
theorem closureFor_cl {scope : Scope} {env : Env} (h : ∀ y ∈ scope.names, y.2 = .free → ∃ c, env.cells.lookup y.1 = some c) : closureFor scope env = pure (clOf env.cells scope.names []) := by
 unfold closureFor
 have e := closure_eq (env := env) scope.names [] h
 first
  | exact e
  | (simp only [bind_pure]; exact e)
  | (rw [show (fun (r : List (Str × Addr)) => (pure r : Sem (List (Str × Addr)))) = pure from rfl]; simp only [bind_pure]; exact e)
theorem clOf_sub {cells : List (Str × Addr)} : ∀ (names : List (Str × NameKind)) (acc : List (Str × Addr)), (∀ y ∈ names, y.2 = .free → ∃ c, cells.lookup y.1 = some c) → (∀ y c, acc.lookup y = some c → cells.lookup y = some c) → ∀ y c, (clOf cells names acc).lookup y = some c → cells.lookup y = some c
 | [], acc, _, ha => ha
 | (n, k) :: r, acc, h, ha => by
  have hr : ∀ y ∈ r, y.2 = .free → ∃ c, cells.lookup y.1 = some c := fun y hy => h y (List.mem_cons_of_mem _ hy)
  unfold clOf
  split
  ·rename_i hk
   obtain ⟨c, hc⟩ := h (n, k) (List.mem_cons_self ..) (eq_of_beq hk)
   refine clOf_sub r _ hr fun y c' e => ?_
   rw [List.lookup_cons] at e
   cases hb : y == n with
   | true =>
    rw [hb] at e
    have : y = n := eq_of_beq hb
    subst this
    have hc' : cells.lookup y = some c := hc
    rw [hc'] at e ⊢
    exact e
   | false => rw [hb] at e; exact ha y c' e
  ·exact clOf_sub r acc hr ha
theorem clOf_has {cells : List (Str × Addr)} : ∀ (names : List (Str × NameKind)) (acc : List (Str × Addr)) (y : Str), ((y, NameKind.free) ∈ names ∨ (acc.lookup y).isSome = true) → ((clOf cells names acc).lookup y).isSome = true
 | [], acc, y, h => by
  rcases h with h | h
  ·cases h
  ·exact h
 | (n, k) :: r, acc, y, h => by
  unfold clOf
  split
  ·refine clOf_has r _ y ?_
   rcases h with h | h
   ·rcases List.mem_cons.mp h with e | e
    ·cases e
     exact .inr (by simp)
    ·exact .inl e
   ·refine .inr ?_
    rw [List.lookup_cons]
    cases y == n with
    | true => rfl
    | false => exact h
  ·rename_i hk
   refine clOf_has r acc y ?_
   rcases h with h | h
   ·rcases List.mem_cons.mp h with e | e
    ·cases e
     exact absurd rfl hk
    ·exact .inl e
   ·exact .inr h
noncomputable def compOk (sc scope : Scope) (N : List Str) (x : Str) (fr : List (Str × Nat)) : Bool :=
 (scope.kind == .function) && (sc.kind == .function) && scope.names.all (fun y => !(y.2 == .cell)) && scope.names.all (fun y => !(y.2 == .local) || scope.names.lookup y.1 == some .local) &&
 scope.names.all (fun y => !(y.2 == .free) || (sc.names.lookup y.1 == some .cell || sc.names.lookup y.1 == some .free)) && (scope.names.lookup x == some .local) &&
 fr.all (fun y => scope.names.lookup y.1 == some .free && scope.names.contains (y.1, .free) && (sc.names.lookup y.1 == some .cell || sc.names.lookup y.1 == some .free) && N[y.2]? == some y.1) && decide ((x :: fr.map (·.1)).Nodup)
structure CompOk (sc scope : Scope) (N : List Str) (x : Str) (fr : List (Str × Nat)) : Prop where
 kind : scope.kind = .function
 skind : sc.kind = .function
 cell : ∀ y ∈ scope.names, y.2 ≠ .cell
 loc : ∀ y ∈ scope.names, y.2 = .local → scope.names.lookup y.1 = some .local
 free : ∀ y ∈ scope.names, y.2 = .free → sc.names.lookup y.1 = some .cell ∨ sc.names.lookup y.1 = some .free
 hx : scope.names.lookup x = some .local
 frs : ∀ y ∈ fr, scope.names.lookup y.1 = some .free ∧ (y.1, NameKind.free) ∈ scope.names ∧ (sc.names.lookup y.1 = some .cell ∨ sc.names.lookup y.1 = some .free) ∧ N[y.2]? = some y.1
 nd : (x :: fr.map (·.1)).Nodup
theorem CompOk.of {sc scope : Scope} {N : List Str} {x : Str} {fr : List (Str × Nat)} (h : compOk sc scope N x fr = true) : CompOk sc scope N x fr := by
 unfold compOk at h
 simp only [Bool.and_eq_true, List.all_eq_true, Bool.or_eq_true, Bool.not_eq_true', beq_iff_eq, beq_eq_false_iff_ne, decide_eq_true_eq, List.contains_iff_mem, ne_eq] at h
 obtain ⟨⟨⟨⟨⟨⟨⟨h1, h2⟩, h3⟩, h4⟩, h5⟩, h6⟩, h7⟩, h8⟩ := h
 refine ⟨h1, h2, fun y hy => h3 y hy, fun y hy e => ?_, fun y hy e => ?_, h6, fun y hy => ?_, h8⟩
 ·rcases h4 y hy with q | q
  ·exact absurd e q
  ·exact q
 ·rcases h5 y hy with q | q
  ·exact absurd e q
  ·exact q
 ·obtain ⟨⟨⟨q1, q2⟩, q3⟩, q4⟩ := h7 y hy
  exact ⟨q1, q2, q3, q4⟩
noncomputable def compCx (X : Cx) (scope : Scope) (x : Str) (fr : List (Str × Nat)) (C : Addr) (s₀ : Shared) (H₀ : Hp) (fp : List Addr) : Cx :=
 { X with N := x :: fr.map (·.1), s₀ := s₀, H₀ := H₀, env := compEnvC scope (clOf X.env.cells scope.names []) C X.env, outer := X.stack, stack := X.stack, ex := fp, fn := fun _ => false, pn := [], xe := fun _ _ => False }
theorem lookup_relabel_free {env : Env} : ∀ {names : List (Str × NameKind)} {x : Str}, names.lookup x = some .free →
  (names.map fun (n, k) => if (k == NameKind.free && env.scope.kind == .function && env.kindOf n == some .cell) then (n, NameKind.cell) else (n, k)).lookup x = some .cell ∨
  (names.map fun (n, k) => if (k == NameKind.free && env.scope.kind == .function && env.kindOf n == some .cell) then (n, NameKind.cell) else (n, k)).lookup x = some .free
 | [], _, h => by simp at h
 | (n, k) :: r, x, h => by
  have ih := @lookup_relabel_free env r x
  show List.lookup x ((if (k == NameKind.free && env.scope.kind == .function && env.kindOf n == some .cell) = true then (n, NameKind.cell) else (n, k)) :: _) = _ ∨ List.lookup x ((if (k == NameKind.free && env.scope.kind == .function && env.kindOf n == some .cell) = true then (n, NameKind.cell) else (n, k)) :: _) = _
  cases hx : x == n with
  | true =>
   simp only [List.lookup_cons, hx] at h
   cases h
   split <;> simp [List.lookup_cons, hx]
  | false =>
   simp only [List.lookup_cons, hx] at h
   split <;> (simp only [List.lookup_cons, hx]; exact ih h)
theorem relabel_back {env : Env} : ∀ {names : List (Str × NameKind)} {x : Str} {kd : NameKind}, (∀ y ∈ names, y.2 ≠ .cell) →
  (names.map fun (n, k) => if (k == NameKind.free && env.scope.kind == .function && env.kindOf n == some .cell) then (n, NameKind.cell) else (n, k)).lookup x = some kd → (kd = .cell ∨ kd = .free) → (x, NameKind.free) ∈ names
 | [], _, _, _, h, _ => by simp at h
 | (n, k) :: r, x, kd, hc, h, hk => by
  have ih := @relabel_back env r x kd fun y hy => hc y (List.mem_cons_of_mem _ hy)
  change List.lookup x ((if (k == NameKind.free && env.scope.kind == .function && env.kindOf n == some .cell) = true then (n, NameKind.cell) else (n, k)) :: _) = _ at h
  cases hx : x == n with
  | true =>
   have e : x = n := eq_of_beq hx
   subst e
   split at h
   ·rename_i hq
    rw [Bool.and_eq_true, Bool.and_eq_true] at hq
    have : k = .free := eq_of_beq hq.1.1
    subst this
    exact List.mem_cons_self ..
   ·simp only [List.lookup_cons, hx] at h
    cases h
    rcases hk with rfl | rfl
    ·exact absurd rfl (hc (x, .cell) (List.mem_cons_self ..))
    ·exact List.mem_cons_self ..
  | false =>
   split at h <;> (simp only [List.lookup_cons, hx] at h; exact List.mem_cons_of_mem _ (ih h hk))
noncomputable def innerS (σ : St) (fr : List (Str × Nat)) (v : Option V) : St := v :: fr.map fun y => (σ[y.2]?).join
noncomputable def visS : Option Sl → Option Sl
 | some (.v d) => some (.v d)
 | _ => none
noncomputable def innerD (δ : DS) (fr : List (Str × Nat)) (v : Option Sl) : DS := v :: fr.map fun y => visS (δ[y.2]?).join
theorem comp_ok {X : Cx} {pins : List (Addr × Obj)} {σ : St} {H : Hp} {s s' : Shared} {scope : Scope} {x : Str} {fr : List (Str × Nat)} {C : Addr} {fp : List Addr} {m : Str → Option Value} (c : CompOk X.env.scope scope X.N x fr) (I : Inv X pins σ H s) (hf : ∀ b ∈ fp, FpOk X pins H b) (hfl : ∀ b ∈ fp, b < s.heap.objs.size)
  (hC : C = s.heap.objs.size) (hk : ∀ b o, s.heap.get? b = some o → s'.heap.get? b = some o) (hos : s'.os = s.os) (hgn : s'.gens = s.gens) (hn : s'.heap.Ns C m) :
  Inv (compCx X scope x fr C s H fp) [] (innerS σ fr none) H s' := by
 have okX := I.ok
 have hfree : ∀ y ∈ scope.names, y.2 = .free → ∃ d, X.env.cells.lookup y.1 = some d := fun y hy e => okX.has y.1 (c.free y hy e)
 have hsub := clOf_sub (cells := X.env.cells) scope.names [] hfree (fun y d e => by cases e)
 have hCs : s.heap.objs.size ≤ C := by rw [hC]; exact Nat.le_refl _
 refine ⟨⟨okX.mod, c.kind, okX.glob, okX.blt, hCs, fun y z d h1 h2 => okX.inj y z d (hsub y d h1) (hsub z d h2), fun y hy => ?_, fun y d h _ => (by cases h), okX.hd, okX.frames, .inl rfl, fun b hb => ⟨?_, fun y d e z => ?_⟩, I.bs, Nat.le_trans okX.bsz I.sz, fun b o e hb => ?_, fun b hb hz => ?_, I.stack, I.stkFree⟩,
  hos, (by rw [hgn]; exact I.bare), Un.kept hk, ⟨m, hn, fun i y v h1 h2 h3 => ?_⟩, fun y d e => ?_, ?_, fun y d e => I.freeC y d (hsub y d e), fun p hp => (by cases hp), I.hok.kept hk, ?_⟩
 ·have hy' : ∃ kd, (relabel scope X.env).names.lookup y = some kd ∧ (kd = .cell ∨ kd = .free) := by
   rcases hy with h | h
   ·exact ⟨_, h, .inl rfl⟩
   ·exact ⟨_, h, .inr rfl⟩
  obtain ⟨kd, h1, h2⟩ := hy'
  have hm := relabel_back (env := X.env) c.cell h1 h2
  exact Option.isSome_iff_exists.mp (clOf_has scope.names [] y (.inl hm))
 ·exact Nat.ne_of_lt (Nat.lt_of_lt_of_le (hfl b hb) hCs)
 ·exact (hf b hb).2.2.2.2.1 y d (hsub y d e) z
 ·have hb' := hf b hb
  rcases hb'.2.2.2.1 with z | z
  ·exact okX.noex b o e z
  ·exact absurd (Nat.lt_of_lt_of_le (Heap.lt_size e) (Nat.le_trans okX.bsz z)) (Nat.lt_irrefl _)
 ·have := I.stkSub b hz
  rcases List.mem_cons.mp this with e | e
  ·exact (hf b hb).2.1 e
  ·exact (hf b hb).2.2.1 e
 ·cases i with
  | zero => cases h2
  | succ j =>
   have h1' : (fr.map (·.1))[j]? = some y := h1
   have h2' : (fr.map fun y => (σ[y.2]?).join)[j]? = some (some v) := h2
   rw [List.getElem?_map] at h1' h2'
   cases q : fr[j]? with
   | none => rw [q] at h1'; cases h1'
   | some z =>
    rw [q] at h1' h2'
    cases h1'
    obtain ⟨q1, q2, q3, q4⟩ := c.frs z (List.mem_of_getElem? q)
    have hσ : σ[z.2]? = some (some v) := by
     have : (σ[z.2]?).join = some v := by simpa using h2'
     cases e : σ[z.2]? with
     | none => rw [e] at this; cases this
     | some o => rw [e] at this; cases o with
      | none => cases this
      | some w => cases this; rfl
    have vis : Vis X.env.scope z.1 := by rcases q3 with k | k; exact .inr (.inl k); exact .inr (.inr k)
    obtain ⟨mX, hnX, hl⟩ := I.loc
    obtain ⟨u, r, l⟩ := hl z.2 z.1 v q4 hσ vis
    refine ⟨u, r, .inr ⟨lookup_relabel_free q1, ?_⟩⟩
    rcases l with ⟨k, _⟩ | ⟨k, d, hd, hcell⟩
    ·have k' : X.env.scope.names.lookup z.1 = some .local := k
     rcases q3 with q3 | q3 <;> (rw [q3] at k'; cases k')
    ·obtain ⟨d', hd'⟩ := Option.isSome_iff_exists.mp (clOf_has (cells := X.env.cells) scope.names [] z.1 (.inl q2))
     have e := hsub z.1 d' hd'
     rw [hd] at e; cases e
     obtain ⟨o, ho, hdt⟩ := hcell
     exact ⟨d, hd', o, hk d o ho, hdt⟩
 ·obtain ⟨v, o, ho, hd⟩ := I.cell y d (hsub y d e)
  exact ⟨v, o, hk d o ho, hd⟩
 ·show H C = none
  rw [hC]; exact I.hok.fresh (Nat.le_refl _)
 ·show (innerS σ fr none).length = (x :: fr.map (·.1)).length
  simp [innerS]
end M
set_option Elab.async false
set_option linter.all false
set_option maxRecDepth 100000
set_option maxHeartbeats 4000000
namespace M
open PySem PySem.Spec PyProof.Rows L2
set_option autoImplicit false
noncomputable def compL (elt : D → Rs D) (tst : D → Rs Bool) : List D → Rs (List D)
 | [] => .ok []
 | d :: ds => match tst d with
  | .ok true => match elt d with
   | .ok e => match compL elt tst ds with
    | .ok r => .ok (e :: r)
    | _ => .bad
   | _ => .bad
  | .ok false => compL elt tst ds
  | _ => .bad
structure CTn where
 prog : Program
 w : World
 A : Around
 env : Env
 elt : Expr
 tgt : Expr
 ifs : List Expr
 it : Value
 acc : Value
 R : Result → Shared → Prop
 K : Shared → Prop
noncomputable def CTn.e (t : CTn) : Value → Shared → Prop := notedBy (model t.prog t.w) t.A t.env fun e s' => t.R (.error e) s'
noncomputable def CTn.add (t : CTn) : Value → Shared → Prop := fun x s => wpAny (model t.prog t.w) t.A (call (.builtin "list.append") [t.acc, x]) (fun _ s' => t.K s') t.e s
noncomputable def CTn.el (t : CTn) : Bool → Shared → Prop := fun ok s => if ok = true then wpAny (model t.prog t.w) t.A (eval t.elt t.env) t.add t.e s else t.K s
noncomputable def CTn.ts (t : CTn) : Unit → Shared → Prop := fun _ s => wpAny (model t.prog t.w) t.A (forIn t.ifs true fun c r => if r = true then do let ok ← isTrue c t.env (eval c t.env); pure (ForInStep.yield ok) else pure (ForInStep.yield r)) t.el t.e s
noncomputable def CTn.tg (t : CTn) (v : Value) : Unit → Shared → Prop := fun _ s => wpAny (model t.prog t.w) t.A (assign t.tgt t.env v) t.ts t.e s
noncomputable def CTn.got (t : CTn) : Option Value → Shared → Prop := fun r s => match r with
 | none => t.R (.ok .next) s
 | some v => wpAny (model t.prog t.w) t.A (letOwnedTupleGo t.tgt t.it v) (t.tg v) t.e s
theorem comp_loop {prog : Program} {w : World} {A : Around} {R : Result → Shared → Prop} {s : Shared} {elt target iter : Expr} {ifs : List Expr} {scope : Scope} {pos : Pos} {it acc : Value} {env : Env} (I : Nat → Shared → Prop)
  (turn : ∀ n s, I n s → wpAny (model prog w) A (pyNext it) (CTn.got ⟨prog, w, A, env, elt, target, ifs, it, acc, R, fun s' => ∃ m, m < n ∧ I m s'⟩) (CTn.e ⟨prog, w, A, env, elt, target, ifs, it, acc, R, fun s' => ∃ m, m < n ∧ I m s'⟩) s)
  (n : Nat) (h : I n s) : codeAny (model prog w) A (.compLoop (.ListComp elt [⟨target, iter, ifs, 0⟩] scope pos) 0 it acc env) R s := by
 refine codeAny_loop rfl I (fun n s hI => ?_) n h
 show wpAny _ A ((compTurn (.ListComp elt [⟨target, iter, ifs, 0⟩] scope pos) 0 it acc env).onRaise (fun x => do noteFrame x env; theTreesLotGoes x)) _ _ s
 refine wpAny_noted ?_
 rw [compTurn_list]
 refine wpAny_bind (wpAny_standAt (wpAny_bind (wpAny_mono (turn n s hI) (fun r s₁ h₁ => ?_) fun _ _ h' => h')))
 cases r with
 | none => exact wpAny_pure h₁
 | some v =>
  refine wpAny_bind (wpAny_mono h₁ (fun _ s₀ h₀ => ?_) fun _ _ h' => h')
  refine wpAny_bind (wpAny_mono h₀ (fun _ s₂ h₂ => wpAny_bind (wpAny_mono h₂ (fun ok s₃ h₃ => ?_) fun _ _ h' => h')) fun _ _ h' => h')
  cases ok with
  | false => exact wpAny_pure ⟨rfl, h₃⟩
  | true =>
   exact wpAny_bind (wpAny_bind (wpAny_mono h₃ (fun x s₄ h₄ => wpAny_bind (wpAny_mono h₄ (fun _ s₅ h₅ => wpAny_pure (wpAny_pure ⟨rfl, h₅⟩)) fun _ _ h' => h')) fun _ _ h' => h'))
inductive Tst (X : Cx) (scope : Scope) (x : Str) (fr : List (Str × Nat)) : List Expr → (DS → Rs Bool) → Prop
 | nil : Tst X scope x fr [] fun _ => .ok true
 | one {c : Expr} {g : DS → Rs Bool} (h : ∀ C s₀ H₀ fp B G₀, PT (compCx X scope x fr C s₀ H₀ fp) c (tT (compCx X scope x fr C s₀ H₀ fp) B G₀ g)) : Tst X scope x fr [c] g
theorem Tst.run {X : Cx} {scope : Scope} {x : Str} {fr : List (Str × Nat)} {ifs : List Expr} {g : DS → Rs Bool} (h : Tst X scope x fr ifs g) {C : Addr} {s₀ : Shared} {H₀ : Hp} {fp : List Addr} {pins : List (Addr × Obj)} {s : Shared} {σ : St} {B G₀ H G : Hp} {δ : DS} {b : Bool} {Q : Bool → Shared → Prop}
  (I : Inv (compCx X scope x fr C s₀ H₀ fp) pins σ H s) (R : Rel (compCx X scope x fr C s₀ H₀ fp) B G₀ σ H G δ) (e : g δ = .ok b) (hQ : ∀ s' H' G', Inv (compCx X scope x fr C s₀ H₀ fp) pins σ H' s' → Ext H G H' G' → Q b s') :
  wpAny (model X.prog X.w) X.A (forIn ifs true fun c r => if r = true then do let ok ← isTrue c (compCx X scope x fr C s₀ H₀ fp).env (eval c (compCx X scope x fr C s₀ H₀ fp).env); pure (ForInStep.yield ok) else pure (ForInStep.yield r)) Q (fun _ _ => False) s := by
 cases h with
 | nil =>
  cases e
  exact wpAny_tests_nil (hQ s H G I (Ext.refl R.ext.gh))
 | one h =>
  refine wpAny_tests_one (thn (h C s₀ H₀ fp B G₀ pins s σ H (fun b' H' => b' = b ∧ ∃ G', Ext H G H' G') I ⟨G, δ, R, ?_⟩) fun b' s' ⟨H', I', e1, G', e2⟩ => ?_)
  ·rw [e]; exact fun H' G' e => ⟨rfl, G', e⟩
  ·subst e1; exact hQ s' H' G' I' e2
noncomputable def bigR (ds : List D) (r : Rs (List D)) : Rs D := if ds.length ≤ 1000000 then (match r with
 | .ok es => .ok (.lst es)
 | _ => .bad) else .bad
theorem rel_inner {X : Cx} {B G₀ : Hp} {σ : St} {H G H1 G1 : Hp} {δ : DS} {Y : Cx} (hK : Y.K = X.K) (R : Rel X B G₀ σ H G δ) (gg : Same G G1) (gh : Same G1 H1) (fr : List (Str × Nat)) {d : D} {v : V} (hv : Is X.K G1 d v) : Rel Y (fun _ => none) G1 (innerS σ fr (some v)) H1 G1 (innerD δ fr (some (.v d))) := by
 have at_ : ∀ (j : Nat) (e : Sl), (innerD δ fr (some (.v d)))[j + 1]? = some (some e) → ∃ z d', fr[j]? = some z ∧ e = .v d' ∧ δ[z.2]? = some (some (.v d')) := fun j e q => by
  have q' : (fr.map fun y => visS (δ[y.2]?).join)[j]? = some (some e) := q
  rw [List.getElem?_map] at q'
  cases qz : fr[j]? with
  | none => rw [qz] at q'; cases q'
  | some z =>
   rw [qz] at q'
   have q2 : visS (δ[z.2]?).join = some e := by simpa using q'
   cases e1 : δ[z.2]? with
   | none => rw [e1] at q2; cases q2
   | some o =>
    rw [e1] at q2
    cases o with
    | none => cases q2
    | some sl =>
     cases sl with
     | v d' => cases q2; exact ⟨z, d', rfl, rfl, e1⟩
     | ow k ds => cases q2
 refine ⟨⟨fun b o e => (by cases e), Same.refl _, gh, fun _ _ e => .inl e⟩, by simp [innerS, innerD], fun i d' q => ?_, fun i kA ds q => ?_, fun i j kB kC ds es a q1 _ _ _ => ?_⟩
 ·cases i with
  | zero => cases q; exact ⟨v, rfl, by rw [hK]; exact hv⟩
  | succ j =>
   obtain ⟨z, d2, h1, h2, h3⟩ := at_ j _ q
   cases h2
   obtain ⟨w, e1, e2⟩ := R.val z.2 _ h3
   refine ⟨w, ?_, by rw [hK]; exact e2.same gg⟩
   show (fr.map fun y => (σ[y.2]?).join)[j]? = some (some w)
   rw [List.getElem?_map, h1]
   simp [e1]
 ·cases i with
  | zero => cases q
  | succ j => obtain ⟨z, d2, h1, h2, h3⟩ := at_ j _ q; cases h2
 ·cases i with
  | zero => cases q1
  | succ j => obtain ⟨z, d2, h1, h2, h3⟩ := at_ j _ q1; cases h2
structure COk (X : Cx) (pins : List (Addr × Obj)) (H : Hp) (C : Addr) : Prop where
 a : X.s₀.heap.objs.size ≤ C
 b : C ≠ X.env.locals
 c : ∀ x c, X.env.cells.lookup x = some c → c ≠ C
 d : ∀ p ∈ X.pn ++ pins, p.1 ≠ C
 e : H C = none
theorem inv_offC {X : Cx} {pins : List (Addr × Obj)} {σ : St} {H : Hp} {s : Shared} {C : Addr} {h7 : Heap} (I : Inv X pins σ H s) (k : COk X pins H C) (sb : Heap.SameBut C s.heap h7) : Inv X pins σ H { s with heap := h7 } := by
 have kp : ∀ b o, b ≠ C → s.heap.get? b = some o → h7.get? b = some o := fun b o hb e => (sb.2 b hb).trans e
 have un : Un (frs X.stack) [C] H H s.heap h7 := by
  refine ⟨fun b o e n hb hx => kp b o (fun z => hx (by simp [z])) e, fun b o e n hb hx => ⟨o.slots, kp b o (fun z => hx (by simp [z])) e⟩, fun b o e n _ => n, fun b o e hx => ⟨o, kp b o (fun z => hx (by simp [z])) e⟩, fun _ _ q => q, fun _ _ _ q => q, fun _ ps q => ⟨#[], by rw [q]; simp⟩⟩
 have hok : HOk X.prog X.w H h7 := fun b ob e => by
  refine (I.hok b ob e).stay (fun d o hd q => kp d o ?_ q) (fun _ q => q) fun _ _ q => q
  rintro rfl
  rcases hd with z | z
  ·rw [← z, k.e] at e; cases e
  ·rw [k.e] at z; cases z
 exact I.call' (s' := { s with heap := h7 }) rfl un hok I.bare fun b hb => by
  rw [List.mem_singleton.mp hb]
  exact ⟨.inr k.a, k.b, k.c, k.d⟩
inductive CompI (X : Cx) (Y : Cx) (fp : List Addr) (tn : Nat → Heap → Prop) (inn : Option V → St) (cl : List D → Rs (List D)) (H2 G2 : Hp) (Dl : Addr) (ds all : List D) (n : Nat) (s' : Shared) : Prop
 | mk (k : Nat) (vx : Option V) (H' G' : Hp) (ys : List V) (es rest : List D) (h1 : k ≤ ds.length) (h2 : n = ds.length - k) (h3 : Inv Y [] (inn vx) H' s') (h4 : tn k s'.heap) (h5 : ∀ b ∈ fp, H' b = none)
   (h6 : Ext H2 G2 H' G') (h7 : G' Dl = none) (h8 : H' Dl = some (.lst ys)) (h9 : IsL X.K G' es ys) (h10 : es.length ≤ k) (h11 : cl (ds.drop k) = .ok rest) (h12 : all = es ++ rest)
theorem comp_genO {X : Cx} {B G₀ : Hp} {elt iter : Expr} {x : Str} {px : Pos} {ifs : List Expr} {scope sc : Scope} {N : List Str} {pos : Pos} {f : DS → Rs (List D)} {fe : DS → Rs D} {gt : DS → Rs Bool} (fr : List (Str × Nat)) (hok : compOk sc scope N x fr = true) (hsc : X.env.scope = sc) (hN : X.N = N) (hcalm : X.calm = true)
  (hi : PI X (.Name x px) iter (tI X B G₀ f)) (ht : Tst X scope x fr ifs gt) (he : ∀ C s₀ H₀ fp B' G', PE (compCx X scope x fr C s₀ H₀ fp) elt (tE (compCx X scope x fr C s₀ H₀ fp) B' G' fe))
  (hs : ∀ x, foldedSetIterable iter X.env x = pure x)
  {use : Option (Value → Sem Unit)} {Post : Value → Shared → Prop} {Pd : D → Prop} {pins : List (Addr × Obj)} {s : Shared} {σ : St} {H G : Hp} {δ : DS} (I : Inv X pins σ H s) (R : Rel X B G₀ σ H G δ)
  (hw : (f δ >>= fun ds => bigR ds (compL (fun d => fe (innerD δ fr (some (.v d)))) (fun d => gt (innerD δ fr (some (.v d)))) ds)).wp (fun c => Xo X c σ H G) Pd)
  (fin : ∀ (ds' : List D) (ys : List V) (C Dl : Addr) (m : Str → Option Value) (s6 : Shared) (H5 G5 : Hp) (r : Flow), Pd (.lst ds') → Inv X pins σ H5 s6 → s6.heap.Ns C m → COk X pins H5 C → H Dl = none → Ext H G H5 G5 → G5 Dl = none → H5 Dl = some (.lst ys) → ys.length ≤ sizeLine → IsL X.K G5 ds' ys → compPost (model X.prog X.w) X.A X.xe use Post (.ref Dl) C (.ok r) s6) :
  wpAny (model X.prog X.w) X.A (comprehension (.ListComp elt [⟨.Name x px, iter, ifs, 0⟩] scope pos) scope X.env (firstIterPos [⟨.Name x px, iter, ifs, 0⟩] pos) (newList []) (firstAsync [⟨.Name x px, iter, ifs, 0⟩]) (firstIter [⟨.Name x px, iter, ifs, 0⟩] X.env) use) Post X.xe s := by
 subst hsc; subst hN
 have c := CompOk.of hok
 have hfree : ∀ y ∈ scope.names, y.2 = .free → ∃ d, X.env.cells.lookup y.1 = some d := fun y hy e => I.ok.has y.1 (c.free y hy e)
 refine wpAny_comprehension_free (use := use) rfl hs (closureFor_cl hfree) c.kind c.loc ?_
 show wpAny (model X.prog X.w) X.A (eval iter X.env) _ X.xe s
 rw [wp_bind] at hw
 refine thn (hi pins s σ H (fun J H2 => ∃ G2 ds, Ext H G H2 G2 ∧ ItD X J ds G2 ∧ (bigR ds (compL (fun d => fe (innerD δ fr (some (.v d)))) (fun d => gt (innerD δ fr (some (.v d)))) ds)).wp (fun c => Xo X c σ H G) Pd) I
  ⟨G, δ, R, Rs.wp.mono hw (fun _ x => x) fun ds q J H2 G2 e2 hJ => ⟨G2, ds, e2, hJ, q⟩⟩) fun v1 s1 h1 => thn h1 fun itv s2 h2 => ?_
 obtain ⟨it, fp, tn, J, H2, e, I2, T, st2, f2, G2, ds, e2, hJ, hq⟩ := h2
 subst e
 have hq : ds.length ≤ 1000000 ∧ ∃ all, compL (fun d => fe (innerD δ fr (some (.v d)))) (fun d => gt (innerD δ fr (some (.v d)))) ds = .ok all ∧ Pd (.lst all) := by
  unfold bigR at hq
  split at hq
  ·rename_i hl
   refine ⟨hl, ?_⟩
   cases e : compL (fun d => fe (innerD δ fr (some (.v d)))) (fun d => gt (innerD δ fr (some (.v d)))) ds with
   | ok all => rw [e] at hq; exact ⟨all, rfl, hq⟩
   | exc c => rw [e] at hq; exact hq.elim
   | bad => rw [e] at hq; exact hq.elim
  ·exact hq.elim
 obtain ⟨hlen, all, hall, hq⟩ := hq
 refine wpAny_newObj_type ?_ (Nat.zero_le _)
 generalize hD : s2.heap.objs.size = Dl
 have I3 : Inv X pins σ (upd H2 Dl (.lst [])) { s2 with heap := s2.heap.push { cls := .type "list", dict := none, data := .seq ([] : List Value).toArray } } := by
  have := I2.lnew (ys := []) (its := []) (t' := s2.toks) .nil (Nat.zero_le _)
  rw [hD] at this
  exact this
 have hDn : H2 Dl = none := by rw [← hD]; exact I2.hok.fresh (Nat.le_refl _)
 generalize hs3 : ({ s2 with heap := s2.heap.push { cls := .type "list", dict := none, data := .seq ([] : List Value).toArray } } : Shared) = s3 at I3 ⊢
 have k23 : ∀ b o, s2.heap.get? b = some o → s3.heap.get? b = some o := fun b o e => by rw [← hs3]; exact Heap.get?_push_of_some _ e
 have f3 : ∀ b ∈ fp, FpOk X pins (upd H2 Dl (.lst [])) b := fun b hb => by
  obtain ⟨q0, q1, q2, q3, q4, q5⟩ := f2 b hb
  obtain ⟨o, ho, _⟩ := T.obj 0 _ st2 b hb
  refine ⟨?_, q1, q2, q3, q4, q5⟩
  rw [upd_ne (by rw [← hD]; exact Nat.ne_of_lt (Heap.lt_size ho))]
  exact q0
 have hfl : ∀ b ∈ fp, b < s3.heap.objs.size := fun b hb => by
  obtain ⟨o, ho, _⟩ := T.obj 0 _ st2 b hb
  exact Heap.lt_size (k23 b o ho)
 refine wpAny_newFunctionEnv c.cell (by intro y hy; cases hy) (fun h' hns hsb => ?_) c.kind
 have k34 : ∀ b o, s3.heap.get? b = some o → h'.get? b = some o := fun b o e => hsb.extBut b o (Nat.ne_of_lt (Heap.lt_size e)) (Heap.get?_push_of_some _ e)
 generalize hCd : s3.heap.objs.size = C at hns hsb
 show codeAny (model X.prog X.w) X.A (.compStart _ 0 (.ref it) (.ref Dl) (compEnvC scope (clOf X.env.cells scope.names []) C X.env)) _ _
 have IY : Inv (compCx X scope x fr C s3 (upd H2 Dl (.lst [])) fp) [] (innerS σ fr none) (upd H2 Dl (.lst [])) { s3 with heap := h', toks := s3.toks + ([] : List (Str × Value)).length } :=
  comp_ok c I3 f3 hfl hCd.symm k34 rfl rfl hns
 have st4 : tn 0 h' := T.keep 0 _ _ st2 fun b hb o e => k34 b o (k23 b o e)
 generalize hs4 : ({ s3 with heap := h', toks := s3.toks + ([] : List (Str × Value)).length } : Shared) = s4 at IY ⊢
 have st4 : tn 0 s4.heap := by rw [← hs4]; exact st4
 have loop : codeAny (model X.prog X.w) X.A (.compLoop (.ListComp elt [⟨.Name x px, iter, ifs, 0⟩] scope pos) 0 (.ref it) (.ref Dl) (compEnvC scope (clOf X.env.cells scope.names []) C X.env)) (compPost (model X.prog X.w) X.A X.xe use Post (.ref Dl) C) s4 := by
  refine comp_loop (CompI X (compCx X scope x fr C s3 (upd H2 Dl (.lst [])) fp) fp tn (innerS σ fr) (compL (fun d => fe (innerD δ fr (some (.v d)))) (fun d => gt (innerD δ fr (some (.v d))))) H2 G2 Dl ds all) ?_ ds.length
   ⟨0, none, _, G2, [], [], all, Nat.zero_le _, rfl, IY, st4, fun b hb => (f3 b hb).1, Ext.own e2.gh hDn, e2.gh.free hDn, upd_same, rfl, Nat.le_refl _, hall, rfl⟩
  rintro n s5 ⟨k, vx, H5, G5, ys, es, rest, hk, rfl, I5, st5, fr5, e5, gD5, hD5, hL5, hz5, hr5, ha5⟩
  have f5 : ∀ {H' : Hp}, (∀ b ∈ fp, H' b = none) → ∀ {pins' : List (Addr × Obj)}, (∀ p ∈ pins', p.1 ∉ fp) → ∀ b ∈ fp, FpOk (compCx X scope x fr C s3 (upd H2 Dl (.lst [])) fp) pins' H' b := fun {H'} hn {pins'} hp b hb => by
   obtain ⟨q1, q2⟩ := IY.ok.exf b hb
   exact ⟨hn b hb, q1, IY.ok.exfs b hb, .inl hb, q2, fun p hp' z => hp p (by simpa [compCx] using hp') (z ▸ hb)⟩
  have nopins : ∀ p ∈ ([] : List (Addr × Obj)), p.1 ∉ fp := fun p hp => by cases hp
  obtain ⟨j1, j2⟩ := hJ H5 G5 e5.gg e5.gh
  by_cases hlt : k < ds.length
  ·have hd : ds[k]? = some ds[k] := List.getElem?_eq_getElem hlt
   obtain ⟨go, yl⟩ := j1 k _ hd
   rw [List.drop_eq_getElem_cons hlt] at hr5
   refine wpAny_mono (T.item (compCx X scope x fr C s3 (upd H2 Dl (.lst [])) fp) rfl rfl rfl hcalm k [] s5 _ H5 (fun _ _ => False) I5 (f5 fr5 nopins) st5 go) (fun r s6 ⟨u, hr, h6⟩ => ?_) fun _ _ z => z.elim
   subst hr
   refine wpAny_mono h6 (fun _ s7 ⟨xv, H7, I7, r7, y7, st7, fr7⟩ => ?_) fun _ _ z => z.elim
   obtain ⟨G7, e7, i7⟩ := yl xv H7 y7
   have I7' := I7.pinned (f5 fr7 nopins) (T.obj _ _ st7)
   have hg : PG (compCx X scope x fr C s3 (upd H2 Dl (.lst [])) fp) (.Name x px) (gName 0) := pg_name c.nd rfl (.inl (lookup_relabel_local c.hx)) (.inr (lookup_relabel_local c.hx))
   refine wpAny_mono (hg _ s7 _ H7 xv u (fun σ' H' => σ' = innerS σ fr (some xv) ∧ H' = H7) I7' r7 ⟨by simp [innerS], rfl⟩) (fun _ s8 ⟨σ8, H8, I8, hσ8, hH8⟩ => ?_) fun _ _ z => z.elim
   subst hσ8; subst hH8
   have R8 := rel_inner (X := X) (Y := compCx X scope x fr C s3 (upd H2 Dl (.lst [])) fp) rfl (R.mono e2) (e5.gg.trans e7.gg) e7.gh fr i7
   unfold compL at hr5
   have done : ∀ {s9 : Shared} {H9 G9 : Hp} {ys9 : List V} {es9 : List D}, Inv (compCx X scope x fr C s3 (upd H2 Dl (.lst [])) fp) ([] ++ pinsAt fp s7.heap) (innerS σ fr (some xv)) H9 s9 → Ext H2 G2 H9 G9 → G9 Dl = none → H9 Dl = some (.lst ys9) → IsL X.K G9 es9 ys9 → es9.length ≤ k + 1 → ∀ rest9,
     compL (fun d => fe (innerD δ fr (some (.v d)))) (fun d => gt (innerD δ fr (some (.v d)))) (ds.drop (k + 1)) = .ok rest9 → all = es9 ++ rest9 → ∃ m, m < ds.length - k ∧ CompI X (compCx X scope x fr C s3 (upd H2 Dl (.lst [])) fp) fp tn (innerS σ fr) (compL (fun d => fe (innerD δ fr (some (.v d)))) (fun d => gt (innerD δ fr (some (.v d))))) H2 G2 Dl ds all m s9 := fun {s9 H9 G9 ys9 es9} I9 x1 x2 x3 x4 x5 rest9 x6 x7 => by
    refine ⟨ds.length - (k + 1), by omega, k + 1, some xv, H9, G9, ys9, es9, rest9, hlt, rfl, I9.unpinned, T.keep _ _ _ st7 fun b hb o e => (I9.pin (b, o) (List.mem_append_right _ (List.mem_append_right _ (mem_pinsAt hb e)))).1, fun b hb => ?_, x1, x2, x3, x4, x5, x6, x7⟩
    obtain ⟨o, e, d⟩ := T.obj _ _ st7 b hb
    exact (I9.pin (b, o) (List.mem_append_right _ (List.mem_append_right _ (mem_pinsAt hb e)))).2.1
   have keepD : ∀ {Ha Ga Hb Gb : Hp}, Ext Ha Ga Hb Gb → Ga Dl = none → (∃ o, Ha Dl = some o) → Gb Dl = none := fun {Ha Ga Hb Gb} e g ⟨o, h⟩ => by
    cases q : Gb Dl with
    | none => rfl
    | some z =>
     rcases e.new Dl z q with w | w
     ·rw [g] at w; cases w
     ·rw [h] at w; cases w
   have e57 := e5.trans e7
   have gD7 := keepD e7 gD5 ⟨_, hD5⟩
   have hD7 := e7.hh _ _ hD5
   cases qt : gt (innerD δ fr (some (.v ds[k]))) with
   | exc cc => rw [qt] at hr5; cases hr5
   | bad => rw [qt] at hr5; cases hr5
   | ok b =>
    rw [qt] at hr5
    refine wpAny_mono (ht.run I8 R8 qt (Q := fun ok s9 => ok = b ∧ ∃ H9 G9, Inv (compCx X scope x fr C s3 (upd H2 Dl (.lst [])) fp) ([] ++ pinsAt fp s7.heap) (innerS σ fr (some xv)) H9 s9 ∧ Ext H8 G7 H9 G9) fun s9 H9 G9 I9 e9 => ⟨rfl, H9, G9, I9, e9⟩) (fun ok s9 ⟨hok9, H9, G9, I9, e9⟩ => ?_) fun _ _ z => z.elim
    subst hok9
    have gD9 := keepD e9 gD7 ⟨_, hD7⟩
    have hD9 := e9.hh _ _ hD7
    cases ok with
    | false => exact done I9 (e57.trans e9) gD9 hD9 (hL5.same (e7.gg.trans e9.gg)) (by omega) rest hr5 ha5
    | true =>
     dsimp only at hr5
     cases qe : fe (innerD δ fr (some (.v ds[k]))) with
     | exc cc => rw [qe] at hr5; cases hr5
     | bad => rw [qe] at hr5; cases hr5
     | ok ev =>
      rw [qe] at hr5
      dsimp only at hr5
      cases qr : compL (fun d => fe (innerD δ fr (some (.v d)))) (fun d => gt (innerD δ fr (some (.v d)))) (ds.drop (k + 1)) with
      | exc cc => rw [qr] at hr5; cases hr5
      | bad => rw [qr] at hr5; cases hr5
      | ok rest9 =>
       rw [qr] at hr5
       cases hr5
       have R9 := R8.mono e9
       refine wpAny_mono (he C s3 (upd H2 Dl (.lst [])) fp (fun _ => none) G7 _ s9 _ H9 (fun v H' => ∃ G', Ext H9 G9 H' G' ∧ Is X.K G' ev v) I9 ⟨G9, _, R9, ?_⟩) (fun yv s10 ⟨v10, H10, I10, r10, G10, e10, i10⟩ => ?_) fun _ _ z => z.elim
       ·rw [qe]; exact fun v H' G' e i => ⟨G', e, i⟩
       have hD10 := e10.hh _ _ hD9
       have gD10 := keepD e10 gD9 ⟨_, hD9⟩
       have hl10 : ys.length < sizeLine := by
        have := hL5.length
        have h1 : (1000000 : Nat) < sizeLine := by decide
        omega
       refine wpAny_mono (mt_append (X := compCx X scope x fr C s3 (upd H2 Dl (.lst [])) fp) _ s10 _ H10 (.ref Dl) [v10] (.ref Dl) [yv] (fun _ H' => H' = upd H10 Dl (.lst (ys ++ [v10]))) I10 rfl (.cons r10 .nil) ⟨Dl, ys, v10, rfl, rfl, hD10, hl10, rfl⟩) (fun _ s11 ⟨_, H11, I11, _, hH11⟩ => ?_) fun _ _ z => z.elim
       subst hH11
       have e210 := (e57.trans e9).trans e10
       have e11 : Ext H2 G2 (upd H10 Dl (.lst (ys ++ [v10]))) G10 := ⟨fun b o q => by rw [upd_ne (ne_of_none q hDn)]; exact e210.hh b o q, e210.gg, fun b o q => by rw [upd_ne (ne_of_none q gD10)]; exact e210.gh b o q, e210.new⟩
       refine done I11 e11 gD10 upd_same ((hL5.same (e7.gg.trans (e9.gg.trans e10.gg))).append (IsL.one i10)) ?_ rest9 qr ?_
       ·rw [List.length_append]; simp only [List.length_singleton]; omega
       ·rw [ha5]; simp
  ·have hkl : k = ds.length := by omega
   subst hkl
   refine wpAny_mono (T.done (compCx X scope x fr C s3 (upd H2 Dl (.lst [])) fp) rfl rfl rfl hcalm _ [] s5 _ H5 (fun _ _ => False) I5 (f5 fr5 nopins) st5 j2) (fun r s6 ⟨hr, I6⟩ => ?_) fun _ _ z => z.elim
   subst hr
   rw [List.drop_length] at hr5
   cases hr5
   rw [List.append_nil] at ha5
   subst ha5
   obtain ⟨m6, hn6, _⟩ := I6.loc
   have lt3 : ∀ b o, s3.heap.get? b = some o → b ≠ C := fun b o e => by rw [← hCd]; exact Nat.ne_of_lt (Heap.lt_size e)
   have hCn : H5 C = none := I6.free
   have I7 : Inv X pins σ H5 s6 := I3.call' (s' := s6) I6.os I6.base I6.hok I6.bare fun b hb => by
    obtain ⟨q0, q1, q2, q3, q4, q5⟩ := f3 b hb
    exact ⟨q3, q1, q4, q5⟩
   have cok : COk X pins H5 C := by
    refine ⟨Nat.le_trans I3.sz (Nat.le_of_eq hCd), ?_, fun y c hc => ?_, fun p hp => ?_, hCn⟩
    ·obtain ⟨m3, hm3, _⟩ := I3.loc
     rw [← hCd]; exact Nat.ne_of_gt hm3.lt
    ·obtain ⟨w, hc3⟩ := I3.cell y c hc
     obtain ⟨o, ho, _⟩ := hc3
     exact lt3 c o ho
    ·exact lt3 p.1 p.2 (I3.pin p hp).1
   have gh5 := e5.gh
   refine fin _ ys C Dl m6 s6 H5 G5 _ hq I7 hn6 cok (e2.hh.free hDn) (e2.trans e5) gD5 hD5 ?_ hL5
   have := hL5.length
   have h1 : (1000000 : Nat) < sizeLine := by decide
   omega
 exact codeAny_compStart_list loop (T.self X.A 0 s4 _ _ st4 loop)
theorem comp_gen {X : Cx} {B G₀ : Hp} {elt iter : Expr} {x : Str} {px : Pos} {ifs : List Expr} {scope sc : Scope} {N : List Str} {pos : Pos} {f : DS → Rs (List D)} {fe : DS → Rs D} {gt : DS → Rs Bool} (fr : List (Str × Nat)) (hok : compOk sc scope N x fr = true) (hsc : X.env.scope = sc) (hN : X.N = N) (hcalm : X.calm = true)
  (hi : PI X (.Name x px) iter (tI X B G₀ f)) (ht : Tst X scope x fr ifs gt) (he : ∀ C s₀ H₀ fp B' G', PE (compCx X scope x fr C s₀ H₀ fp) elt (tE (compCx X scope x fr C s₀ H₀ fp) B' G' fe))
  (hs : ∀ x, foldedSetIterable iter X.env x = pure x)
  {use : Option (Value → Sem Unit)} {Post : Value → Shared → Prop} {Pd : D → Prop} {pins : List (Addr × Obj)} {s : Shared} {σ : St} {H G : Hp} {δ : DS} (I : Inv X pins σ H s) (R : Rel X B G₀ σ H G δ)
  (hw : (f δ >>= fun ds => bigR ds (compL (fun d => fe (innerD δ fr (some (.v d)))) (fun d => gt (innerD δ fr (some (.v d)))) ds)).wp (fun c => Xo X c σ H G) Pd)
  (fin : ∀ (d : D) (C Dl : Addr) (m : Str → Option Value) (s6 : Shared) (H5 G5 : Hp) (r : Flow), Pd d → Inv X pins σ H5 s6 → s6.heap.Ns C m → COk X pins H5 C → Ext H G H5 G5 → Is X.K G5 d (.ref Dl) → compPost (model X.prog X.w) X.A X.xe use Post (.ref Dl) C (.ok r) s6) :
  wpAny (model X.prog X.w) X.A (comprehension (.ListComp elt [⟨.Name x px, iter, ifs, 0⟩] scope pos) scope X.env (firstIterPos [⟨.Name x px, iter, ifs, 0⟩] pos) (newList []) (firstAsync [⟨.Name x px, iter, ifs, 0⟩]) (firstIter [⟨.Name x px, iter, ifs, 0⟩] X.env) use) Post X.xe s := by
 refine comp_genO fr hok hsc hN hcalm hi ht he hs I R hw fun ds' ys C Dl m s6 H5 G5 r hq I7 hn cok h0 e gD hD hz hL => ?_
 refine fin _ C Dl m s6 H5 (upd G5 Dl (.lst ys)) r hq I7 hn cok ⟨e.hh, e.gg.trans (same_upd gD _), fun b o q => ?_, fun b o q => ?_⟩ ⟨Dl, ys, rfl, .of upd_same, hz, hL.same (same_upd gD _)⟩
 ·by_cases hb : b = Dl
  ·subst hb; rw [upd_same] at q; cases q; exact hD
  ·rw [upd_ne hb] at q; exact e.gh b o q
 ·by_cases hb : b = Dl
  ·subst hb; exact .inr h0
  ·rw [upd_ne hb] at q; exact e.new b o q
theorem pd_comp {X : Cx} {B G₀ : Hp} {elt iter : Expr} {x : Str} {px : Pos} {ifs : List Expr} {scope sc : Scope} {N : List Str} {pos : Pos} {f : DS → Rs (List D)} {fe : DS → Rs D} {gt : DS → Rs Bool} (fr : List (Str × Nat)) (hok : compOk sc scope N x fr = true) (hsc : X.env.scope = sc) (hN : X.N = N) (hcalm : X.calm = true)
  (hi : PI X (.Name x px) iter (tI X B G₀ f)) (ht : Tst X scope x fr ifs gt) (he : ∀ C s₀ H₀ fp B' G', PE (compCx X scope x fr C s₀ H₀ fp) elt (tE (compCx X scope x fr C s₀ H₀ fp) B' G' fe))
  (hs : ∀ x, foldedSetIterable iter X.env x = pure x := by intro _; rfl) :
  PE X (.ListComp elt [⟨.Name x px, iter, ifs, 0⟩] scope pos) (tE X B G₀ fun δ => f δ >>= fun ds => bigR ds (compL (fun d => fe (innerD δ fr (some (.v d)))) (fun d => gt (innerD δ fr (some (.v d)))) ds)) := by
 intro pins s σ H Q I ⟨G, δ, R, hw⟩
 rw [eval_ListComp]
 refine comp_gen (use := none) fr hok hsc hN hcalm hi ht he hs I R hw fun d C Dl m s6 H5 G5 r hq I6 hn k e5 i5 => ?_
 exact ⟨m, hn, fun h7 sb7 => ⟨.ref Dl, H5, inv_offC I6 k sb7, rfl, hq _ H5 G5 e5 i5⟩⟩
end M
set_option Elab.async false
set_option linter.all false
set_option maxRecDepth 100000
set_option maxHeartbeats 4000000
namespace M
open PySem PySem.Spec PyProof.Rows L2
set_option autoImplicit false
noncomputable def vsl (d : D) : Option Sl := some (.v d)
noncomputable def fin : Out → Rs D
 | .nx _ => .ok .non
 | .rt d => .ok d
 | _ => .bad
noncomputable def fnR (n m : Nat) (F : DS → Out) (ds : List D) : Rs D := if ds.length = n then fin (F (ds.map vsl ++ List.replicate m none)) else .bad
noncomputable def spD (K : PySem.W.Frag) (g : List D → Rs D) (n : Nat) : Sp := fun vs H Q _ => ∃ G ds, Same G H ∧ IsL K G ds vs ∧ ds.length = n ∧ (g ds).wp (fun _ => False) fun d => ∀ v H' G', Ext H G H' G' → Is K G' d v → Q v H'
theorem rel_start {X : Cx} {H G : Hp} {ds : List D} {vs : List V} (gh : Same G H) (i : IsL X.K G ds vs) (m : Nat) : Rel X H G (vs.map some ++ List.replicate m none) H G (ds.map vsl ++ List.replicate m none) := by
 have hl := i.length
 have key : ∀ (j : Nat) (e : Sl), (ds.map vsl ++ List.replicate m none)[j]? = some (some e) → ∃ d, ds[j]? = some d ∧ e = .v d := fun j e q => by
  by_cases hj : j < ds.length
  ·rw [List.getElem?_append_left (by simpa using hj), List.getElem?_map, List.getElem?_eq_getElem hj] at q
   cases q
   exact ⟨_, List.getElem?_eq_getElem hj, rfl⟩
  ·rw [List.getElem?_append_right (by simpa using Nat.not_lt.mp hj), List.getElem?_replicate] at q
   split at q <;> cases q
 refine ⟨Ext.refl gh, by simp [hl], fun j d q => ?_, fun j kA es q => ?_, fun j k kB kC es fs a q _ _ _ => ?_⟩
 ·obtain ⟨d', h1, h2⟩ := key j _ q
  cases h2
  obtain ⟨v, e1, e2⟩ := i.get h1
  refine ⟨v, ?_, e2⟩
  have hj : j < vs.length := (List.getElem?_eq_some_iff.mp e1).1
  rw [List.getElem?_append_left (by simpa using hj), List.getElem?_map, e1]; rfl
 ·obtain ⟨d', h1, h2⟩ := key j _ q; cases h2
 ·obtain ⟨d', h1, h2⟩ := key j _ q; cases h2
structure Fn (P : Program) (w : World) (K : PySem.W.Frag) (mg : Str → Option Value) (base : Heap) (x : Str) (k n : Nat) (g : List D → Rs D) : Prop where
 ex : ∃ (f : Addr) (fd : FuncData) (ps : List Str), FnOk P w K mg base CX0 k f fd ps (spD K g n) ∧ Binds K fd ps [] ∧ mg x = some (.ref f) ∧ PySem.W.keepIn K (.ref f) = true
 len : ∀ ds, ds.length ≠ n → g ds = .bad
 ne : ∀ ds c, g ds ≠ .exc c
section
variable {P : Program} {w : World} {K : PySem.W.Frag} {mg : Str → Option Value} {base : Heap}
theorem fnR_len (n m : Nat) (F : DS → Out) : ∀ ds : List D, ds.length ≠ n → fnR n m F ds = .bad := fun ds h => by unfold fnR; rw [if_neg h]
theorem fnR_ne (n m : Nat) (F : DS → Out) : ∀ (ds : List D) (c : Str), fnR n m F ds ≠ .exc c := fun ds c h => by
 unfold fnR at h
 split at h
 ·unfold fin at h
  split at h <;> cases h
 ·cases h
theorem def_fn {x qual : Str} {st : Stmt} {f : Addr} {fd : FuncData} {N ps : List Str} {k m : Nat} {Fb : DS → Out} (F : Fun K x qual st f fd) (S : FnScope N ps (defScope st)) (hm : N.length - ps.length = m)
  (hbody : ∀ (cdv : Value) (A : Around) (outer : List Env) (s : Shared) (H : Hp) (E : XK) (G₀ : Hp), Room k (A.deeper (envOfC qual (defScope st) s.heap.objs.size f cdv)) →
   PSs (cxOf CX0 P w K mg base N qual (defScope st) f cdv A outer s H E).nox (defBody st) (tS (cxOf CX0 P w K mg base N qual (defScope st) f cdv A outer s H E).nox H G₀ Fb)) : FnOk P w K mg base CX0 (k + 1) f fd ps (spD K (fnR ps.length m Fb) ps.length) := by
 refine F.ok S (fun vs H Q E ⟨G, ds, gh, i, hl, _⟩ => by rw [i.length, hl]) fun cdv A outer s H vs Q E hr ⟨G, ds, gh, i, hl, hw⟩ => ?_
 refine ⟨_, hbody cdv A outer s H E G hr, G, ds.map vsl ++ List.replicate m none, ?_, ?_⟩
 ·have := rel_start (X := (cxOf CX0 P w K mg base N qual (defScope st) f cdv A outer s H E).nox) gh i m
  unfold L2.start
  rw [i.length, hl, hm]
  exact this
 ·unfold fnR at hw
  rw [if_pos hl] at hw
  cases q : Fb (ds.map vsl ++ List.replicate m none) with
  | nx δ => rw [q] at hw; exact fun σ H' G' R => hw .non H' G' R.ext rfl
  | rt d => rw [q] at hw; exact fun v H' G' e i => hw v H' G' e i
  | bk δ => rw [q] at hw; exact hw.elim
  | ct δ => rw [q] at hw; exact hw.elim
  | exc c δ => rw [q] at hw; exact hw.elim
  | bad => rw [q] at hw; exact hw.elim
theorem def_ok {x qual : Str} {st : Stmt} {f : Addr} {fd : FuncData} {N ps : List Str} {k m : Nat} {Fb : DS → Out} (F : Fun K x qual st f fd) (S : FnScope N ps (defScope st)) (hm : N.length - ps.length = m)
  (hb : ∀ (kV doc pm : Value) (an : Option Addr) (cdv ct : Value) (us : List Value), us.length = ps.length → bindArgs (PySem.W.fnOf x qual (defArgs st) (defBody st) (defScope st) .none kV doc pm an cdv ct) ⟨us, []⟩ = pure (ps.zip us))
  (hx : mg x = some (.ref f))
  (hbody : ∀ (cdv : Value) (A : Around) (outer : List Env) (s : Shared) (H : Hp) (E : XK) (G₀ : Hp), Room k (A.deeper (envOfC qual (defScope st) s.heap.objs.size f cdv)) →
   PSs (cxOf CX0 P w K mg base N qual (defScope st) f cdv A outer s H E).nox (defBody st) (tS (cxOf CX0 P w K mg base N qual (defScope st) f cdv A outer s H E).nox H G₀ Fb)) : Fn P w K mg base x (k + 1) ps.length (fnR ps.length m Fb) :=
 ⟨⟨f, fd, ps, def_fn F S hm hbody, F.binds hb, hx, F.kp⟩, fnR_len _ _ _, fnR_ne _ _ _⟩
noncomputable def spLaw (K : PySem.W.Frag) : Sp := fun vs H Q _ => ∃ (a : Addr) (ns : List Int), vs = [.ref a] ∧ SqL K H a (ns.map V.int) ∧ ns.length ≤ 63 ∧ ∀ H', Q (.bl true) H'
theorem law_fn {f : Addr} {fd : FuncData} {ps : List Str} {k : Nat} {g : List D → Rs D} (h : FnOk P w K mg base CX0 k f fd ps (spD K g 1)) (hg : ∀ ns : List Int, ns.length ≤ 63 → g [.lst (ns.map D.int)] = .ok (.bl true)) : FnOk P w K mg base CX0 k f fd ps (spLaw K) := by
 refine h.imp fun vs H Q E ⟨a, ns, e, hS, hl, q⟩ => ?_
 subst e
 refine ⟨H, [.lst (ns.map D.int)], Same.refl _, ⟨.ref a, [], rfl, ⟨a, ns.map V.int, rfl, hS, ?_, isL_ints ns⟩, rfl⟩, rfl, ?_⟩
 ·rw [List.length_map]; exact Nat.le_trans hl (by decide)
 ·rw [hg ns hl]
  intro v H' G' e i
  cases (show v = .bl true from i)
  exact q H'
theorem walk {l : PySem.W.OpenLaw} {q : Program} {loose : List Str} {XP : (Str → Option Value) → Heap → Prop} {YP : World → Heap → Prop} {d : DefRec} {K : Params → PySem.W.Frag} {k : Nat} {x : Str} (hn : l.most = some 63) (hk : Room k callerA) (hdf : d.params.defaults = [])
  (hY : ∀ (w : World) (h : Heap), YP w h → (K w.params).In h)
  (F : ∀ (w : World) (mg : Str → Option Value) (fa : Addr) (h : Heap), (K w.params).In h → h.Ns mainGlobals mg → mg d.name = some (.ref fa) →
   ∃ fd : FuncData, (∀ (s : Shared) (u : Value), BindsTo s fd ⟨[u], []⟩ [(x, u)]) ∧ ∀ base : Heap, (K w.params).In base → base.Ns mainGlobals mg → FnOk l.prog w (K w.params) mg base CX0 k fa fd [x] (spLaw (K w.params))) :
  PySem.W.WalkO q loose XP YP l.row.toRowW d [] (fun f vs => PySem.call f vs) :=
 L2.walk_of (n := 63) (k := k) (x := x) (CX := fun _ => CX0) (sp := fun w => spLaw (K w.params)) hn (by decide) hdf hk hY F (fun _ _ a ns hl _ hS => ⟨a, ns, rfl, hS, hl, fun _ => rfl⟩) fun _ _ _ _ _ z => z
end
section
variable {X : Cx} {B G₀ : Hp} {x : Str} {k n : Nat} {g : List D → Rs D} {e : Expr} {es : List Expr} {fr : DS → Rs (List D)} {p pos : Pos}
theorem pd_call (F : Fn X.prog X.w X.K X.mg X.base x k n g) (hr : Room k X.A) (ha : PA X (e :: es) (tAs X B G₀ fr)) (hg : Gl X x := by rfl) (hdb : (x == ("__debug__" : Str)) = false := by decide)
  (he : starEach (e :: es) X.env = (false, eval e X.env) :: starEach es X.env := by rfl) (hpl : (backTo pos (starEach es X.env)).any (·.1) = false := by rfl) :
  PE X (.Call (.Name x p) (e :: es) [] pos) (tE X B G₀ fun δ => fr δ >>= g) := by
 obtain ⟨⟨f, fd, ps, hF, hb, hm, hk⟩, hlen, hne⟩ := F
 refine pd_of (pe_call hF hr hg hm hk hb .nil pass0 ha hdb he hpl) fun σ H G δ Q R hw => ?_
 refine ⟨G, δ, R, ?_⟩
 unfold W at hw
 rw [wp_bind] at hw
 refine Rs.wp.mono hw (fun _ x => x) fun ds q vs H1 G1 e1 i1 => ?_
 by_cases hl : ds.length = n
 ·refine ⟨G1, ds, e1.gh, by rw [List.append_nil]; exact i1, hl, ?_⟩
  cases hgd : g ds with
  | ok d => rw [hgd] at q; exact fun v H' G' e' i' => q v H' G' (e1.trans e') i'
  | exc c => rw [hgd] at q; exact (hne ds c hgd).elim
  | bad => rw [hgd] at q; exact q.elim
 ·rw [hlen ds hl] at q; exact q.elim
end
end M
set_option Elab.async false
set_option linter.all false
set_option maxRecDepth 100000
set_option maxHeartbeats 4000000
namespace M
open PySem PySem.Spec PyProof.Rows L2
set_option autoImplicit false
noncomputable abbrev FE := DS → Rs D
noncomputable abbrev FT := DS → Rs Bool
noncomputable abbrev FA := DS → Rs (List D)
noncomputable abbrev FS := DS → Out
noncomputable def bin2 (g : D → D → Rs D) (fa fb : FE) : FE := fun δ => fa δ >>= fun x => fb δ >>= fun y => g x y
noncomputable def cmpT (g : D → D → Rs D) (fa fb : FE) : FT := fun δ => fa δ >>= fun x => fb δ >>= fun y => g x y >>= fun d => truR d
noncomputable def valT (fa : FE) : FT := fun δ => fa δ >>= fun d => truR d
noncomputable def notT (ga : FT) : FT := fun δ => ga δ >>= fun b => .ok (!b)
noncomputable def andT (ga gb : FT) : FT := fun δ => ga δ >>= fun c => if c = true then gb δ else .ok false
noncomputable def orT (ga gb : FT) : FT := fun δ => ga δ >>= fun c => if c = true then .ok true else gb δ
noncomputable def andV (fa fb : FE) : FE := fun δ => fa δ >>= fun x => truR x >>= fun k => if k = true then fb δ else .ok x
noncomputable def orV (fa fb : FE) : FE := fun δ => fa δ >>= fun x => truR x >>= fun k => if k = true then .ok x else fb δ
noncomputable def notV (fa : FE) : FE := fun δ => fa δ >>= fun x => truR x >>= fun k => .ok (.bl (!k))
noncomputable def negR : D → Rs D
 | .int i => .ok (.int (-i))
 | _ => .bad
noncomputable def negV (fa : FE) : FE := fun δ => fa δ >>= negR
noncomputable def ifV (gc : FT) (fa fb : FE) : FE := fun δ => gc δ >>= fun k => if k = true then fa δ else fb δ
noncomputable def chainR (z : D) (r : Rs D) : Rs D := match z with
 | .bl true => r
 | .bl false => .ok (.bl false)
 | _ => .bad
noncomputable def chainV (g g' : D → D → Rs D) (fa fb fc : FE) : FE := fun δ => fa δ >>= fun x => fb δ >>= fun y => g x y >>= fun z => chainR z (fc δ >>= fun w => g' y w)
noncomputable def a0 : FA := fun _ => .ok []
noncomputable def aC (fe : FE) (fr : FA) : FA := fun δ => fe δ >>= fun d => fr δ >>= fun ds => .ok (d :: ds)
noncomputable def appF (g : List D → Rs D) (fr : FA) : FE := fun δ => fr δ >>= g
noncomputable def isiF (T : String) (fe : FE) : FE := fun δ => fe δ >>= fun d => isiR T d
noncomputable def itF (fe : FE) : FA := fun δ => fe δ >>= itR
noncomputable def rng1R : List D → Rs (List D)
 | [d] => rngR [d]
 | _ => .bad
noncomputable def rng1 (fr : FA) : FA := fun δ => fr δ >>= rng1R
noncomputable def tt : FT := fun _ => .ok true
noncomputable def compF (fr : List (Str × Nat)) (f : FA) (fe : FE) (gt : FT) : FE := fun δ => f δ >>= fun ds => bigR ds (compL (fun d => fe (innerD δ fr (some (.v d)))) (fun d => gt (innerD δ fr (some (.v d)))) ds)
noncomputable def exprS (fe : FE) : FS := fun δ => (fe δ).out δ fun _ => .nx δ
noncomputable def retS (fe : FE) : FS := fun δ => (fe δ).out δ fun d => .rt d
noncomputable def ifS (gc : FT) (F1 F2 : FS) : FS := fun δ => (gc δ).out δ fun k => if k = true then F1 δ else F2 δ
noncomputable def setS (i : Nat) (fe : FE) : FS := fun δ => (fe δ).out δ fun d => .nx (δ.set i (some (.v d)))
noncomputable def augS (i : Nat) (g : D → D → Rs D) (fe : FE) : FS := fun δ => (getV δ i >>= fun d => fe δ >>= fun y => g d y).out δ fun d => .nx (δ.set i (some (.v d)))
noncomputable def forS (f : FA) (tg : D → DS → Option DS) (F : FS) : FS := fun δ => (f δ).out δ fun ds => forO tg F ds δ
noncomputable def whileS (n : Nat) (gc : FT) (F : FS) : FS := fun δ => whileO gc F n δ
noncomputable def badS : FS := fun _ => .bad
noncomputable abbrev ltR : D → D → Rs D := cmpR fun i j => decide (i < j)
noncomputable abbrev leR : D → D → Rs D := cmpR fun i j => decide (i ≤ j)
noncomputable abbrev gtR : D → D → Rs D := cmpR fun i j => decide (j < i)
noncomputable abbrev geR : D → D → Rs D := cmpR fun i j => decide (j ≤ i)
noncomputable def tgN (i : Nat) (d : D) (δ : DS) : Option DS := some (δ.set i (some (.v d)))
section
variable {X : Cx} {B G₀ : Hp} {a b c e : Expr} {es rest : List Expr} {fa fb fc fe : FE} {ga gb gc : FT} {fr : FA} {F F1 F2 : FS} {pos p : Pos} {st : Stmt} {sts sts' : List Stmt} {x : Str}
theorem q_gint {i : Int} (h : ∃ t, X.mg x = some (.int i t)) (hg : Gl X x := by rfl) (hd : (x == ("__debug__" : Str)) = false := by decide) : PE X (.Name x pos) (tE X B G₀ (cD (.int i))) := by
 obtain ⟨t, h⟩ := h; exact pd_gint h hg hd
theorem q_bin {op : Operator} {g : D → D → Rs D} (ho : OpD X (binaryOp op) g) (ha : PE X a (tE X B G₀ fa)) (hb : PE X b (tE X B G₀ fb)) : PE X (.BinOp a op b pos) (tE X B G₀ (bin2 g fa fb)) := pd_bin ho ha hb
theorem q_cmp {op : CmpOp} {g : D → D → Rs D} (ho : OpD X (compareOp op) g) (ha : PE X a (tE X B G₀ fa)) (hb : PE X b (tE X B G₀ fb)) (hm : behindInMarks op b = false := by first | exact nobehind _ (by decide) (by decide) | rfl) :
  PE X (.Compare a [op] [b] pos) (tE X B G₀ (bin2 g fa fb)) := pd_cmp ho ha hb hm
theorem q_tcmp {op : CmpOp} {g : D → D → Rs D} (ho : OpD X (compareOp op) g) (ha : PE X a (tE X B G₀ fa)) (hb : PE X b (tE X B G₀ fb)) (hm : behindInMarks op b = false := by first | exact nobehind _ (by decide) (by decide) | rfl) :
  PT X (.Compare a [op] [b] pos) (tT X B G₀ (cmpT g fa fb)) := pdt_cmp ho ha hb hm
theorem q_tval (ha : PE X a (tE X B G₀ fa)) (he : ∀ whole, isTrue a X.env whole = (do let v ← whole; standAt a.pos; holding [v] (truthy v)) := by intro _; rfl) : PT X a (tT X B G₀ (valT fa)) := pdt_val ha he
theorem q_tnot (ha : PT X a (tT X B G₀ ga)) : PT X (.UnaryOp .Not a pos) (tT X B G₀ (notT ga)) := pdt_not ha
theorem q_wand (ha : PT X a (tT X B G₀ ga)) (hb : PW X (.BoolOp .And (b :: rest) pos) (tT X B G₀ gb)) : PW X (.BoolOp .And (a :: b :: rest) pos) (tT X B G₀ (andT ga gb)) := pdw_and ha hb
theorem q_wor (ha : PT X a (tT X B G₀ ga)) (hb : PW X (.BoolOp .Or (b :: rest) pos) (tT X B G₀ gb)) : PW X (.BoolOp .Or (a :: b :: rest) pos) (tT X B G₀ (orT ga gb)) := pdw_or ha hb
theorem q_w1a (ha : PT X a (tT X B G₀ ga)) : PW X (.BoolOp .And [a] pos) (tT X B G₀ ga) := pw_one (.inl rfl) ha
theorem q_w1o (ha : PT X a (tT X B G₀ ga)) : PW X (.BoolOp .Or [a] pos) (tT X B G₀ ga) := pw_one (.inr rfl) ha
theorem q_and (ha : PE X a (tE X B G₀ fa)) (hb : PE X (.BoolOp .And (b :: rest) pos) (tE X B G₀ fb)) : PE X (.BoolOp .And (a :: b :: rest) pos) (tE X B G₀ (andV fa fb)) := pd_and ha hb
theorem q_or (ha : PE X a (tE X B G₀ fa)) (hb : PE X (.BoolOp .Or (b :: rest) pos) (tE X B G₀ fb)) : PE X (.BoolOp .Or (a :: b :: rest) pos) (tE X B G₀ (orV fa fb)) := pd_or ha hb
theorem q_not (ha : PE X a (tE X B G₀ fa)) : PE X (.UnaryOp .Not a pos) (tE X B G₀ (notV fa)) := pd_not ha
theorem q_neg (ha : PE X a (tE X B G₀ fa)) : PE X (.UnaryOp .USub a pos) (tE X B G₀ (negV fa)) := by
 refine pd_of (pd_neg ha) fun σ H G δ Q R hw => ⟨G, δ, R, ?_⟩
 have e : (fa δ >>= fun x => match x with | .int i => .ok (.int (-i)) | _ => .bad) = negV fa δ := by
  unfold negV
  cases fa δ with
  | ok d => cases d <;> rfl
  | exc c => rfl
  | bad => rfl
 exact Eq.mpr (congrArg (W X Q σ H G) e) hw
theorem q_if (hc : PT X c (tT X B G₀ gc)) (ha : PE X a (tE X B G₀ fa)) (hb : PE X b (tE X B G₀ fb)) : PE X (.IfExp c a b pos) (tE X B G₀ (ifV gc fa fb)) := pd_if hc ha hb
theorem q_chain {op op' : CmpOp} {g g' : D → D → Rs D} (ho : OpD X (compareOp op) g) (ho' : OpD X (compareOp op') g') (ha : PE X a (tE X B G₀ fa)) (hb : PE X b (tE X B G₀ fb)) (hc : PE X c (tE X B G₀ fc))
  (hm : lastMarks [op, op'] [b, c] = false := by with_unfolding_all rfl) : PE X (.Compare a [op, op'] [b, c] pos) (tE X B G₀ (chainV g g' fa fb fc)) := by
 refine pd_of (pd_chain ho ho' ha hb hc hm) fun σ H G δ Q R hw => ⟨G, δ, R, ?_⟩
 have e : ∀ z (r : Rs D), (match z with | .bl true => r | .bl false => .ok (.bl false) | _ => .bad : Rs D) = chainR z r := fun z r => by
  unfold chainR; rfl
 unfold chainV at hw
 simp only [e]; exact hw
theorem q_a0 : PA X [] (tAs X B G₀ a0) := pda_nil
theorem q_aC (ha : PE X e (tE X B G₀ fe)) (hr : PA X es (tAs X B G₀ fr)) (hs : starEach (e :: es) X.env = (false, eval e X.env) :: starEach es X.env := by rfl) : PA X (e :: es) (tAs X B G₀ (aC fe fr)) := pda_cons ha hr hs
theorem q_tup {x1} (h : PA X es (tAs X B G₀ fr)) : PE X (.Tuple es x1 pos) (tE X B G₀ (appF tupR fr)) := pd_tup h
theorem q_lst (h : PA X es (tAs X B G₀ fr)) : PE X (.List es pos) (tE X B G₀ (appF lstR fr)) := pd_lst h
theorem q_ix (ha : PE X a (tE X B G₀ fa)) (hb : PE X b (tE X B G₀ fb)) (hs : PlainIx b := by intro _ _; rfl) : PE X (.Subscript a b pos) (tE X B G₀ (bin2 idxR fa fb)) := pd_ix ha hb hs
theorem q_blt {id : String} {g : List D → Rs D} (hc : CallD X (.builtin id) g) (hm : X.mg x = none) (hv : bootBuiltins x = some (.builtin id)) (ha : PA X (e :: es) (tAs X B G₀ fr)) (hg : Gl X x := by rfl) (hn : x ≠ "__name__" := by decide) (hdb : (x == ("__debug__" : Str)) = false := by decide)
  (he : starEach (e :: es) X.env = (false, eval e X.env) :: starEach es X.env := by rfl) (hpl : (backTo pos (starEach es X.env)).any (·.1) = false := by rfl) : PE X (.Call (.Name x p) (e :: es) [] pos) (tE X B G₀ (appF g fr)) := pd_callB hc hm hv ha hg hn hdb he hpl
theorem q_ty {T : String} {g : List D → Rs D} (hc : CallD X (.type T) g) (hm : X.mg x = none) (hv : bootBuiltins x = some (.type T)) (ha : PA X (e :: es) (tAs X B G₀ fr)) (hg : Gl X x := by rfl) (hn : x ≠ "__name__" := by decide) (hdb : (x == ("__debug__" : Str)) = false := by decide)
  (he : starEach (e :: es) X.env = (false, eval e X.env) :: starEach es X.env := by rfl) (hpl : (backTo pos (starEach es X.env)).any (·.1) = false := by rfl) : PE X (.Call (.Name x p) (e :: es) [] pos) (tE X B G₀ (appF g fr)) := pd_callTy hc hm hv ha hg hn hdb he hpl
theorem q_call {k n : Nat} {g : List D → Rs D} (F : Fn X.prog X.w X.K X.mg X.base x k n g) (hr : Room k X.A) (ha : PA X (e :: es) (tAs X B G₀ fr)) (hg : Gl X x := by rfl) (hdb : (x == ("__debug__" : Str)) = false := by decide)
  (he : starEach (e :: es) X.env = (false, eval e X.env) :: starEach es X.env := by rfl) (hpl : (backTo pos (starEach es X.env)).any (·.1) = false := by rfl) : PE X (.Call (.Name x p) (e :: es) [] pos) (tE X B G₀ (appF g fr)) := pd_call F hr ha hg hdb he hpl
theorem q_isi {y : Str} {p2 : Pos} {T : String} (hT : IsiOk X.K T) (hm : X.mg "isinstance" = none) (hm2 : X.mg y = none) (hv2 : bootBuiltins y = some (.type T)) (ha : PE X e (tE X B G₀ fe)) (hg : Gl X "isinstance" := by rfl) (hg2 : Gl X y := by rfl)
  (hn2 : y ≠ "__name__" := by decide) (hd2 : (y == ("__debug__" : Str)) = false := by decide) (hs1 : starEach [e, .Name y p2] X.env = (false, eval e X.env) :: starEach [.Name y p2] X.env := by rfl) :
  PE X (.Call (.Name "isinstance" p) [e, .Name y p2] [] pos) (tE X B G₀ (isiF T fe)) := pd_isi hT hm hm2 hv2 ha hg hg2 hn2 hd2 hs1
theorem q_it {tg : Expr} (hl : PE X e (tE X B G₀ fe)) : PI X tg e (tI X B G₀ (itF fe)) := pdi_any hl
theorem tI_imp {tg iter : Expr} {f f' : FA} (h : PI X tg iter (tI X B G₀ f)) (e : ∀ δ, f δ = f' δ) : PI X tg iter (tI X B G₀ f') := by
 have : f = f' := funext e
 rw [← this]; exact h
theorem q_rng1 {tg : Expr} (hm : X.mg "range" = none) (ha : PA X [a] (tAs X B G₀ fr)) (hg : Gl X "range" := by rfl) (hs : starEach [a] X.env = [(false, eval a X.env)] := by rfl) : PI X tg (.Call (.Name "range" p) [a] [] pos) (tI X B G₀ (rng1 fr)) :=
 tI_imp (pdi_range1 hm ha hg hs) fun δ => by unfold rng1; cases fr δ with | ok ds => (cases ds with | nil => rfl | cons d r => (cases r <;> rfl)) | exc c => rfl | bad => rfl
theorem q_comp {elt iter : Expr} {px : Pos} {ifs : List Expr} {scope sc : Scope} {N : List Str} {f : FA} (fr : List (Str × Nat)) (hok : compOk sc scope N x fr = true) (hsc : X.env.scope = sc) (hN : X.N = N) (hcalm : X.calm = true)
  (hi : PI X (.Name x px) iter (tI X B G₀ f)) (ht : Tst X scope x fr ifs gc) (he : ∀ C s₀ H₀ fp B' G', PE (compCx X scope x fr C s₀ H₀ fp) elt (tE (compCx X scope x fr C s₀ H₀ fp) B' G' fe))
  (hs : ∀ x, foldedSetIterable iter X.env x = pure x := by intro _; rfl) :
  PE X (.ListComp elt [⟨.Name x px, iter, ifs, 0⟩] scope pos) (tE X B G₀ (compF fr f fe gc)) := pd_comp fr hok hsc hN hcalm hi ht he hs
theorem q_expr (he : PE X e (tE X B G₀ fe)) (hs : swapsWith e none pos.line X.env = pure false := by rfl) : PS X (.Expr e pos) (tS X B G₀ (exprS fe)) := pds_expr he hs
theorem q_ret (he : PE X e (tE X B G₀ fe)) : PS X (.Return (some e) pos) (tS X B G₀ (retS fe)) := pds_ret he
theorem q_ifS (hc : PT X c (tT X B G₀ gc)) (ha : PSs X sts (tS X B G₀ F1)) (hb : PSs X sts' (tS X B G₀ F2)) : PS X (.If c sts sts' pos) (tS X B G₀ (ifS gc F1 F2)) := pds_if hc ha hb
theorem q_set (i : Nat) {pos' : Pos} (hN : X.N.Nodup) (he : PE X e (tE X B G₀ fe)) (hi : X.N[i]? = some x := by rfl) (hx : Loc X.env.scope x := by first | exact Or.inl rfl | exact Or.inr rfl) (hs : swapsWith e (some (.Name x pos')) pos.line X.env = pure false := by rfl)
  (hf : X.fn x = true ∨ X.env.scope.names.lookup x = some .local := by first | exact .inl rfl | exact .inr rfl | assumption) :
  PS X (.Assign [.Name x pos'] e pos) (tS X B G₀ (setS i fe)) := pds_set i hN he hi hx hs hf
theorem q_aug (i : Nat) {op : Operator} {g : D → D → Rs D} {pos' : Pos} (ho : IpD X op g) (hN : X.N.Nodup) (he : PE X e (tE X B G₀ fe)) (hi : X.N[i]? = some x := by rfl) (hx : Loc X.env.scope x := by first | exact Or.inl rfl | exact Or.inr rfl)
  (hf : X.fn x = true ∨ X.env.scope.names.lookup x = some .local := by first | exact .inl rfl | exact .inr rfl | assumption) :
  PS X (.AugAssign (.Name x pos') op e pos) (tS X B G₀ (augS i g fe)) := pds_aug i ho hN he hi hx hf
theorem q_for {tgt iter : Expr} {g : TG} {tg : D → DS → Option DS} {f : FA} (hp : PassesOwn (model X.prog X.w) X.A X.env X.xe) (hc : X.calm = true) (hi : PI X tgt iter (tI X B G₀ f)) (hg : PG X tgt g) (ht : TgD X B g tg) (hb : ∀ G₀, PSs X sts (tS X B G₀ F))
  (hs : ∀ x, foldedSetIterable iter X.env x = pure x := by intro _; rfl) : PS X (.For tgt iter sts [] pos) (tS X B G₀ (forS f tg F)) := pds_for hp hc hi hg ht hb hs
theorem q_while (n : Nat) (hp : PassesOwn (model X.prog X.w) X.A X.env X.xe) (hc : PT X c (tT X B G₀ gc)) (hb : PSs X sts (tS X B G₀ F)) : PS X (.While c sts [] pos) (tS X B G₀ (whileS n gc F)) := pds_while (fun _ => n) hp hc hb
theorem q_never : PS X st (tS X B G₀ badS) := pds_never
theorem q_tgN (i : Nat) : TgD X B (gName i) (tgN i) := tg_name i
end
end M
set_option Elab.async false
set_option linter.all false
set_option maxRecDepth 100000
set_option maxHeartbeats 4000000
namespace M
open PySem PySem.Spec PyProof.Rows L2
set_option autoImplicit false
section
variable (g g' : D → D → Rs D) (fa fb fc fe : FE) (ga gb gc : FT) (fr : FA) (F F1 F2 : FS) (δ : DS)
@[simp] theorem s_bin2 : bin2 g fa fb δ = (fa δ >>= fun x => fb δ >>= fun y => g x y) := nodef rfl
@[simp] theorem s_cmpT : cmpT g fa fb δ = (fa δ >>= fun x => fb δ >>= fun y => g x y >>= fun d => truR d) := nodef rfl
@[simp] theorem s_valT : valT fa δ = (fa δ >>= fun d => truR d) := nodef rfl
@[simp] theorem s_notT : notT ga δ = (ga δ >>= fun b => .ok (!b)) := nodef rfl
@[simp] theorem s_andT : andT ga gb δ = (ga δ >>= fun c => if c = true then gb δ else .ok false) := nodef rfl
@[simp] theorem s_orT : orT ga gb δ = (ga δ >>= fun c => if c = true then .ok true else gb δ) := nodef rfl
@[simp] theorem s_andV : andV fa fb δ = (fa δ >>= fun x => truR x >>= fun k => if k = true then fb δ else .ok x) := nodef rfl
@[simp] theorem s_orV : orV fa fb δ = (fa δ >>= fun x => truR x >>= fun k => if k = true then .ok x else fb δ) := nodef rfl
@[simp] theorem s_notV : notV fa δ = (fa δ >>= fun x => truR x >>= fun k => .ok (.bl (!k))) := nodef rfl
@[simp] theorem s_negV : negV fa δ = (fa δ >>= negR) := nodef rfl
@[simp] theorem s_negR (i : Int) : negR (.int i) = .ok (.int (-i)) := nodef rfl
@[simp] theorem s_ifV : ifV gc fa fb δ = (gc δ >>= fun k => if k = true then fa δ else fb δ) := nodef rfl
@[simp] theorem s_chainV : chainV g g' fa fb fc δ = (fa δ >>= fun x => fb δ >>= fun y => g x y >>= fun z => chainR z (fc δ >>= fun w => g' y w)) := nodef rfl
@[simp] theorem s_chainR (b : Bool) (r : Rs D) : chainR (.bl b) r = if b = true then r else .ok (.bl false) := by cases b <;> rfl
@[simp] theorem s_a0 : a0 δ = .ok [] := nodef rfl
@[simp] theorem s_aC : aC fe fr δ = (fe δ >>= fun d => fr δ >>= fun ds => .ok (d :: ds)) := nodef rfl
@[simp] theorem s_appF (h : List D → Rs D) : appF h fr δ = (fr δ >>= h) := nodef rfl
@[simp] theorem s_isiF (T : String) : isiF T fe δ = (fe δ >>= fun d => isiR T d) := nodef rfl
@[simp] theorem isiR_int (T : String) (i : Int) : isiR T (.int i) = .ok (.bl (isiN (tyN (.int i)) T)) := nodef rfl
@[simp] theorem isiR_str (T : String) (i : Str) : isiR T (.str i) = .ok (.bl (isiN (tyN (.str i)) T)) := nodef rfl
@[simp] theorem isiR_tup (T : String) (i : List D) : isiR T (.tup i) = .ok (.bl (isiN (tyN (.tup i)) T)) := nodef rfl
@[simp] theorem isiR_lst (T : String) (i : List D) : isiR T (.lst i) = .ok (.bl (isiN (tyN (.lst i)) T)) := nodef rfl
@[simp] theorem s_itF : itF fe δ = (fe δ >>= itR) := nodef rfl
@[simp] theorem s_rng1 : rng1 fr δ = (fr δ >>= rng1R) := nodef rfl
@[simp] theorem s_tt : tt δ = .ok true := nodef rfl
@[simp] theorem s_compF (f : FA) (fn : List (Str × Nat)) : compF fn f fe gc δ = (f δ >>= fun ds => bigR ds (compL (fun d => fe (innerD δ fn (some (.v d)))) (fun d => gc (innerD δ fn (some (.v d)))) ds)) := nodef rfl
@[simp] theorem s_exprS : exprS fe δ = (fe δ).out δ fun _ => .nx δ := nodef rfl
@[simp] theorem s_retS : retS fe δ = (fe δ).out δ fun d => .rt d := nodef rfl
@[simp] theorem s_ifS : ifS gc F1 F2 δ = (gc δ).out δ fun k => if k = true then F1 δ else F2 δ := nodef rfl
@[simp] theorem s_setS (i : Nat) : setS i fe δ = (fe δ).out δ fun d => .nx (δ.set i (some (.v d))) := nodef rfl
@[simp] theorem s_augS (i : Nat) : augS i g fe δ = (varD i δ >>= fun d => fe δ >>= fun y => g d y).out δ fun d => .nx (δ.set i (some (.v d))) := nodef rfl
@[simp] theorem s_forS (f : FA) (tg : D → DS → Option DS) : forS f tg F δ = (f δ).out δ fun ds => forO tg F ds δ := nodef rfl
@[simp] theorem s_whileS (n : Nat) : whileS n gc F δ = whileO gc F n δ := nodef rfl
@[simp] theorem s_badS : badS δ = .bad := nodef rfl
@[simp] theorem rs_assoc {α β γ : Type} (r : Rs α) (f : α → Rs β) (h : β → Rs γ) : ((r >>= f) >>= h) = (r >>= fun x => f x >>= h) := by cases r <;> rfl
noncomputable def Out.thn (o : Out) (F : FS) : Out := match o with
 | .nx δ' => F δ'
 | o => o
@[simp] theorem s_seqO : seqO F1 F2 δ = (F1 δ).thn F2 := by
 unfold seqO Out.thn
 cases F1 δ <;> rfl
@[simp] theorem thn_nx : (Out.nx δ).thn F = F δ := nodef rfl
@[simp] theorem thn_rt (d : D) : (Out.rt d).thn F = .rt d := nodef rfl
@[simp] theorem thn_ct : (Out.ct δ).thn F = .ct δ := nodef rfl
@[simp] theorem fin_nx : fin (.nx δ) = .ok .non := nodef rfl
@[simp] theorem fin_rt (d : D) : fin (.rt d) = .ok d := nodef rfl
@[simp] theorem s_varD0 (d : D) : varD 0 (some (.v d) :: δ) = .ok d := nodef rfl
@[simp] theorem s_varDs (x : Option Sl) (i : Nat) : varD (i + 1) (x :: δ) = varD i δ := nodef rfl
@[simp] theorem s_cD (d : D) : cD d δ = .ok d := nodef rfl
@[simp] theorem s_add (i j : Int) : addR (.int i) (.int j) = .ok (.int (i + j)) := nodef rfl
@[simp] theorem s_sub (i j : Int) : subR (.int i) (.int j) = .ok (.int (i - j)) := nodef rfl
theorem s_mul (i j : Int) : mulR (.int i) (.int j) = if (small i || small j) = true then .ok (.int (i * j)) else .bad := rfl
theorem mul_l {i j : Int} (h : -(2 ^ 64) < i ∧ i < 2 ^ 64) : mulR (.int i) (.int j) = .ok (.int (i * j)) := by
 rw [s_mul, if_pos]; rw [Bool.or_eq_true]; exact .inl (decide_eq_true h)
theorem mul_r {i j : Int} (h : -(2 ^ 64) < j ∧ j < 2 ^ 64) : mulR (.int i) (.int j) = .ok (.int (i * j)) := by
 rw [s_mul, if_pos]; rw [Bool.or_eq_true]; exact .inr (decide_eq_true h)
theorem s_mod {i j : Int} (h : 0 < j) : modR (.int i) (.int j) = .ok (.int (i % j)) := by show (if _ then _ else _) = _; rw [if_pos h]
theorem s_fdiv {i j : Int} (h : 0 < j ∧ j < 1073741824) : fdivR (.int i) (.int j) = .ok (.int (i / j)) := by show (if _ then _ else _) = _; rw [if_pos h]
theorem s_pow {i j : Int} (h : 0 ≤ j ∧ j ≤ 1000000 ∧ i.natAbs < 2 ^ 64) : powR (.int i) (.int j) = .ok (.int (i ^ j.toNat)) := by show (if _ then _ else _) = _; rw [if_pos h]
theorem s_adds {i j : Str} (h : i.length + j.length ≤ sizeLine) : addR (.str i) (.str j) = .ok (.str (i ++ j)) := by show (if _ then _ else _) = _; rw [if_pos h]
@[simp] theorem s_cmp (p : Int → Int → Bool) (i j : Int) : cmpR p (.int i) (.int j) = .ok (.bl (p i j)) := nodef rfl
@[simp] theorem s_isN (d : D) : isNR d .non = .ok (.bl (match d with | .non => true | _ => false)) := by cases d <;> rfl
@[simp] theorem s_isNot (d : D) : isNotR d .non = .ok (.bl (match d with | .non => false | _ => true)) := by cases d <;> rfl
@[simp] theorem s_truRb (b : Bool) : truR (.bl b) = .ok b := nodef rfl
@[simp] theorem s_lenS (z : Str) : lenR [.str z] = .ok (.int z.length) := nodef rfl
@[simp] theorem s_lenT (ds : List D) : lenR [.tup ds] = .ok (.int ds.length) := nodef rfl
@[simp] theorem s_lenL (ds : List D) : lenR [.lst ds] = .ok (.int ds.length) := nodef rfl
@[simp] theorem s_ord (c : Nat) : ordR [.str (chr1 c)] = .ok (.int c) := nodef rfl
@[simp] theorem s_itL (ds : List D) : itR (.lst ds) = .ok ds := nodef rfl
@[simp] theorem s_itS (z : Str) : itR (.str z) = .ok (signsD z) := nodef rfl
@[simp] theorem s_tup2 (a b : D) : tupR [a, b] = .ok (.tup [a, b]) := nodef rfl
@[simp] theorem s_tup3 (a b c : D) : tupR [a, b, c] = .ok (.tup [a, b, c]) := nodef rfl
@[simp] theorem s_lst0 : lstR [] = .ok (.lst []) := nodef rfl
@[simp] theorem s_lst1 (a : D) : lstR [a] = .ok (.lst [a]) := nodef rfl
@[simp] theorem s_lst2 (a b : D) : lstR [a, b] = .ok (.lst [a, b]) := nodef rfl
@[simp] theorem s_fn1 (m : Nat) (a : D) : fnR 1 m F [a] = fin (F (some (.v a) :: List.replicate m none)) := nodef rfl
@[simp] theorem s_fn2 (m : Nat) (a b : D) : fnR 2 m F [a, b] = fin (F (some (.v a) :: some (.v b) :: List.replicate m none)) := nodef rfl
@[simp] theorem s_fn3 (m : Nat) (a b c : D) : fnR 3 m F [a, b, c] = fin (F (some (.v a) :: some (.v b) :: some (.v c) :: List.replicate m none)) := nodef rfl
@[simp] theorem s_fn4 (m : Nat) (a b c d : D) : fnR 4 m F [a, b, c, d] = fin (F (some (.v a) :: some (.v b) :: some (.v c) :: some (.v d) :: List.replicate m none)) := nodef rfl
@[simp] theorem s_fn5 (m : Nat) (a b c d e : D) : fnR 5 m F [a, b, c, d, e] = fin (F (some (.v a) :: some (.v b) :: some (.v c) :: some (.v d) :: some (.v e) :: List.replicate m none)) := nodef rfl
@[simp] theorem s_innerD (fn : List (Str × Nat)) (v : Option Sl) : innerD δ fn v = v :: fn.map fun y => visS (δ[y.2]?).join := nodef rfl
@[simp] theorem s_visS (d : D) : visS (some (.v d)) = some (.v d) := nodef rfl
end
@[simp] theorem ty_int (i : Int) : tyN (.int i) = "int" := nodef rfl
@[simp] theorem ty_str (i : Str) : tyN (.str i) = "str" := nodef rfl
@[simp] theorem ty_tup (i : List D) : tyN (.tup i) = "tuple" := nodef rfl
@[simp] theorem ty_lst (i : List D) : tyN (.lst i) = "list" := nodef rfl
@[simp] theorem isi_ii : isiN "int" "int" = true := by decide
@[simp] theorem isi_ib : isiN "int" "bool" = false := by decide
@[simp] theorem isi_ss : isiN "str" "str" = true := by decide
@[simp] theorem isi_tt : isiN "tuple" "tuple" = true := by decide
@[simp] theorem isi_ll : isiN "list" "list" = true := by decide
mutual
theorem eqB_refl : ∀ d : D, eqB d d = true
 | .non => rfl
 | .bl b => by simp [eqB, toP, PyData.eqv]
 | .int b => by simp [eqB, toP, PyData.eqv]
 | .str b => by simp [eqB, toP, PyData.eqv]
 | .tup ds => by simpa [eqB, toP, PyData.eqv] using eqBs_refl ds
 | .lst ds => by simpa [eqB, toP, PyData.eqv] using eqBs_refl ds
 | .dct ks ds => by simp [eqB, toP, PyData.eqv]
 | .dtt ks ds => by simp [eqB, toP, PyData.eqv]
 | .dnn Φ ks ds => by simp [eqB, toP, PyData.eqv]
 | .exn c => by simp [eqB, toP, PyData.eqv]
theorem eqBs_refl : ∀ ds : List D, PyData.eqvAll (toPs ds) (toPs ds) = true
 | [] => rfl
 | d :: ds => by
  have h1 := eqB_refl d
  have h2 := eqBs_refl ds
  simp only [eqB] at h1
  simp [toPs, PyData.eqvAll, h1, h2]
end
noncomputable def eqBs (a b : List D) : Bool := PyData.eqvAll (toPs a) (toPs b)
@[simp] theorem eqB_int (i j : Int) : eqB (.int i) (.int j) = (i == j) := nodef rfl
@[simp] theorem eqB_str (i j : Str) : eqB (.str i) (.str j) = (i == j) := nodef rfl
@[simp] theorem eqB_lst (i j : List D) : eqB (.lst i) (.lst j) = eqBs i j := nodef rfl
@[simp] theorem eqB_tup (i j : List D) : eqB (.tup i) (.tup j) = eqBs i j := nodef rfl
@[simp] theorem eqBs_cons (a b : D) (i j : List D) : eqBs (a :: i) (b :: j) = (eqB a b && eqBs i j) := nodef rfl
@[simp] theorem eqB_self (d : D) : eqB d d = true := eqB_refl d
@[simp] theorem eqBs_self (d : List D) : eqBs d d = true := eqBs_refl d
noncomputable def dep (d : D) : Nat := (toP d).depth
noncomputable def deps (ds : List D) : Nat := PyData.depthAll (toPs ds)
@[simp] theorem dep_int (i : Int) : dep (.int i) = 0 := nodef rfl
@[simp] theorem dep_str (i : Str) : dep (.str i) = 0 := nodef rfl
@[simp] theorem dep_tup (i : List D) : dep (.tup i) = deps i + 1 := nodef rfl
@[simp] theorem dep_lst (i : List D) : dep (.lst i) = deps i + 1 := nodef rfl
@[simp] theorem deps_nil : deps [] = 0 := nodef rfl
@[simp] theorem deps_cons (a : D) (i : List D) : deps (a :: i) = max (dep a) (deps i) := nodef rfl
theorem deps_le {n : Nat} : ∀ {ds : List D}, (∀ d ∈ ds, dep d ≤ n) → deps ds ≤ n
 | [], _ => Nat.zero_le _
 | d :: ds, h => by
  have h1 := h d (List.mem_cons_self ..)
  have h2 := deps_le (n := n) (ds := ds) fun e he => h e (List.mem_cons_of_mem _ he)
  rw [deps_cons]; omega
@[simp] theorem lay_int (b : Int) : lay (.int b) = true := nodef rfl
@[simp] theorem lay_str (b : Str) : lay (.str b) = true := nodef rfl
@[simp] theorem lay_tup (b : List D) : lay (.tup b) = layL b := nodef rfl
@[simp] theorem lay_lst (b : List D) : lay (.lst b) = layL b := nodef rfl
@[simp] theorem layL_nil : layL [] = true := nodef rfl
@[simp] theorem layL_cons (d : D) (b : List D) : layL (d :: b) = (lay d && layL b) := nodef rfl
theorem layL_map {α : Type} {f : α → D} (h : ∀ x, lay (f x) = true) : ∀ l : List α, layL (l.map f) = true
 | [] => rfl
 | x :: l => by rw [List.map_cons, layL_cons, h x, layL_map h l]; rfl
theorem eq_l {a b : D} (h : dep a ≤ 64) (ha : lay a = true := by first | rfl | assumption | (simp; done) | exact layL_map (fun _ => rfl) _ | (simp [layL_map]; done)) (hb : lay b = true := by first | rfl | assumption | (simp; done) | exact layL_map (fun _ => rfl) _ | (simp [layL_map]; done)) : eqR a b = .ok (.bl (eqB a b)) := by
 unfold eqR flat2
 have : min (toP a).depth (toP b).depth ≤ 64 := Nat.le_trans (Nat.min_le_left _ _) h
 rw [if_pos (by rw [decide_eq_true this, ha, hb]; rfl)]
theorem eq_r {a b : D} (h : dep b ≤ 64) (ha : lay a = true := by first | rfl | assumption | (simp; done) | exact layL_map (fun _ => rfl) _ | (simp [layL_map]; done)) (hb : lay b = true := by first | rfl | assumption | (simp; done) | exact layL_map (fun _ => rfl) _ | (simp [layL_map]; done)) : eqR a b = .ok (.bl (eqB a b)) := by
 unfold eqR flat2
 have : min (toP a).depth (toP b).depth ≤ 64 := Nat.le_trans (Nat.min_le_right _ _) h
 rw [if_pos (by rw [decide_eq_true this, ha, hb]; rfl)]
theorem ne_l {a b : D} (h : dep a ≤ 64) (ha : lay a = true := by first | rfl | assumption | (simp; done) | exact layL_map (fun _ => rfl) _ | (simp [layL_map]; done)) (hb : lay b = true := by first | rfl | assumption | (simp; done) | exact layL_map (fun _ => rfl) _ | (simp [layL_map]; done)) : neR a b = .ok (.bl (!eqB a b)) := by
 unfold neR flat2
 have : min (toP a).depth (toP b).depth ≤ 64 := Nat.le_trans (Nat.min_le_left _ _) h
 rw [if_pos (by rw [decide_eq_true this, ha, hb]; rfl)]
@[simp] theorem eq_int (i j : Int) : eqR (.int i) (.int j) = .ok (.bl (i == j)) := eq_l (Nat.zero_le _)
@[simp] theorem ne_int (i j : Int) : neR (.int i) (.int j) = .ok (.bl (!(i == j))) := ne_l (Nat.zero_le _)
@[simp] theorem eq_str (i j : Str) : eqR (.str i) (.str j) = .ok (.bl (i == j)) := eq_l (Nat.zero_le _)
@[simp] theorem ne_str (i j : Str) : neR (.str i) (.str j) = .ok (.bl (!(i == j))) := ne_l (Nat.zero_le _)
theorem ix_lst {ds : List D} {i : Nat} {d : D} (h : ds[i]? = some d) : idxR (.lst ds) (.int i) = .ok d := by
 show (match atI ds (i : Int) with | some d => Rs.ok d | none => .bad) = _
 rw [atI_nat h]
theorem ix_tup {ds : List D} {i : Nat} {d : D} (h : ds[i]? = some d) : idxR (.tup ds) (.int i) = .ok d := by
 show (match atI ds (i : Int) with | some d => Rs.ok d | none => .bad) = _
 rw [atI_nat h]
theorem ix_str {z : Str} {i : Nat} {c : Nat} (h : z.cps.toList[i]? = some c) : idxR (.str z) (.int i) = .ok (.str (chr1 c)) := by
 show (match atI z.cps.toList (i : Int) with | some c => Rs.ok (D.str (chr1 c)) | none => .bad) = _
 rw [atI_nat h]
@[simp] theorem ix_t0 (a : D) (r : List D) : idxR (.tup (a :: r)) (.int 0) = .ok a := ix_tup (i := 0) rfl
@[simp] theorem ix_t1 (a b : D) (r : List D) : idxR (.tup (a :: b :: r)) (.int 1) = .ok b := ix_tup (i := 1) rfl
@[simp] theorem ix_t2 (a b c : D) (r : List D) : idxR (.tup (a :: b :: c :: r)) (.int 2) = .ok c := ix_tup (i := 2) rfl
theorem rng1_ok {j : Int} (h : -(2 ^ 62) ≤ j ∧ j < 2 ^ 62) : rng1R [.int j] = .ok (rngD 0 j.toNat) := by
 show (if inRng j = true then _ else _) = _
 have : inRng j = true := decide_eq_true h
 rw [if_pos this]
noncomputable def Out.go : Out → Option DS
 | .nx δ => some δ
 | .ct δ => some δ
 | _ => none
theorem for_inv {tg : D → DS → Option DS} {F : FS} (P : List D → DS → Prop) : ∀ (ds : List D) (pre : List D) (δ : DS), P pre δ →
  (∀ (d : D) (p q : List D) (δ : DS), pre ++ ds = p ++ d :: q → P p δ → ∃ δ1 δ2, tg d δ = some δ1 ∧ (F δ1 = .nx δ2 ∨ F δ1 = .ct δ2) ∧ P (p ++ [d]) δ2) → ∃ δ', forO tg F ds δ = .nx δ' ∧ P (pre ++ ds) δ'
 | [], pre, δ, h, _ => ⟨δ, rfl, by simpa using h⟩
 | d :: ds, pre, δ, h, st => by
  obtain ⟨δ1, δ2, e1, e2, h2⟩ := st d pre ds δ rfl h
  obtain ⟨δ', e3, h3⟩ := for_inv P ds (pre ++ [d]) δ2 h2 fun d' p q δ' e => st d' p q δ' (by simpa using e)
  refine ⟨δ', ?_, by simpa using h3⟩
  unfold forO
  rw [e1]
  rcases e2 with e2 | e2 <;> (dsimp only; rw [e2]; exact e3)
theorem for_do {tg : D → DS → Option DS} {F : FS} (P : List D → DS → Prop) {ds : List D} {δ : DS} (h : P [] δ)
  (st : ∀ (d : D) (p q : List D) (δ : DS), ds = p ++ d :: q → P p δ → ∃ δ1 δ2, tg d δ = some δ1 ∧ (F δ1 = .nx δ2 ∨ F δ1 = .ct δ2) ∧ P (p ++ [d]) δ2) : ∃ δ', forO tg F ds δ = .nx δ' ∧ P ds δ' := by
 have := for_inv P ds [] δ h (by simpa using st)
 simpa using this
theorem for_map {α : Type} {tg : D → DS → Option DS} {F : FS} (f : α → D) (P : List α → DS → Prop) {xs : List α} {δ : DS} (h : P [] δ)
  (st : ∀ (x : α) (p q : List α) (δ : DS), xs = p ++ x :: q → P p δ → ∃ δ1 δ2, tg (f x) δ = some δ1 ∧ (F δ1 = .nx δ2 ∨ F δ1 = .ct δ2) ∧ P (p ++ [x]) δ2) : ∃ δ', forO tg F (xs.map f) δ = .nx δ' ∧ P xs δ' := by
 have key : ∀ (ys pre : List α) (δ : DS), xs = pre ++ ys → P pre δ → ∃ δ', forO tg F (ys.map f) δ = .nx δ' ∧ P xs δ' := by
  intro ys
  induction ys with
  | nil => intro pre δ e h; exact ⟨δ, rfl, by rw [e, List.append_nil]; exact h⟩
  | cons y ys ih =>
   intro pre δ e h
   obtain ⟨δ1, δ2, e1, e2, h2⟩ := st y pre ys δ e h
   obtain ⟨δ', e3, h3⟩ := ih (pre ++ [y]) δ2 (by simpa using e) h2
   refine ⟨δ', ?_, h3⟩
   rw [List.map_cons]
   unfold forO
   rw [e1]
   rcases e2 with e2 | e2 <;> (dsimp only; rw [e2]; exact e3)
 exact key xs [] δ rfl h
theorem comp_list {α : Type} {elt : D → Rs D} (f : α → D) (g : α → D) {xs : List α} (h : ∀ x ∈ xs, elt (f x) = .ok (g x)) : compL elt (fun _ => .ok true) (xs.map f) = .ok (xs.map g) := by
 induction xs with
 | nil => rfl
 | cons x xs ih =>
  rw [List.map_cons, List.map_cons]
  unfold compL
  rw [h x (List.mem_cons_self ..), ih fun y hy => h y (List.mem_cons_of_mem _ hy)]
theorem big_ok {ds es : List D} (h : ds.length ≤ 1000000) : bigR ds (.ok es) = .ok (.lst es) := by unfold bigR; rw [if_pos h]
theorem while_do {gc : FT} {F : FS} (P : DS → Prop) (μ : DS → Nat) (Qd : DS → Prop) (st : ∀ δ, P δ → (gc δ = .ok false ∧ Qd δ) ∨ (gc δ = .ok true ∧ ∃ δ', (F δ = .nx δ' ∨ F δ = .ct δ') ∧ P δ' ∧ μ δ' < μ δ) ∨ (gc δ = .ok true ∧ ∃ δ', F δ = .bk δ' ∧ Qd δ')) :
  ∀ (n : Nat) (δ : DS), P δ → μ δ < n → ∃ δ', whileO gc F n δ = .nx δ' ∧ Qd δ'
 | 0, δ, _, hn => absurd hn (Nat.not_lt_zero _)
 | n + 1, δ, hP, hn => by
  rcases st δ hP with ⟨e, q⟩ | ⟨e, δ', e2, hP', hm⟩ | ⟨e, δ', e2, q⟩
  ·exact ⟨δ, by unfold whileO; rw [e]; rfl, q⟩
  ·obtain ⟨δ2, e3, q⟩ := while_do P μ Qd st n δ' hP' (by omega)
   refine ⟨δ2, ?_, q⟩
   unfold whileO; rw [e]
   rcases e2 with e2 | e2 <;> (simp only [ok_out, if_true]; rw [e2]; exact e3)
  ·refine ⟨δ', ?_, q⟩
   unfold whileO; rw [e]
   simp only [ok_out, if_true]; rw [e2]
end M
set_option Elab.async false
set_option linter.all false
set_option maxRecDepth 100000
set_option maxHeartbeats 4000000
namespace M
open PySem PySem.Spec PyProof.Rows L2
set_option autoImplicit false
noncomputable def cutL {α : Type} (xs : List α) (lo hi : Option Int) : List α := (xs.drop (HT.sIx xs.length 0 lo)).take (HT.sIx xs.length xs.length hi - HT.sIx xs.length 0 lo)
noncomputable def cutT (x : Str) (lo hi : Option Int) : Str := ⟨(cutL x.cps.toList lo hi).toArray⟩
theorem clip_eq2 (v : Int) (n d : Nat) : max 0 (min (if v < 0 then v + (n : Int) else v) (n : Int)) = ((HT.sIx n d (some v) : Nat) : Int) := by
 rw [← HT.clip_eq v n d]
 by_cases hv : v < 0
 ·simp only [if_pos hv]; omega
 ·simp only [if_neg hv]; omega
theorem idx_gen (lo hi : Option Int) (n : Nat) : Builtin.Str.strSliceIndices lo hi 1 n = (List.range (HT.sIx n n hi - HT.sIx n 0 lo)).map (fun k => HT.sIx n 0 lo + k) := by
 have e : Builtin.Str.strSliceIndices lo hi 1 n = sliceRange ((HT.sIx n 0 lo : Nat) : Int) ((HT.sIx n n hi : Nat) : Int) 1 := by
  unfold Builtin.Str.strSliceIndices
  simp only [show ((1 : Int) > 0) = True from by simp, if_true]
  congr 1
  ·cases lo with
   | none => rfl
   | some v => exact clip_eq2 v n 0
  ·cases hi with
   | none => rfl
   | some v => exact clip_eq2 v n n
 rw [e]
 unfold sliceRange
 simp only [show ((1 : Int) > 0) = True from by simp, if_true]
 have e2 : (if ((HT.sIx n 0 lo : Nat) : Int) < ((HT.sIx n n hi : Nat) : Int) then (((HT.sIx n n hi : Nat) : Int) - ((HT.sIx n 0 lo : Nat) : Int) + 1 - 1) / 1 else 0).toNat = HT.sIx n n hi - HT.sIx n 0 lo := by
  split <;> omega
 rw [e2]
 apply List.map_congr_left
 intro k _
 omega
theorem pick_drop {α : Type} (l : List α) (a m : Nat) (h : a + m ≤ l.length) : ((List.range m).map fun k => a + k).filterMap (fun i => l[i]?) = (l.drop a).take m := by
 induction m with
 | zero => simp
 | succ m ih =>
  rw [List.range_succ, List.map_append, List.filterMap_append, ih (by omega)]
  have e : (l.drop a)[m]? = l[a + m]? := by rw [List.getElem?_drop]
  have hl : m < (l.drop a).length := by rw [List.length_drop]; omega
  rw [List.take_add_one, e]
  simp [List.getElem?_eq_getElem (show a + m < l.length by omega)]
theorem cutT_eq (x : Str) (lo hi : Option Int) : (⟨((Builtin.Str.strSliceIndices lo hi 1 x.length).filterMap (x.cps[·]?)).toArray⟩ : Str) = cutT x lo hi := by
 have hl : x.cps.toList.length = x.length := by simp [Str.length]
 have hb := HT.sIx_le x.length x.length (Nat.le_refl _) hi
 have ha := HT.sIx_le x.length 0 (Nat.zero_le _) lo
 unfold cutT cutL
 rw [idx_gen, hl]
 have := pick_drop x.cps.toList (HT.sIx x.length 0 lo) (HT.sIx x.length x.length hi - HT.sIx x.length 0 lo) (by rw [hl]; omega)
 rw [← this]
 simp
theorem cutT_len (x : Str) (lo hi : Option Int) : (cutT x lo hi).length ≤ x.length := by
 unfold cutT cutL Str.length
 simp
 omega
theorem cutT_all (x : Str) (lo hi : Option Int) (h : (Builtin.Str.strSliceIndices lo hi 1 x.length).length = x.length) : cutT x lo hi = x := by
 have hl : x.cps.toList.length = x.length := by simp [Str.length]
 rw [idx_gen] at h
 simp at h
 have hb := HT.sIx_le x.length x.length (Nat.le_refl _) hi
 have e1 : HT.sIx x.length 0 lo = 0 ∨ x.length = 0 := by omega
 have hx : cutL x.cps.toList lo hi = x.cps.toList := by
  unfold cutL
  rw [hl]
  rcases e1 with e1 | e1
  ·rw [e1, show HT.sIx x.length x.length hi - 0 = x.cps.toList.length by omega, List.drop_zero, List.take_length]
  ·have : x.cps.toList = [] := List.length_eq_zero_iff.mp (by omega)
   rw [this]; simp
 unfold cutT
 rw [hx]
theorem strOk_cut {x : Str} (h : PyData.strOk x = true) (lo hi : Option Int) : PyData.strOk (cutT x lo hi) = true := by
 unfold PyData.strOk at h ⊢
 rw [Array.all_eq_true_iff_forall_mem] at h ⊢
 intro c hc
 refine h c ?_
 have : c ∈ cutL x.cps.toList lo hi := by simpa [cutT] using hc
 unfold cutL at this
 have := List.mem_of_mem_drop (List.mem_of_mem_take this)
 simpa using this
noncomputable def rSlS : V → Option Int → Option Int → Hp → VK → Prop := fun x lo hi H Q => ∃ z, x = .str z ∧ z.length ≤ sizeLine ∧ Q (.str (cutT z lo hi)) H
theorem sl_str {X : Cx} : SlR X rSlS := by
 intro pins s σ H x v vl vu lo hi sl Q I rx hs pl pu h
 obtain ⟨z, rfl, hz, q⟩ := h
 obtain ⟨t, rfl⟩ := rx
 refine ⟨"str", _, F.slot_str_getitem.lookup, typeIs_str _ _ _, ?_⟩
 have key : ∀ (l u : Option (Int × Tok)), vl = partValue l → vu = partValue u → lo = l.map (·.1) → hi = u.map (·.1) → wpAny (model X.prog X.w) X.A (getItem (.str z t) (.ref sl)) (EP X pins σ Q) X.xe s := by
  intro l u e1 e2 e3 e4
  refine wpAny_getItem_str_slice (l := l) (u := u) (st := none) ?_ rfl ?_
  ·rw [e1, e2] at hs; exact hs
  ·unfold sliceMade
   split
   ·rename_i hc
    rw [Bool.and_eq_true] at hc
    have hc := eq_of_beq hc.2
    unfold slicePicked at hc
    rw [← e3, ← e4] at hc
    refine ⟨.str z, H, I, ⟨t, rfl⟩, ?_⟩
    have := cutT_all z lo hi hc
    rw [this] at q; exact q
   ·unfold slicePicked
    rw [← e3, ← e4]
    refine ⟨?_, ?_⟩
    ·show (⟨((Builtin.Str.strSliceIndices lo hi 1 z.length).filterMap (z.cps[·]?)).toArray⟩ : Str).length ≤ sizeLine
     rw [cutT_eq]; exact Nat.le_trans (cutT_len _ _ _) hz
    ·refine ⟨.str (cutT z lo hi), H, I.tok _, ⟨s.toks, ?_⟩, q⟩
     show Value.str ⟨((Builtin.Str.strSliceIndices lo hi 1 z.length).filterMap (z.cps[·]?)).toArray⟩ _ = _
     rw [cutT_eq]
 cases pl with
 | none => cases pu with
  | none => exact key none none rfl rfl rfl rfl
  | int j u => exact key none (some (j, u)) rfl rfl rfl rfl
 | int i u1 => cases pu with
  | none => exact key (some (i, u1)) none rfl rfl rfl rfl
  | int j u => exact key (some (i, u1)) (some (j, u)) rfl rfl rfl rfl
noncomputable abbrev FP := DS → Rs (Option Int)
noncomputable def noP : FP := fun _ => .ok none
noncomputable def partR : D → Rs (Option Int)
 | .int i => .ok (some i)
 | _ => .bad
noncomputable def someP (fe : FE) : FP := fun δ => fe δ >>= partR
noncomputable def sliceR : D → Option Int → Option Int → Rs D
 | .str x, lo, hi => .ok (.str (cutT x lo hi))
 | .lst ds, lo, hi => .ok (.lst (cutL ds lo hi))
 | _, _, _ => .bad
noncomputable def slF (fe : FE) (fl fh : FP) : FE := fun δ => fe δ >>= fun d => fl δ >>= fun l => fh δ >>= fun h => sliceR d l h
noncomputable def tO (X : Cx) (B G₀ : Hp) (f : FP) : TO := fun σ H Q => ∃ G δ, Rel X B G₀ σ H G δ ∧ (f δ).wp (fun c => Xo X c σ H G) fun o => ∀ H' G', Ext H G H' G' → Q o H'
section
variable {X : Cx} {B G₀ : Hp} {e : Expr} {lo hi : Option Expr} {fe : FE} {fl fh : FP} {pos p2 : Pos}
theorem q_noPart : PO X none (tO X B G₀ noP) := fun pins s σ H Q I ⟨G, δ, R, hw⟩ => po_none pins s σ H Q I (hw H G (Ext.refl R.ext.gh))
theorem q_part (he : PE X e (tE X B G₀ fe)) : PO X (some e) (tO X B G₀ (someP fe)) := fun pins s σ H Q I ⟨G, δ, R, hw⟩ => by
 refine po_some he pins s σ H Q I ⟨G, δ, R, ?_⟩
 unfold someP at hw
 rw [wp_bind] at hw
 refine Rs.wp.mono hw (fun _ x => x) fun d q v H1 G1 e1 i1 => ?_
 cases d with
 | int i => cases (show v = .int i from i1); exact ⟨i, rfl, q H1 G1 e1⟩
 | _ => exact q.elim
theorem isL_cut {K : PySem.W.Frag} {G : Hp} {ds : List D} {xs : List V} (h : IsL K G ds xs) (lo hi : Option Int) : IsL K G (cutL ds lo hi) (cutV xs lo hi) := by
 unfold cutL cutV
 rw [h.length]
 exact IsL.take _ (IsL.drop _ h)
theorem q_slice (he : PE X e (tE X B G₀ fe)) (hl : PO X lo (tO X B G₀ fl)) (hu : PO X hi (tO X B G₀ fh)) : PE X (.Subscript e (.Slice lo hi none p2) pos) (tE X B G₀ (slF fe fl fh)) := by
 refine pd_of (pe_slice (sl_str.or sl_list) he hl hu) fun σ H G δ Q R hw => ?_
 refine ⟨G, δ, R, ?_⟩
 unfold W slF at hw
 rw [wp_bind] at hw
 refine Rs.wp.mono hw (fun _ x => x) fun d q v H1 G1 e1 i1 => ?_
 rw [wp_bind] at q
 refine ⟨G1, δ, R.mono e1, Rs.wp.mono q (fun _ x => x.mono e1) fun l q2 H2 G2 e2 => ?_⟩
 rw [wp_bind] at q2
 refine ⟨G2, δ, (R.mono e1).mono e2, Rs.wp.mono q2 (fun _ x => x.mono (e1.trans e2)) fun h q3 H3 G3 e3 => ?_⟩
 have e13 := (e1.trans e2).trans e3
 have i3 := i1.same (e2.trans e3).gg
 cases d with
 | str z =>
  obtain ⟨rfl, hz, ho⟩ := i3
  exact .inl ⟨z, rfl, hz, q3 _ H3 G3 e13 ⟨rfl, Nat.le_trans (cutT_len _ _ _) hz, strOk_cut ho _ _⟩⟩
 | lst ds =>
  obtain ⟨a, xs, rfl, h1, h2, h3⟩ := i3
  refine .inr ⟨a, xs, rfl, e3.gh.seq h1, fun p hp => q3 (.ref p) _ (upd G3 p (.lst (cutV xs l h))) (e13.trans (Ext.laid e3.gh hp)) ⟨p, _, rfl, .of upd_same, Nat.le_trans (cutV_length _ _ _) h2, (isL_cut h3 l h).same (same_upd (e3.gh.free hp) _)⟩⟩
 | _ => exact q3.elim
end
@[simp] theorem s_noP (δ : DS) : noP δ = .ok none := nodef rfl
@[simp] theorem s_someP (fe : FE) (δ : DS) : someP fe δ = (fe δ >>= partR) := nodef rfl
@[simp] theorem s_partR (i : Int) : partR (.int i) = .ok (some i) := nodef rfl
@[simp] theorem s_slF (fe : FE) (fl fh : FP) (δ : DS) : slF fe fl fh δ = (fe δ >>= fun d => fl δ >>= fun l => fh δ >>= fun h => sliceR d l h) := nodef rfl
@[simp] theorem s_sliceS (x : Str) (lo hi : Option Int) : sliceR (.str x) lo hi = .ok (.str (cutT x lo hi)) := nodef rfl
theorem cut_to {α : Type} (xs : List α) (b : Nat) : cutL xs none (some (b : Int)) = xs.take b := by
 unfold cutL
 rw [HT.sIx_none, HT.sIx_nat, List.drop_zero, Nat.sub_zero]
 by_cases h : b ≤ xs.length
 ·rw [Nat.min_eq_left h]
 ·rw [Nat.min_eq_right (by omega), List.take_length, List.take_of_length_le (by omega)]
theorem cut_from {α : Type} (xs : List α) (a : Nat) : cutL xs (some (a : Int)) none = xs.drop a := by
 unfold cutL
 rw [HT.sIx_none, HT.sIx_nat]
 by_cases h : a ≤ xs.length
 ·rw [Nat.min_eq_left h, List.take_of_length_le (by rw [List.length_drop]; exact Nat.le_refl _)]
 ·rw [Nat.min_eq_right (by omega), List.drop_eq_nil_of_le (by omega), List.drop_eq_nil_of_le (by omega)]; simp
theorem cut_any {α : Type} (xs : List α) (a b : Nat) : cutL xs (some (a : Int)) (some (b : Int)) = (xs.drop a).take (b - a) := by
 unfold cutL
 rw [HT.sIx_nat, HT.sIx_nat]
 by_cases ha : a ≤ xs.length
 ·rw [Nat.min_eq_left ha]
  by_cases hb : b ≤ xs.length
  ·rw [Nat.min_eq_left hb]
  ·rw [Nat.min_eq_right (by omega), List.take_of_length_le (by rw [List.length_drop]; exact Nat.le_refl _), List.take_of_length_le (by rw [List.length_drop]; omega)]
 ·rw [List.drop_eq_nil_of_le (by omega), List.drop_eq_nil_of_le (by omega)]; simp
end M
set_option Elab.async false
set_option linter.all false
set_option maxRecDepth 100000
set_option maxHeartbeats 4000000
namespace M
open PySem PySem.Spec PyProof.Rows L2
set_option autoImplicit false
noncomputable def Itr3 (lo c : Int) (n : Nat) : It := ⟨fun i _ => i < n, fun i H x H' => H' = H ∧ x = .int (lo + i * c), fun i _ => n ≤ i⟩
theorem turn_range3 {P : Program} {w : World} {K : PySem.W.Frag} {tg : Expr} (it : Addr) (lo c : Int) (n : Nat) : Turn P w K tg (Itr3 lo c n) [it] it (fun i h => IsRangeIter h it (lo + (i : Nat) * c) ((n : Int) - (i : Nat)) c) where
 mem := by simp
 obj := fun i h st b hb => by
  have e : b = it := by simpa using hb
  subst e
  exact ⟨_, st, fun v z => by
   have z' : Data.fields _ = Data.cell v := z
   cases z'⟩
 keep := fun i h h' st k => k it (by simp) _ st
 item := by
  intro X hP hw hK hc i pins s σ H E I hf st hg
  subst hP hw hK
  obtain ⟨f0, f1, f2, f3, f4, f5⟩ := hf it (by simp)
  have W := Walks.range (prog := X.prog) (w := X.w) (I.ok.hd hc) it lo c n
  refine W.item i s _ _ hg st fun v h' tk hv st' kk => ?_
  obtain ⟨t, rfl⟩ := hv
  have I1 : Inv X pins σ H { s with heap := h', toks := tk } := I.turned (fun b o hb e => kk b o (by simpa using hb) e) f0 f1 f3 f4 f5
  exact ⟨_, rfl, go_of (s := { s with heap := h', toks := tk }) (n := "range_iterator") st' rfl rfl (by decide) ⟨.int (lo + i * c), H, I1, ⟨t, rfl⟩, ⟨rfl, rfl⟩, st', fun b hb => (hf b hb).1⟩⟩
 done := by
  intro X hP hw hK hc i pins s σ H E I hf st hg
  subst hP hw hK
  obtain ⟨f0, f1, f2, f3, f4, f5⟩ := hf it (by simp)
  exact wpAny_pyNext_range_end (I.ok.hd hc) st (by have : n ≤ i := hg; omega) fun h' eb => ⟨rfl, I.turned (t' := s.toks) (fun b o hb e => eb b o hb e) f0 f1 f3 f4 f5⟩
 self := fun _ _ _ _ _ st h => wpAny_pyIter_rangeiter st h
noncomputable def small3 (a b c : Int) : Bool := decide (-1073741824 < a ∧ a < 1073741824 ∧ -1073741824 < b ∧ b < 1073741824 ∧ -1073741824 < c ∧ c < 1073741824 ∧ c ≠ 0)
noncomputable def rngN (a b c : Int) : Nat := (Builtin.Range.rangeSize a b c).toNat
noncomputable def rngD3 (lo c : Int) (n : Nat) : List D := (List.range n).map fun (k : Nat) => .int (lo + (k : Int) * c)
theorem size3 {a b c : Int} (h : small3 a b c = true) : 0 ≤ Builtin.Range.rangeSize a b c ∧ Builtin.Range.rangeSize a b c ≤ 2147483648 := by
 obtain ⟨h1, h2, h3, h4, h5, h6, h7⟩ := of_decide_eq_true h
 unfold Builtin.Range.rangeSize
 by_cases hc : c > 0
 ·rw [if_pos hc]
  by_cases hab : a < b
  ·rw [if_pos hab]
   have e1 : 0 ≤ (b - a - 1) / c := Int.ediv_nonneg (by omega) (by omega)
   have e2 : (b - a - 1) / c ≤ b - a - 1 := Int.ediv_le_self _ (by omega)
   omega
  ·rw [if_neg hab]; omega
 ·rw [if_neg hc]
  by_cases hab : a > b
  ·rw [if_pos hab]
   have e1 : 0 ≤ (a - b - 1) / (-c) := Int.ediv_nonneg (by omega) (by omega)
   have e2 : (a - b - 1) / (-c) ≤ a - b - 1 := Int.ediv_le_self _ (by omega)
   omega
  ·rw [if_neg hab]; omega
theorem range_small3 {a b c : Int} (h : small3 a b c = true) : Builtin.Range.small a b c = true := by
 have hs := size3 h
 obtain ⟨h1, h2, h3, h4, h5, h6, h7⟩ := of_decide_eq_true h
 unfold Builtin.Range.small
 simp only [Builtin.Range.rangeFitsLong, Bool.and_eq_true, Bool.or_eq_true, decide_eq_true_eq, beq_iff_eq]
 refine ⟨⟨⟨⟨by omega, by omega⟩, by omega⟩, by omega⟩, .inr ?_⟩
 split <;> (simp only [Bool.and_eq_true, decide_eq_true_eq]; omega)
section
variable {X : Cx} {B G₀ : Hp} {tg : Expr} {a b c : Expr} {fr : FA} {p pos : Pos}
theorem itD_rng3 {lo c : Int} {n : Nat} {G1 : Hp} : ItD X (Itr3 lo c n) (rngD3 lo c n) G1 := by
 intro H G gg gh
 have hl : (rngD3 lo c n).length = n := by simp [rngD3]
 refine ⟨fun i d e => ?_, by rw [hl]; exact Nat.le_refl _⟩
 have hi : i < n := by rw [← hl]; exact (List.getElem?_eq_some_iff.mp e).1
 refine ⟨hi, fun v H2 ⟨eq, hv⟩ => ⟨G, by rw [eq]; exact Ext.refl gh, ?_⟩⟩
 unfold rngD3 at e
 rw [List.getElem?_map, List.getElem?_range hi] at e
 cases e
 exact hv
noncomputable def rng3R : List D → Rs (List D)
 | [.int a, .int b, .int c] => if small3 a b c = true then .ok (rngD3 a c (rngN a b c)) else .bad
 | _ => .bad
noncomputable def rng3 (fr : FA) : FA := fun δ => fr δ >>= rng3R
theorem q_rng3 (hm : X.mg "range" = none) (ha : PA X [a, b, c] (tAs X B G₀ fr)) (hg : Gl X "range" := by rfl) (hs : starEach [a, b, c] X.env = [(false, eval a X.env), (false, eval b X.env), (false, eval c X.env)] := by rfl) (hs2 : starEach [b, c] X.env = [(false, eval b X.env), (false, eval c X.env)] := by rfl) :
  PI X tg (.Call (.Name "range" p) [a, b, c] [] pos) (tI X B G₀ (rng3 fr)) := by
 intro pins s σ H Rk I ⟨G, δ, R, hw⟩
 refine Call_ (ld_blt I hg hm boot_range (PyProof.Rows.callWith_type1 (bindA ha I R hw fun ds us vs s1 H1 G1 I1 R1 r1 e1 i1 hw1 => ?_) (by rw [hs, hs2]) (by rw [hs2]; rfl)))
 unfold rng3R at hw1
 split at hw1
 ·rename_i x y z
  split at hw1
  ·rename_i hsm
   obtain ⟨v1, w1, rfl, h1, h2⟩ := i1
   obtain ⟨v2, v3, rfl, h2, h3⟩ := isL2 h2
   cases (show v1 = .int x from h1)
   cases (show v2 = .int y from h2)
   cases (show v3 = .int z from h3)
   cases r1 with
   | cons q1 r1 => cases r1 with
    | cons q2 r1 =>
     obtain ⟨u3, rfl, q3⟩ := vals1 r1
     obtain ⟨t1, rfl⟩ := q1
     obtain ⟨t2, rfl⟩ := q2
     obtain ⟨t3, rfl⟩ := q3
     have hsz := size3 hsm
     have hc := of_decide_eq_true hsm
     refine call_range_3 hc.2.2.2.2.2.2 ?_ (Or.inl (PyProof.noPylong_small (by omega)))
     refine wpAny_pyIter_range (IsRange.new ..) (range_small3 hsm) ?_
     have I2 : Inv X pins σ H1 { s1 with heap := s1.heap.push { cls := .type "range", data := .fields #[.int x t1, .int y t2, .int z t3] }, toks := s1.toks } := I1.kept fun b o e => Heap.get?_push_of_some _ e
     refine ⟨(s1.heap.push { cls := .type "range", data := .fields #[.int x t1, .int y t2, .int z t3] }).objs.size, [(s1.heap.push { cls := .type "range", data := .fields #[.int x t1, .int y t2, .int z t3] }).objs.size], _, _, H1, rfl,
      I2.kept (t' := s1.toks) fun b o e => Heap.get?_push_of_some _ e, turn_range3 _ x z (rngN x y z), ?_, fun b hb => ?_, hw1 _ H1 G1 e1 itD_rng3⟩
     ·have e1 : x + ((0 : Nat) : Int) * z = x := by simp
      have e2 : ((rngN x y z : Nat) : Int) - ((0 : Nat) : Int) = Builtin.Range.rangeSize x y z := by unfold rngN; omega
      show IsRangeIter _ _ (x + ((0 : Nat) : Int) * z) (((rngN x y z : Nat) : Int) - ((0 : Nat) : Int)) z
      rw [e1, e2]
      exact Heap.get?_push_size _ rfl
     ·have e : b = (s1.heap.push { cls := .type "range", data := .fields #[.int x t1, .int y t2, .int z t3] }).objs.size := by simpa using hb
      subst e
      exact I2.fpOk (Nat.le_refl _) (I2.hok.fresh (Nat.le_refl _))
  ·exact hw1.elim
 ·exact hw1.elim
end
@[simp] theorem s_rng3 (fr : FA) (δ : DS) : rng3 fr δ = (fr δ >>= rng3R) := nodef rfl
theorem rng3_ok {a b c : Int} (h : -1073741824 < a ∧ a < 1073741824 ∧ -1073741824 < b ∧ b < 1073741824 ∧ -1073741824 < c ∧ c < 1073741824 ∧ c ≠ 0) : rng3R [.int a, .int b, .int c] = .ok (rngD3 a c (rngN a b c)) := by
 show (if small3 a b c = true then _ else _) = _
 have : small3 a b c = true := decide_eq_true h
 rw [if_pos this]
end M
set_option Elab.async false
set_option linter.all false
set_option maxRecDepth 100000
set_option maxHeartbeats 4000000
namespace M
open PySem PySem.Spec PyProof.Rows L2
set_option autoImplicit false
noncomputable def getO (δ : DS) (i : Nat) : Rs (List D) := match δ[i]? with
 | some (some (.ow .l ds)) => .ok ds
 | _ => .bad
theorem getO_ok {δ : DS} {i : Nat} {ds : List D} (h : getO δ i = .ok ds) : δ[i]? = some (some (.own ds)) := by
 unfold getO at h
 split at h
 ·rename_i e; cases h; exact e
 ·cases h
theorem getO_ne {δ : DS} {i : Nat} {c : Str} : getO δ i ≠ .exc c := by
 unfold getO
 split <;> (intro h; cases h)
noncomputable def ownS (i : Nat) (fr : FA) : FS := fun δ => (fr δ).out δ fun ds => if ds.length ≤ 1000 then .nx (δ.set i (some (.own ds))) else .bad
noncomputable def mutS (i : Nat) (m : List D → List D → Rs (List D)) (fr : FA) : FS := fun δ => (getO δ i >>= fun ds => fr δ >>= fun es => m ds es).out δ fun ys => .nx (δ.set i (some (.own ys)))
noncomputable def appM (ds : List D) : List D → Rs (List D)
 | [d] => if ds.length < 1000000 then .ok (ds ++ [d]) else .bad
 | _ => .bad
noncomputable def extM (ds : List D) : List D → Rs (List D)
 | [.lst es] => if ds.length + es.length ≤ 1000000 then .ok (ds ++ es) else .bad
 | _ => .bad
theorem million : (1000000 : Nat) < sizeLine := by decide
section
variable {X : Cx} {B G₀ : Hp} {σ : St} {H G : Hp} {δ : DS} {D' : Ends} {e o : Expr} {es : List Expr} {fe : FE} {fr : FA} {F : FS} {g : FT} {x : Str} {pos pos' p apos : Pos} {st : Stmt} {sts : List Stmt}
theorem out_WA {r : Rs (List D)} {k : List D → Out} {Q : List V → Hp → Prop} (R : Rel X B G₀ σ H G δ) (hw : WS X B G₀ D' (r.out δ k)) (hk : ∀ d, r = .ok d → WS X B G₀ D' (k d) → ∀ v H' G', Ext H G H' G' → IsL X.K G' d v → Q v H') : WA X Q σ H G r := by
 cases r with
 | ok d => exact hk d rfl hw
 | exc c => exact fun pins s' H' G' ev e I x => hw pins σ s' H' G' ev (R.mono e) I x
 | bad => exact hw.elim
theorem q_own (i : Nat) {p2 : Pos} (hN : X.N.Nodup) (ha : PA X es (tAs X B G₀ fr)) (hi : X.N[i]? = some x := by rfl) (hx : Loc X.env.scope x := by first | exact Or.inl rfl | exact Or.inr rfl) (hs : swapsWith (.List es p2) (some (.Name x pos')) pos.line X.env = pure false := by rfl)
  (hf : X.fn x = true ∨ X.env.scope.names.lookup x = some .local := by first | exact .inl rfl | exact .inr rfl | assumption) :
  PS X (.Assign [.Name x pos'] (.List es p2) pos) (tS X B G₀ (ownS i fr)) := by
 refine ps_imp (ps_set hN hi hx (pe_lst ha) hs hf) fun D' σ H ⟨G, δ, R, hw⟩ => ⟨G, δ, R, out_WA R hw fun ds _ hk vs H1 G1 e1 i1 => ?_⟩
 split at hk
 ·rename_i hl
  have hz : vs.length ≤ sizeLine := Nat.le_trans (by rw [i1.length]; omega) thousand
  refine ⟨hz, fun q hq => hk _ _ G1 ((R.mono e1).setOwn i hq (same_upd hq _) upd_same (e1.gh.trans (same_upd hq _)) hz i1)⟩
 ·exact hk.elim
noncomputable def MutD (X : Cx) (r : V → List V → Hp → VK → Prop) (m : List D → List D → Rs (List D)) : Prop :=
 ∀ (H G : Hp) (a : Addr) (xs vs : List V) (ds es ys : List D) (Q : Hp → Prop), Same G H → H a = some (.lst xs) → G a = none → xs.length ≤ sizeLine → IsL X.K G ds xs → IsL X.K G es vs → m ds es = .ok ys →
  (∀ zs, zs.length ≤ sizeLine → IsL X.K G ys zs → Q (upd H a (.lst zs))) → r (.ref a) vs H fun _ H' => Q H'
theorem q_mut (i : Nat) {id : String} {r : V → List V → Hp → VK → Prop} {m : List D → List D → Rs (List D)} {name : Str} (hne : ∀ ds es c, m ds es ≠ .exc c) (slot : Slot "list" name id) (hty : typeOf (.builtin id) = pure (.type "method_descriptor")) (hm : MtR X id r) (hd : MutD X r m) (ha : PA X (e :: es) (tAs X B G₀ fr))
  (hN : X.N[i]? = some x := by rfl) (hv : Vis X.env.scope x := by first | exact Or.inl rfl | exact Or.inr (Or.inl rfl) | exact Or.inr (Or.inr rfl)) (hdb : (x == ("__debug__" : Str)) = false := by decide) (hcd : (x == ("__classdict__" : Str)) = false := by decide)
  (hbase : attributeBase (.Name x p) name X.env (eval (.Name x p) X.env) = eval (.Name x p) X.env := by rfl)
  (hfew : ((backTo pos (starEach (e :: es) X.env)).all (fun x => !x.1) && (backToKw pos (keywordEach [] X.env)).all (fun x => x.1.isSome)
   && decide ((e :: es).length + ([] : List Keyword).length + (if ([] : List Keyword).isEmpty then 0 else 1) < 30)) = true := by rfl)
  (hline : (apos.endLine == pos.line) = true := by rfl) (hs : starEach (e :: es) X.env = (false, eval e X.env) :: starEach es X.env := by rfl) (hplain : (backTo pos (starEach es X.env)).any (·.1) = false := by rfl)
  (hsw : swapsWith (.Call (.Attribute (.Name x p) name apos) (e :: es) [] pos) none pos'.line X.env = pure false := by rfl) :
  PS X (.Expr (.Call (.Attribute (.Name x p) name apos) (e :: es) [] pos) pos') (tS X B G₀ (mutS i m fr)) := by
 refine ps_imp (ps_expr (pe_bm PySem.F.plainAttrs_list slot hty hm (pe_var hN hv hdb hcd) ha hbase hfew hline hs hplain) hsw) fun D' σ H ⟨G, δ, R, hw⟩ => ?_
 unfold mutS at hw
 cases q : getO δ i with
 | exc c => exact (getO_ne q).elim
 | bad => rw [q] at hw; exact hw.elim
 | ok ds =>
  rw [q] at hw
  have hi := getO_ok q
  obtain ⟨a, xs, hσ, hH, hG, hB, hz, hI⟩ := R.own i ds hi
  refine ⟨.ref a, hσ, .inl ⟨rfl, xs, SqL.of hH⟩, G, δ, R, ?_⟩
  have hw' : WS X B G₀ D' ((fr δ).out δ fun es => (m ds es).out δ fun ys => .nx (δ.set i (some (.own ys)))) := by
   revert hw
   show WS X B G₀ D' ((fr δ >>= fun es => m ds es).out δ _) → _
   cases fr δ with
   | ok es => exact fun z => z
   | exc c => exact fun z => z
   | bad => exact fun z => z
  refine out_WA R hw' fun es' _ hk vs H1 G1 e1 i1 => ?_
  cases q2 : m ds es' with
  | exc c => exact (hne _ _ _ q2).elim
  | bad => rw [q2] at hk; exact hk.elim
  | ok ys =>
   rw [q2] at hk
   have hG1 : G1 a = none := by
    cases z : G1 a with
    | none => rfl
    | some o =>
     rcases e1.new a o z with w | w
     ·rw [hG] at w; cases w
     ·rw [hH] at w; cases w
   exact hd H1 G1 a xs vs ds es' ys (fun H' => D'.nx σ H') e1.gh (e1.hh _ _ hH) hG1 hz (hI.same e1.gg) i1 q2 fun zs hzs hI' => hk σ _ G1 ((R.mono e1).write hi hσ hzs hI')
theorem mut_append : MutD X rAppend appM := by
 intro H G a xs vs ds es ys Q gh hH hG hz hI hE hm hQ
 unfold appM at hm
 split at hm
 ·rename_i d
  split at hm
  ·rename_i hl
   cases hm
   obtain ⟨v, rfl, hv⟩ := isL1 hE
   have hl' := hI.length
   have := million
   exact ⟨a, xs, v, rfl, rfl, hH, by omega, hQ _ (by rw [List.length_append, List.length_singleton]; omega) (hI.append (IsL.one hv))⟩
  ·cases hm
 ·cases hm
theorem app_ne : ∀ ds es c, appM ds es ≠ .exc c := by
 intro ds es c h
 unfold appM at h
 split at h
 ·split at h <;> cases h
 ·cases h
noncomputable def rExtS (K : PySem.W.Frag) : V → List V → Hp → VK → Prop := fun x vs H Q => ∃ l b xs zs, x = .ref l ∧ vs = [.ref b] ∧ H l = some (.lst xs) ∧ SqL K H b zs ∧ xs.length + zs.length ≤ sizeLine ∧ Q .non (upd H l (.lst (xs ++ zs)))
theorem list_extend_any (l : Addr) (items : Array Value) (n : Nat) (b : Addr) (items2 : Array Value) (o2 : Obj) (n2 : Nat) (hc0 : ¬(!items.isEmpty && Builtin.List.listTooLong (items.size + items2.size)) = true) (hc1 : items.size ≤ sizeLine) (hs2 : items.size + items2.size ≤ sizeLine + 1) (sl : Array (Option Value)) :
  Meets (Builtin.«list.extend» ⟨[.ref l, .ref b], []⟩) (fun _ R s => s.heap.get? l = some { cls := .type "list", dict := none, data := .seq items n, slots := #[] } ∧ s.heap.get? b = some { cls := .type "list", dict := none, data := .seq items2 n2, slots := sl } ∧ R (.ok (.ret Value.none)) { s with heap := s.heap.update l (Obj.mapSeq fun x => x ++ items2), toks := s.toks }) :=
 .of_wp fun prog w A R s h => by
  obtain ⟨hp, g, d, tk, os⟩ := s; obtain ⟨hl, hb, h⟩ := h; have f1 := AutoSeq1.idx_int; have f2 := AutoSeq1.sub_tuple_tuple; have f3 := AutoSeq1.sub_list_list; have f4 := AutoSeq1.sub_tuple_list; have f5 := AutoSeq1.sub_list_tuple;
  have hz' : (items ++ items2).size ≤ sizeLine + 1 := by rw [Array.size_append]; exact hs2
  wp_walk using (wpAny_updateSeq hl rfl (hz := hc1) (_hz' := hz')), AutoSeq1.wpAny_loadPart' hl, AutoSeq1.wpAny_loadPart' hb; exact ⟨_, rfl, h⟩
theorem mt_extS : MtR X "list.extend" (rExtS X.K) := by
 intro pins s σ H x vs v us Q I rx rv h
 obtain ⟨l, b, xs, zs, rfl, rfl, hH, hB, hz, q⟩ := h
 cases rx
 obtain ⟨u, rfl, ru⟩ := rv.one
 cases ru
 obtain ⟨z, its, n, r, hl, e⟩ := I.lstM hH
 obtain ⟨its2, r2, ⟨o2, n2, e2, c2, d2, dt2⟩, z2⟩ := I.list hB
 obtain ⟨cls2, dict2, data2, sl2⟩ := o2
 dsimp only at c2 d2 dt2
 subst c2 d2 dt2
 have hl2 := r2.length
 have hsz : its.toArray.size + its2.toArray.size ≤ sizeLine := by rw [List.size_toArray, List.size_toArray]; omega
 have hlong : ¬ (!its.toArray.isEmpty && Builtin.List.listTooLong (its.toArray.size + its2.toArray.size)) = true := by
  rw [notLongL hsz, Bool.and_false]
  exact Bool.false_ne_true
 refine call_meets F.slot_list_extend ⟨_, e, rfl⟩ F.entry_list_extend (F.args_list_extend_2 _ _)
  (list_extend_any l its.toArray n b its2.toArray default n2 hlong (by rw [List.size_toArray]; omega) (by omega) sl2) ⟨e, e2, ?_⟩
 refine ⟨.non, _, I.lset (its' := its ++ its2) hH e (by simp) (r.append r2) ?_, rfl, q⟩
 rw [List.length_append]
 omega
theorem mut_extend : MutD X (rExtS X.K) extM := by
 intro H G a xs vs ds es ys Q gh hH hG hz hI hE hm hQ
 unfold extM at hm
 split at hm
 ·rename_i ds2
  split at hm
  ·rename_i hl
   cases hm
   obtain ⟨v, rfl, b, zs, rfl, h1, h2, h3⟩ := isL1 hE
   have hl' := hI.length
   have hl2 := h3.length
   have := million
   exact ⟨a, b, xs, zs, rfl, rfl, hH, gh.seq h1, by omega, hQ _ (by rw [List.length_append]; omega) (hI.append h3)⟩
  ·cases hm
 ·cases hm
theorem ext_ne : ∀ ds es c, extM ds es ≠ .exc c := by
 intro ds es c h
 unfold extM at h
 split at h
 ·split at h <;> cases h
 ·cases h
noncomputable def setM (ds : List D) (i d : D) : Rs (List D) := match i with
 | .int k => match ixN ds.length k with
  | some j => .ok (ds.set j d)
  | none => .bad
 | _ => .bad
noncomputable def setiS (i : Nat) (fi fe : FE) : FS := fun δ => (fe δ >>= fun d => getO δ i >>= fun ds => fi δ >>= fun k => setM ds k d).out δ fun ys => .nx (δ.set i (some (.own ys)))
noncomputable def lentT (g : FT) : FT := fun δ => g (share δ)
noncomputable def shareS' (F : FS) : FS := fun δ => F (share δ)
theorem back_ext {G1 H1 G2 : Hp} (R : Rel X B G₀ σ H G δ) (s1 : Same G G1) (nw : ∀ b o, G1 b = some o → G b = some o ∨ ownAt σ δ b) (e : Ext H G1 H1 G2) : ∃ G', Ext H G H1 G' ∧ Same G' G2 ∧ ∀ H2 G3, Ext H1 G2 H2 G3 → ∃ G4, Ext H1 G' H2 G4 := by
 classical
 refine ⟨fun b => if ownAt σ δ b then none else G2 b, ⟨e.hh, fun b o q => ?_, fun b o q => ?_, fun b o q => ?_⟩, fun b o q => ?_, fun H2 G3 e2 => ⟨fun b => if ownAt σ δ b then none else G3 b, e2.hh, fun b o q => ?_, fun b o q => ?_, fun b o q => ?_⟩⟩
 ·have hn : ¬ ownAt σ δ b := by
   rintro ⟨i, k0, ds, h1, h2⟩
   obtain ⟨a, xs, z1, z2, z3, _⟩ := R.own i ds h1
   rw [h2] at z1; cases z1
   rw [q] at z3; cases z3
  show (if ownAt σ δ b then none else G2 b) = some o
  rw [if_neg hn]; exact e.gg b o (s1 b o q)
 ·have q : (if ownAt σ δ b then none else G2 b) = some o := q
  split at q
  ·cases q
  ·exact e.gh b o q
 ·have q : (if ownAt σ δ b then none else G2 b) = some o := q
  split at q
  ·cases q
  ·rename_i hn
   rcases e.new b o q with z | z
   ·rcases nw b o z with w | w
    ·exact .inl w
    ·exact absurd w hn
   ·exact .inr z
 ·have q : (if ownAt σ δ b then none else G2 b) = some o := q
  split at q
  ·cases q
  ·exact q
 ·have q : (if ownAt σ δ b then none else G2 b) = some o := q
  show (if ownAt σ δ b then none else G3 b) = some o
  split at q
  ·cases q
  ·rename_i hn; rw [if_neg hn]; exact e2.gg b o q
 ·have q : (if ownAt σ δ b then none else G3 b) = some o := q
  split at q
  ·cases q
  ·exact e2.gh b o q
 ·have q : (if ownAt σ δ b then none else G3 b) = some o := q
  split at q
  ·cases q
  ·rename_i hn
   rcases e2.new b o q with z | z
   ·exact .inl (by show (if ownAt σ δ b then none else G2 b) = some o; rw [if_neg hn]; exact z)
   ·exact .inr z
theorem Rel.lent {B0 : Hp} (R : Rel X B G₀ σ H G δ) : ∃ G1, Rel X (fun _ => none) (fun _ => none) σ H G1 (M.share δ) ∧ Same G G1 ∧ (∀ b o, G1 b = some o → G b = some o ∨ ownAt σ δ b) := by
 obtain ⟨G1, R1, h1, h2, h3⟩ := R.share
 refine ⟨G1, ⟨⟨fun _ _ z => (by cases z), fun _ _ z => (by cases z), h2, fun _ _ _ => .inr rfl⟩, R1.len, R1.val, fun i k0 ds q => ?_, R1.apart⟩, h1, h3⟩
 obtain ⟨a, xs, z1, z2, z3, _, z4⟩ := R1.own i ds q
 exact ⟨a, xs, z1, z2, z3, rfl, z4⟩
theorem q_lentT (h : PT X e (tT X (fun _ => none) (fun _ => none) g)) : PT X e (tT X B G₀ (lentT g)) := by
 intro pins s σ H Q I ⟨G, δ, R, hw⟩
 obtain ⟨G1, R1, s1, nw⟩ := Rel.lent (B0 := B) R
 refine h pins s σ H Q I ⟨G1, M.share δ, R1, ?_⟩
 refine Rs.wp.mono hw (fun c xo => ?_) fun b q H1 G2 e1 => ?_
 ·intro pins s' H1 G2 ev e1 I' x'
  obtain ⟨G', e', _, hb⟩ := back_ext R s1 nw e1
  rintro ⟨ea, C, Bk, H2, G3, z1, z2, z3, z4⟩
  obtain ⟨G4, e4⟩ := hb H2 G3 z3
  exact xo pins s' H1 G' ev e' I' x' ⟨ea, C, Bk, H2, G4, z1, z2, e4, z4⟩
 ·obtain ⟨G', e', _⟩ := back_ext R s1 nw e1
  exact q H1 G' e'
theorem q_share (h : PS X st (tS X B G₀ F)) : PS X st (tS X B G₀ (shareS' F)) :=
 ps_imp h fun D' σ H ⟨G, δ, R, hw⟩ => by
  obtain ⟨G1, R1, _⟩ := R.share
  exact ⟨G1, M.share δ, R1, hw⟩
end
@[simp] theorem s_getO0 (ds : List D) (δ : DS) : getO (some (.own ds) :: δ) 0 = .ok ds := nodef rfl
@[simp] theorem s_getOs (x : Option Sl) (δ : DS) (i : Nat) : getO (x :: δ) (i + 1) = getO δ i := nodef rfl
@[simp] theorem s_ownS (i : Nat) (fr : FA) (δ : DS) : ownS i fr δ = (fr δ).out δ fun ds => if ds.length ≤ 1000 then .nx (δ.set i (some (.own ds))) else .bad := nodef rfl
@[simp] theorem s_mutS (i : Nat) (m : List D → List D → Rs (List D)) (fr : FA) (δ : DS) : mutS i m fr δ = (getO δ i >>= fun ds => fr δ >>= fun es => m ds es).out δ fun ys => .nx (δ.set i (some (.own ys))) := nodef rfl
theorem s_appM {ds : List D} {d : D} (h : ds.length < 1000000) : appM ds [d] = .ok (ds ++ [d]) := by unfold appM; dsimp only; rw [if_pos h]
theorem s_extM {ds es : List D} (h : ds.length + es.length ≤ 1000000) : extM ds [.lst es] = .ok (ds ++ es) := by unfold extM; dsimp only; rw [if_pos h]
@[simp] theorem s_setiS (i : Nat) (fi fe : FE) (δ : DS) : setiS i fi fe δ = (fe δ >>= fun d => getO δ i >>= fun ds => fi δ >>= fun k => setM ds k d).out δ fun ys => .nx (δ.set i (some (.own ys))) := nodef rfl
@[simp] theorem s_lentT (g : FT) (δ : DS) : lentT g δ = g (share δ) := nodef rfl
@[simp] theorem s_shareS (F : FS) (δ : DS) : shareS' F δ = F (share δ) := nodef rfl
@[simp] theorem s_share0 : share [] = [] := nodef rfl
@[simp] theorem s_shareV (d : D) (δ : DS) : share (some (.v d) :: δ) = some (.v d) :: share δ := nodef rfl
end M
set_option Elab.async false
set_option linter.all false
set_option maxRecDepth 100000
set_option maxHeartbeats 4000000
namespace M
open PySem PySem.Spec PyProof.Rows L2
set_option autoImplicit false
theorem inv_enum {X : Cx} {pins : List (Addr × Obj)} {σ : St} {H : Hp} {s : Shared} {h' : Heap} {e it t : Addr} {o : HO} {t' : Nat} (I : Inv X pins σ H s) (k : ∀ b o, b ≠ e → b ≠ it → s.heap.get? b = some o → h'.get? b = some o)
  (f1 : FpOk X pins H e) (f2 : FpOk X pins H it) (ht : t = s.heap.objs.size) (new : ObjOk X.prog X.w (upd H t o) h' t o) : Inv X pins σ (upd H t o) { s with heap := h', toks := t' } := by
 have hn : H t = none := by rw [ht]; exact I.hok.fresh (Nat.le_refl _)
 have lt : ∀ b ob, s.heap.get? b = some ob → b ≠ t := fun b ob q => by rw [ht]; exact Nat.ne_of_lt (Heap.lt_size q)
 have nit : ∀ b u, H b = some u → b ≠ e ∧ b ≠ it := fun b u q => ⟨fun z => (by rw [z, f1.1] at q; cases q), fun z => (by rw [z, f2.1] at q; cases q)⟩
 refine I.step (g' := s.gens) (d' := s.drawn) (ch := [e, it]) (fun b hb => ?_) (fun b ob _ _ hc q _ => k b ob (fun z => hc (by simp [z])) (fun z => hc (by simp [z])) q) (fun b ob _ _ hc q _ => ⟨ob.slots, k b ob (fun z => hc (by simp [z])) (fun z => hc (by simp [z])) q⟩)
  (fun b ob _ q n => by rw [upd_ne (lt b ob q)]; exact n) (fun b ob hc q => ⟨ob, k b ob (fun z => hc (by simp [z])) (fun z => hc (by simp [z])) q⟩) (fun b xs q => by rw [upd_ne (ne_of_none q hn)]; exact q) (fun b ob xs q => by rw [upd_ne (ne_of_none q hn)]; exact q)
  (fun b ps q => ⟨#[], by rw [upd_ne (ne_of_none q hn), q]; simp⟩) (fun m hm => ?_) (fun b u q => ?_) I.bare
 ·have hb' : b = e ∨ b = it := by simpa using hb
  rcases hb' with z | z
  ·subst z; exact ⟨f1.2.2.2.1, f1.2.1, f1.2.2.2.2.1, f1.2.2.2.2.2⟩
  ·subst z; exact ⟨f2.2.2.2.1, f2.2.1, f2.2.2.2.2.1, f2.2.2.2.2.2⟩
 ·obtain ⟨o, es, ep, ho, r⟩ := hm
  exact ⟨o, es, ep, k _ o (Ne.symm f1.2.1) (Ne.symm f2.2.1) ho, r⟩
 ·by_cases hb : b = t
  ·subst hb; rw [upd_same] at q; cases q; exact new
  ·rw [upd_ne hb] at q
   refine (I.hok b u q).stay (fun c v hc z => k c v ?_ ?_ z) (fun c z => by rw [upd_ne (ne_of_none z hn)]; exact z) fun c xs z => by rw [upd_ne (ne_of_none z hn)]; exact z
   ·rcases hc with z1 | z1
    ·rw [z1]; exact (nit b u q).1
    ·exact (nit c _ z1).1
   ·rcases hc with z1 | z1
    ·rw [z1]; exact (nit b u q).2
    ·exact (nit c _ z1).2
noncomputable def Ite (K : PySem.W.Frag) (a : Addr) : It :=
 ⟨fun i H => ∃ xs x, SqL K H a xs ∧ xs[i]? = some x, fun i H x H' => ∃ t v, H t = none ∧ x = .ref t ∧ H' = upd H t (.tup [.int i, v]) ∧ ∀ xs, SqL K H a xs → xs[i]? = some v, fun i H => ∃ xs, SqL K H a xs ∧ xs.length ≤ i⟩
theorem turn_enum {P : Program} {w : World} {K : PySem.W.Frag} {elts : List Expr} {x1} {pos : Pos} (a e it : Addr) (hne : e ≠ it) : Turn P w K (.Tuple elts x1 pos) (Ite K a) [e, it] e (fun i h => ∃ old, IsEnum h e it (i : Nat) old ∧ h.IsListIter it a i) where
 mem := by simp
 obj := fun i h st b hb => by
  obtain ⟨old, h1, o, h2, c, d⟩ := st
  have e : b = e ∨ b = it := by simpa using hb
  rcases e with z | z
  ·subst z
   exact ⟨_, h1, fun v q => by
    have q' : Data.fields _ = Data.cell v := q
    cases q'⟩
  ·subst z
   exact ⟨o, h2, fun v z => by rw [d] at z; cases z⟩
 keep := fun i h h' st k => by
  obtain ⟨old, h1, h2⟩ := st
  exact ⟨old, k e (by simp) _ h1, h2.at fun o q => k it (by simp) o q⟩
 item := by
  intro X hP hw hK hc i pins s σ H E I hf st hg
  subst hP hw hK
  obtain ⟨old, he, hit⟩ := st
  obtain ⟨xs, x, hq, hx⟩ := hg
  obtain ⟨its, rv, p, hz⟩ := I.list hq
  obtain ⟨u, hu, ru⟩ := rv.get hx
  have fe := hf e (by simp)
  have fi := hf it (by simp)
  refine wpAny_pyNext_enum_item he hit p.isList (x := u) (by simpa using hu) hne fun h1 heo hit1 ht1 hz1 hk1 => ?_
  refine ⟨_, rfl, wpAny_letOwnedTupleGo_enum heo fun h2 he2 hs2 => ?_⟩
  replace hs2 : Heap.SameBut e h1 h2 := hs2
  have hte : s.heap.objs.size ≠ e := Nat.ne_of_gt (Heap.lt_size he)
  have ht2 : h2.get? s.heap.objs.size = some { cls := .type "tuple", data := .seq #[.int i s.toks, u] } := (hs2.2 _ hte).trans ht1
  have hn : H s.heap.objs.size = none := I.hok.fresh (Nat.le_refl _)
  have I1 : Inv X pins σ (upd H s.heap.objs.size (.tup [.int i, x])) { s with heap := h2, toks := s.toks + 1 } :=
   inv_enum I (fun b o hb1 hb2 q => (hs2.2 b hb1).trans (hk1 b o hb1 hb2 q)) fe fi rfl
    ⟨by show 2 ≤ sizeLine; decide, [.int i s.toks, u], .cons ⟨_, rfl⟩ (.cons ru .nil), ⟨_, ht2, rfl, 0, rfl⟩⟩
  refine ⟨.ref s.heap.objs.size, _, I1, rfl, ⟨s.heap.objs.size, x, hn, rfl, rfl, fun ys hy => by rw [I.list_inj hy hq]; exact hx⟩, ⟨u, he2, ?_⟩, fun b hb => ?_⟩
  ·exact hit1.at fun o q => (hs2.2 it (Ne.symm hne)).trans q
  ·have hb' : b = e ∨ b = it := by simpa using hb
   have hlt : b < s.heap.objs.size := by
    rcases hb' with z | z
    ·rw [z]; exact Heap.lt_size he
    ·obtain ⟨o, q, _⟩ := hit; rw [z]; exact Heap.lt_size q
   rw [upd_ne (Nat.ne_of_lt hlt)]
   exact (hf b hb).1
 done := by
  intro X hP hw hK hc i pins s σ H E I hf st hg
  subst hP hw hK
  obtain ⟨old, he, hit⟩ := st
  obtain ⟨xs, hq, hx⟩ := hg
  obtain ⟨its, rv, p, hz⟩ := I.list hq
  obtain ⟨f0, f1, f2, f3, f4, f5⟩ := hf it (by simp)
  have hl := rv.length
  exact wpAny_pyNext_enum_end (I.ok.hd hc) he hit p.isList (by simp; omega) fun h' eb => ⟨rfl, I.turned (t' := s.toks) (fun b o hb q => eb b o hb q) f0 f1 f3 f4 f5⟩
 self := fun _ _ _ _ _ st h => by
  obtain ⟨old, he, _⟩ := st
  exact wpAny_pyIter_enum he h
noncomputable def enumD (ds : List D) : List D := (ds.zipIdx 0).map fun x => .tup [.int x.2, x.1]
theorem enumD_get {ds : List D} {i : Nat} {d : D} (h : (enumD ds)[i]? = some d) : ∃ x, ds[i]? = some x ∧ d = .tup [.int i, x] := by
 unfold enumD at h
 rw [List.getElem?_map, List.getElem?_zipIdx] at h
 cases q : ds[i]? with
 | none => rw [q] at h; cases h
 | some x => rw [q] at h; simp at h; exact ⟨x, rfl, h.symm⟩
theorem itD_enum {X : Cx} {a : Addr} {xs : List V} {ds : List D} {G1 : Hp} (h1 : SqL X.K G1 a xs) (h3 : IsL X.K G1 ds xs) : ItD X (Ite X.K a) (enumD ds) G1 := by
 intro H G gg gh
 have hs : SqL X.K H a xs := (gg.trans gh).seq h1
 have hi := h3.same gg
 have hl : (enumD ds).length = ds.length := by unfold enumD; simp
 refine ⟨fun i d e => ?_, xs, hs, by rw [h3.length, hl]; exact Nat.le_refl _⟩
 obtain ⟨x, hx, rfl⟩ := enumD_get e
 obtain ⟨v, hv, ix⟩ := hi.get hx
 refine ⟨⟨xs, v, hs, hv⟩, fun y H2 ⟨t, v', hn, ey, eH, q⟩ => ?_⟩
 have := q xs hs
 rw [hv] at this; cases this
 subst ey eH
 exact ⟨upd G t (.tup [.int i, v]), Ext.laid gh hn, t, _, rfl, upd_same, by show 2 ≤ sizeLine; decide, .cons rfl (.cons (ix.same (same_upd (gh.free hn) _)) rfl)⟩
noncomputable def enumF (fe : FE) : FA := fun δ => fe δ >>= fun d => match d with
 | .lst ds => .ok (enumD ds)
 | _ => .bad
section
variable {X : Cx} {B G₀ : Hp} {e : Expr} {fe : FE} {p pos : Pos} {elts : List Expr} {x1 : _} {tp : Pos}
theorem q_enum {x1} (hm : X.mg "enumerate" = none) (he : PE X e (tE X B G₀ fe)) (hg : Gl X "enumerate" := by rfl) (hs : starEach [e] X.env = [(false, eval e X.env)] := by rfl) : PI X (.Tuple elts x1 tp) (.Call (.Name "enumerate" p) [e] [] pos) (tI X B G₀ (enumF fe)) := by
 intro pins s σ H Rk I ⟨G, δ, R, hw⟩
 have hb : bootBuiltins "enumerate" = some (.type "enumerate") := by rfl
 have hA : PA X [e] (tAs X B G₀ (aC fe a0)) := q_aC he q_a0 (by rw [hs]; rfl)
 have hw' : ((aC fe a0) δ >>= fun ds => match ds with | [.lst ds] => (.ok (enumD ds) : Rs (List D)) | _ => .bad).wp (fun c => Xo X c σ H G) fun ds => ∀ J H' G', Ext H G H' G' → ItD X J ds G' → Rk J H' := by
  revert hw
  unfold enumF aC a0
  cases fe δ with
  | ok d => cases d <;> exact fun z => z
  | exc c => exact fun z => z
  | bad => exact fun z => z
 refine Call_ (ld_blt I hg hm hb (PyProof.Rows.callWith_type1 (bindA hA I R hw' fun ds us vs s1 H1 G1 I1 R1 r1 e1 i1 hw1 => ?_) hs rfl))
 split at hw1
 ·rename_i ds2
  obtain ⟨v, rfl, a, xs, rfl, h1, h2, h3⟩ := isL1 i1
  obtain ⟨u, rfl, ru⟩ := vals1 r1
  cases ru
  obtain ⟨its, rv, pl, hz⟩ := I1.list (R1.ext.gh.seq h1)
  refine call_enumerate_list pl.isList fun h' he' hit' hz' hk' => ?_
  have I2 : Inv X pins σ H1 { s1 with heap := h' } := I1.kept (t' := s1.toks) hk'
  refine wpAny_pyIter_enum he' ?_
  have fp1 : ∀ b ∈ [s1.heap.objs.size + 1, s1.heap.objs.size], FpOk X pins H1 b := fun b hb => by
   have hb' : b = s1.heap.objs.size + 1 ∨ b = s1.heap.objs.size := by simpa using hb
   have : s1.heap.objs.size ≤ b := by omega
   exact I1.fpOk this (I1.hok.fresh this)
  exact ⟨s1.heap.objs.size + 1, [s1.heap.objs.size + 1, s1.heap.objs.size], _, _, H1, rfl, I2, turn_enum a (s1.heap.objs.size + 1) s1.heap.objs.size (Nat.succ_ne_self _), ⟨.none, he', hit'⟩, fp1, hw1 _ H1 G1 e1 (itD_enum h1 h3)⟩
 ·exact hw1.elim
end
noncomputable def enumR : D → Rs (List D)
 | .lst ds => .ok (enumD ds)
 | _ => .bad
@[simp] theorem s_enumF (fe : FE) (δ : DS) : enumF fe δ = (fe δ >>= enumR) := by
 unfold enumF
 cases fe δ with
 | ok d => cases d <;> rfl
 | exc c => rfl
 | bad => rfl
@[simp] theorem s_enumR (ds : List D) : enumR (.lst ds) = .ok (enumD ds) := nodef rfl
noncomputable def tgT (i j : Nat) (d : D) (δ : DS) : Option DS := match d with
 | .tup [a, b] => some ((δ.set i (some (.v a))).set j (some (.v b)))
 | _ => none
@[simp] theorem s_tgT (i j : Nat) (a b : D) (δ : DS) : tgT i j (.tup [a, b]) δ = some ((δ.set i (some (.v a))).set j (some (.v b))) := nodef rfl
end M
set_option Elab.async false
set_option linter.all false
set_option maxRecDepth 100000
set_option maxHeartbeats 4000000
namespace M
open PySem PySem.Spec PyProof.Rows L2
set_option autoImplicit false
noncomputable def compOk2 (sc scope : Scope) (N : List Str) (x y0 : Str) (fr : List (Str × Nat)) : Bool :=
 (scope.kind == .function) && (sc.kind == .function) && scope.names.all (fun y => !(y.2 == .cell)) && scope.names.all (fun y => !(y.2 == .local) || scope.names.lookup y.1 == some .local) &&
 scope.names.all (fun y => !(y.2 == .free) || (sc.names.lookup y.1 == some .cell || sc.names.lookup y.1 == some .free)) && (scope.names.lookup x == some .local) && (scope.names.lookup y0 == some .local) &&
 fr.all (fun y => scope.names.lookup y.1 == some .free && scope.names.contains (y.1, .free) && (sc.names.lookup y.1 == some .cell || sc.names.lookup y.1 == some .free) && N[y.2]? == some y.1) && decide ((x :: y0 :: fr.map (·.1)).Nodup)
structure CompOk2 (sc scope : Scope) (N : List Str) (x y0 : Str) (fr : List (Str × Nat)) : Prop where
 kind : scope.kind = .function
 skind : sc.kind = .function
 cell : ∀ y ∈ scope.names, y.2 ≠ .cell
 loc : ∀ y ∈ scope.names, y.2 = .local → scope.names.lookup y.1 = some .local
 free : ∀ y ∈ scope.names, y.2 = .free → sc.names.lookup y.1 = some .cell ∨ sc.names.lookup y.1 = some .free
 hx : scope.names.lookup x = some .local
 hy : scope.names.lookup y0 = some .local
 frs : ∀ y ∈ fr, scope.names.lookup y.1 = some .free ∧ (y.1, NameKind.free) ∈ scope.names ∧ (sc.names.lookup y.1 = some .cell ∨ sc.names.lookup y.1 = some .free) ∧ N[y.2]? = some y.1
 nd : (x :: y0 :: fr.map (·.1)).Nodup
theorem CompOk2.of {sc scope : Scope} {N : List Str} {x y0 : Str} {fr : List (Str × Nat)} (h : compOk2 sc scope N x y0 fr = true) : CompOk2 sc scope N x y0 fr := by
 unfold compOk2 at h
 simp only [Bool.and_eq_true, List.all_eq_true, Bool.or_eq_true, Bool.not_eq_true', beq_iff_eq, beq_eq_false_iff_ne, decide_eq_true_eq, List.contains_iff_mem, ne_eq] at h
 obtain ⟨⟨⟨⟨⟨⟨⟨⟨h1, h2⟩, h3⟩, h4⟩, h5⟩, h6⟩, h6'⟩, h7⟩, h8⟩ := h
 refine ⟨h1, h2, fun y hy => h3 y hy, fun y hy e => ?_, fun y hy e => ?_, h6, h6', fun y hy => ?_, h8⟩
 ·rcases h4 y hy with q | q
  ·exact absurd e q
  ·exact q
 ·rcases h5 y hy with q | q
  ·exact absurd e q
  ·exact q
 ·obtain ⟨⟨⟨q1, q2⟩, q3⟩, q4⟩ := h7 y hy
  exact ⟨q1, q2, q3, q4⟩
noncomputable def compCx2 (X : Cx) (scope : Scope) (x y0 : Str) (fr : List (Str × Nat)) (C : Addr) (s₀ : Shared) (H₀ : Hp) (fp : List Addr) : Cx :=
 { X with N := x :: y0 :: fr.map (·.1), s₀ := s₀, H₀ := H₀, env := compEnvC scope (clOf X.env.cells scope.names []) C X.env, outer := X.stack, stack := X.stack, ex := fp, fn := fun _ => false, pn := [], xe := fun _ _ => False }
inductive Tst2 (X : Cx) (scope : Scope) (x y0 : Str) (fr : List (Str × Nat)) : List Expr → (DS → Rs Bool) → Prop
 | nil : Tst2 X scope x y0 fr [] fun _ => .ok true
 | one {c : Expr} {g : DS → Rs Bool} (h : ∀ C s₀ H₀ fp B G₀, PT (compCx2 X scope x y0 fr C s₀ H₀ fp) c (tT (compCx2 X scope x y0 fr C s₀ H₀ fp) B G₀ g)) : Tst2 X scope x y0 fr [c] g
theorem Tst2.run {X : Cx} {scope : Scope} {x y0 : Str} {fr : List (Str × Nat)} {ifs : List Expr} {g : DS → Rs Bool} (h : Tst2 X scope x y0 fr ifs g) {C : Addr} {s₀ : Shared} {H₀ : Hp} {fp : List Addr} {pins : List (Addr × Obj)} {s : Shared} {σ : St} {B G₀ H G : Hp} {δ : DS} {b : Bool} {Q : Bool → Shared → Prop}
  (I : Inv (compCx2 X scope x y0 fr C s₀ H₀ fp) pins σ H s) (R : Rel (compCx2 X scope x y0 fr C s₀ H₀ fp) B G₀ σ H G δ) (e : g δ = .ok b) (hQ : ∀ s' H' G', Inv (compCx2 X scope x y0 fr C s₀ H₀ fp) pins σ H' s' → Ext H G H' G' → Q b s') :
  wpAny (model X.prog X.w) X.A (forIn ifs true fun c r => if r = true then do let ok ← isTrue c (compCx2 X scope x y0 fr C s₀ H₀ fp).env (eval c (compCx2 X scope x y0 fr C s₀ H₀ fp).env); pure (ForInStep.yield ok) else pure (ForInStep.yield r)) Q (fun _ _ => False) s := by
 cases h with
 | nil =>
  cases e
  exact wpAny_tests_nil (hQ s H G I (Ext.refl R.ext.gh))
 | one h =>
  refine wpAny_tests_one (thn (h C s₀ H₀ fp B G₀ pins s σ H (fun b' H' => b' = b ∧ ∃ G', Ext H G H' G') I ⟨G, δ, R, ?_⟩) fun b' s' ⟨H', I', e1, G', e2⟩ => ?_)
  ·rw [e]; exact fun H' G' e => ⟨rfl, G', e⟩
  ·subst e1; exact hQ s' H' G' I' e2
inductive CompI2 (X : Cx) (Y : Cx) (fp : List Addr) (tn : Nat → Heap → Prop) (inn : Option V → Option V → St) (cl : List D → Rs (List D)) (H2 G2 : Hp) (Dl : Addr) (ds all : List D) (n : Nat) (s' : Shared) : Prop
 | mk (k : Nat) (vx vw : Option V) (H' G' : Hp) (ys : List V) (es rest : List D) (h1 : k ≤ ds.length) (h2 : n = ds.length - k) (h3 : Inv Y [] (inn vx vw) H' s') (h4 : tn k s'.heap) (h5 : ∀ b ∈ fp, H' b = none)
   (h6 : Ext H2 G2 H' G') (h7 : G' Dl = none) (h8 : H' Dl = some (.lst ys)) (h9 : IsL X.K G' es ys) (h10 : es.length ≤ k) (h11 : cl (ds.drop k) = .ok rest) (h12 : all = es ++ rest)
end M
set_option Elab.async false
set_option linter.all false
set_option maxRecDepth 100000
set_option maxHeartbeats 4000000
namespace M
open PySem PySem.Spec PyProof.Rows L2
set_option autoImplicit false
noncomputable def ixO (i : Nat) (fi : FE) : FE := fun δ => getO δ i >>= fun ds => fi δ >>= fun k => idxR (.lst ds) k
section
variable {X : Cx} {B G₀ : Hp} {σ : St} {H G : Hp} {δ : DS} {e a b : Expr} {fe fa fb : FE} {x : Str} {pos pos' p : Pos}
theorem q_ixO (i : Nat) (he : PE X e (tE X B G₀ fe)) (hN : X.N[i]? = some x := by rfl) (hv : Vis X.env.scope x := by first | exact Or.inl rfl | exact Or.inr (Or.inl rfl) | exact Or.inr (Or.inr rfl)) (hdb : (x == ("__debug__" : Str)) = false := by decide) (hcd : (x == ("__classdict__" : Str)) = false := by decide)
  (hs : PlainIx e := by intro _ _; rfl) : PE X (.Subscript (.Name x p) e pos) (tE X B G₀ (ixO i fe)) := by
 refine pd_of (pe_ix ix_list (pe_var hN hv hdb hcd) he hs) fun σ H G δ Q R hw => ?_
 unfold W ixO at hw
 cases q : getO δ i with
 | exc c => exact (getO_ne q).elim
 | bad => rw [q] at hw; exact hw.elim
 | ok ds =>
  rw [q] at hw
  have hi := getO_ok q
  obtain ⟨a, xs, hσ, hH, hG, hB, hz, hI⟩ := R.own i ds hi
  refine ⟨.ref a, hσ, G, δ, R, ?_⟩
  have hw : (fe δ >>= fun k => idxR (.lst ds) k).wp _ _ := hw
  rw [wp_bind] at hw
  refine Rs.wp.mono hw (fun _ x => x) fun kd hk kv H1 G1 e1 i1 => ?_
  cases kd with
  | int k =>
   cases (show kv = .int k from i1)
   cases q2 : atI ds k with
   | none =>
    have : idxR (.lst ds) (.int k) = .bad := by show (match atI ds k with | some d => Rs.ok d | none => .bad) = _; rw [q2]
    rw [this] at hk; exact hk.elim
   | some d =>
    have e2 : idxR (.lst ds) (.int k) = .ok d := by show (match atI ds k with | some d => Rs.ok d | none => .bad) = _; rw [q2]
    rw [e2] at hk
    obtain ⟨v, hv, iv⟩ := (hI.same e1.gg).atI q2
    exact ⟨a, xs, k, v, rfl, rfl, SqL.of (e1.hh _ _ hH), hv, hk v H1 G1 e1 iv⟩
  | _ => exact hk.elim
end
@[simp] theorem s_ixO (i : Nat) (fi : FE) (δ : DS) : ixO i fi δ = (getO δ i >>= fun ds => fi δ >>= fun k => idxR (.lst ds) k) := nodef rfl
end M
set_option Elab.async false
set_option linter.all false
set_option maxRecDepth 100000
set_option maxHeartbeats 4000000
namespace M
open PySem PySem.Spec PyProof.Rows L2
set_option autoImplicit false
@[simp] theorem s_shareC (x : Option Sl) (δ : DS) : share (x :: δ) = shareS x :: share δ := nodef rfl
@[simp] theorem s_shSv (d : D) : shareS (some (.v d)) = some (.v d) := nodef rfl
@[simp] theorem s_shSo (ds : List D) : shareS (some (.own ds)) = some (.v (.lst ds)) := nodef rfl
noncomputable def sumTR : List D → Rs D
 | [.tup ds] => match intsOf ds with
  | some ns => if (ns.all inSum && decide (ns.length ≤ 1000000)) = true then .ok (.int ns.sum) else .bad
  | none => .bad
 | _ => .bad
theorem cd_sumT {X : Cx} (hc : X.calm = true) : CallD X (.builtin "sum") sumTR := by
 intro pins s σ H G Q ds vs us I gh r i hw
 unfold sumTR at hw
 split at hw
 ·rename_i ds
  split at hw
  ·rename_i ns hb
   obtain ⟨hcond, hw⟩ := wIf hw
   rw [Bool.and_eq_true] at hcond
   have hin : ∀ n ∈ ns, -(2 ^ 40) ≤ n ∧ n ≤ 2 ^ 40 := fun n hn => of_decide_eq_true (List.all_eq_true.mp hcond.1 n hn)
   have hln : ns.length ≤ 1000000 := of_decide_eq_true hcond.2
   obtain ⟨v, rfl, h⟩ := isL1 i
   obtain ⟨u, rfl, ru⟩ := vals1 r
   obtain ⟨a, xs, rfl, h1, h2, h3⟩ := h
   cases (show u = .ref a from ru)
   obtain ⟨its, rv, pl, hz⟩ := I.tuple (SqT.same gh h1)
   have pl : s.heap.IsTuple a its.toArray := pl
   have hI := ints_get hb h3 rv
   have hget := IntsAre.get hI
   have hlen : its.length = ns.length := hI.length
   have hne : a ≠ s.heap.objs.size := Nat.ne_of_lt (by obtain ⟨o, e, _⟩ := pl; exact Heap.lt_size e)
   refine call_sum_walk (wpAny_pyIter_tuple pl ?_)
   refine ⟨s.heap.objs.size, [s.heap.objs.size, a], [s.heap.objs.size], its.toArray.size, fun i v => its.toArray[i]? = some v, fun i h => h.IsTupleIter s.heap.objs.size a i ∧ h.IsTuple a its.toArray, fun i => ns.getD i 0, rfl,
    Walks.tuple (show X.A.in1.handled = none from I.ok.hd hc) _ a hne its.toArray, ⟨⟨_, Heap.get?_push_size _ rfl, rfl, rfl⟩, pl.at fun o e => Heap.get?_push_of_some _ e⟩, ?_, ?_, ?_, ?_⟩
   ·intro b hb'
    have la : a < s.heap.objs.size := by obtain ⟨o, e, _⟩ := pl; exact Heap.lt_size e
    have hs : ∀ o : Obj, (s.heap.push o).objs.size = s.heap.objs.size + 1 := fun o => Heap.size_push _ _
    show b < (s.heap.push _).objs.size
    rw [hs]
    simp at hb'
    rcases hb' with rfl | rfl
    ·exact Nat.lt_succ_self _
    ·exact Nat.lt_succ_of_lt la
   ·intro i v hP
    exact hget i v (by simpa using hP)
   ·intro j hj
    have h0 : -(2 ^ 40) ≤ ns.getD j 0 ∧ ns.getD j 0 ≤ 2 ^ 40 := by
     cases q : ns[j]? with
     | none => simp [List.getD, q]
     | some x => simp [List.getD, q]; exact hin x (List.mem_of_getElem? q)
    refine ⟨⟨by show -(2 ^ 63) ≤ ns.getD j 0; omega, by show ns.getD j 0 < 2 ^ 63; omega⟩, ?_⟩
    rw [preSum_take]
    have hb2 := sum_bound (ns.take (j + 1)) fun n hn => hin n (List.mem_of_mem_take hn)
    have hl2 : (ns.take (j + 1)).length ≤ 1000000 := by rw [List.length_take]; omega
    exact ⟨by omega, by omega⟩
   ·intro h' tk t' hk
    rw [preSum_take, List.size_toArray, hlen, List.take_length]
    refine ⟨.int _, H, I.kept (t' := tk) fun b o e => hk b o (fun hb => ?_) (Heap.get?_push_of_some _ e), ⟨t', rfl⟩, wOk hw gh rfl⟩
    rw [List.mem_singleton.mp hb] at e
    exact absurd (Heap.lt_size e) (Nat.lt_irrefl _)
  ·exact hw.elim
 ·exact hw.elim
noncomputable def sumAR (ds : List D) : Rs D := match ds with
 | [.tup es] => sumTR [.tup es]
 | ds => sumR ds
theorem cd_sumA {X : Cx} (hc : X.calm = true) : CallD X (.builtin "sum") sumAR := by
 intro pins s σ H G Q ds vs us I gh r i hw
 unfold sumAR at hw
 split at hw
 ·exact cd_sumT hc pins s σ H G Q _ vs us I gh r i hw
 ·exact cd_sum hc pins s σ H G Q ds vs us I gh r i hw
@[simp] theorem s_sumAL (ds : List D) : sumAR [.lst ds] = sumR [.lst ds] := nodef rfl
noncomputable def MtS (X : Cx) (id : String) (g : Str → List D → Rs D) : Prop :=
 ∀ (pins : List (Addr × Obj)) (s : Shared) (σ : St) (H G : Hp) (Q : VK) (z : Str) (t : Tok) (ds : List D) (vs : List V) (us : List Value), Inv X pins σ H s → Same G H → Vals vs us → z.length ≤ sizeLine → PyData.strOk z = true → IsL X.K G ds vs → W X Q σ H G (g z ds) →
  wpAny (model X.prog X.w) X.A (call (.builtin id) (.str z t :: us)) (EP X pins σ Q) X.xe s
noncomputable def methR (g : Str → List D → Rs D) (r : Rs (List D)) : D → Rs D
 | .str z => r >>= g z
 | _ => .bad
noncomputable def methF (g : Str → List D → Rs D) (fo : FE) (fr : FA) : FE := fun δ => fo δ >>= methR g (fr δ)
section
variable {X : Cx} {B G₀ : Hp} {o e : Expr} {es : List Expr} {fo : FE} {fr : FA} {apos pos : Pos} {name : Str} {id : String} {g : Str → List D → Rs D}
theorem q_meth (slot : Slot "str" name id) (hty : typeOf (.builtin id) = pure (.type "method_descriptor")) (hm : MtS X id g) (ho : PE X o (tE X B G₀ fo)) (ha : PA X (e :: es) (tAs X B G₀ fr))
  (hbase : attributeBase o name X.env (eval o X.env) = eval o X.env := by rfl)
  (hfew : ((backTo pos (starEach (e :: es) X.env)).all (fun x => !x.1) && (backToKw pos (keywordEach [] X.env)).all (fun x => x.1.isSome)
   && decide ((e :: es).length + ([] : List Keyword).length + (if ([] : List Keyword).isEmpty then 0 else 1) < 30)) = true := by rfl)
  (hline : (apos.endLine == pos.line) = true := by rfl) (hs : starEach (e :: es) X.env = (false, eval e X.env) :: starEach es X.env := by rfl) (hplain : (backTo pos (starEach es X.env)).any (·.1) = false := by rfl) :
  PE X (.Call (.Attribute o name apos) (e :: es) [] pos) (tE X B G₀ (methF g fo fr)) := by
 intro pins s σ H Q I ⟨G, δ, R, hw⟩
 refine wpAny_Call_method_late hbase hfew hline rfl (bindE ho I R hw fun d u v s1 H1 G1 I1 R1 r1 e1 i1 hw1 => ?_)
 cases d with
 | str z =>
  obtain ⟨rfl, hz, hok⟩ := i1
  obtain ⟨t, rfl⟩ := r1
  obtain ⟨h1, h2⟩ := tyV_is (T := "str") I1 (show RelV (.str z) (.str z t) from ⟨t, rfl⟩) rfl
  refine ⟨"str", id, PySem.F.plainAttrs_str, slot, hty, h1, h2, ?_⟩
  have hw1 : (fr δ >>= g z).wp (fun c => Xo X c σ H1 G1) fun d => ∀ v H' G', Ext H G H' G' → Is X.K G' d v → Q v H' := hw1
  have hA := bindA (pos := pos) ha I1 R1 hw1 (Post := fun us s2 => wpAny (model X.prog X.w) X.A (call (.builtin id) (.str z t :: us)) (EP X pins σ Q) X.xe s2) fun ds us vs s2 H2 G2 I2 R2 r2 e2 i2 hw2 =>
   hm pins s2 σ H2 G2 Q z t ds vs us I2 R2.ext.gh r2 hz hok i2 (wmono hw2 (e1.trans e2))
  rw [hs] at hA ⊢
  exact Calls.callWith_builtin (by show (false || (backTo pos (starEach es X.env)).any (·.1)) = false; rw [hplain] <;> rfl) (Calls.evalArgs_plain hA)
 | _ => exact hw1.elim
end
noncomputable def catS (ys : List Str) : Str := ⟨(ys.map fun y => y.cps.toList).flatten.toArray⟩
noncomputable def joinR (z : Str) : List D → Rs D
 | [.lst ds] => match strsOf ds with
  | some ys => if z = Str.ofString "" ∧ (ys.map (·.length)).sum ≤ 1000000 then .ok (.str (catS ys)) else .bad
  | none => .bad
 | _ => .bad
theorem join_empty : ∀ ys : List Str, Str.join (Str.ofString "") ys = catS ys
 | [] => rfl
 | [x] => by simp [Str.join, catS]
 | x :: y :: r => by
  have ih := join_empty (y :: r)
  show x ++ Str.ofString "" ++ Str.join (Str.ofString "") (y :: r) = _
  rw [ih]
  have e : ∀ a b : Str, a ++ b = ⟨a.cps ++ b.cps⟩ := fun _ _ => rfl
  rw [e, e]
  have e0 : (Str.ofString "").cps = #[] := rfl
  unfold catS
  simp [e0]
theorem catS_len (ys : List Str) : (catS ys).length = (ys.map (·.length)).sum := by
 unfold catS Str.length
 simp [List.length_flatten, Function.comp_def]
theorem catS_ok {ys : List Str} (h : ∀ y ∈ ys, PyData.strOk y = true) : PyData.strOk (catS ys) = true := by
 unfold PyData.strOk
 rw [Array.all_eq_true_iff_forall_mem]
 intro c hc
 unfold catS at hc
 have hc : c ∈ (ys.map fun y => y.cps.toList).flatten := by simpa using hc
 rw [List.mem_flatten] at hc
 obtain ⟨l, hl, hcl⟩ := hc
 obtain ⟨y, hy, rfl⟩ := List.mem_map.mp hl
 have := h y hy
 unfold PyData.strOk at this
 exact Array.all_eq_true_iff_forall_mem.mp this c (by simpa using hcl)
theorem mts_join {X : Cx} : MtS X "str.join" joinR := by
 intro pins s σ H G Q z t ds vs us I gh r hz hok i hw
 unfold joinR at hw
 split at hw
 ·rename_i ds2
  split at hw
  ·rename_i ys hs
   obtain ⟨⟨hz0, hlen⟩, hw2⟩ := wIf (r := .ok (.str (catS ys))) (c := z = Str.ofString "" ∧ (ys.map (·.length)).sum ≤ 1000000) hw
   subst hz0
   obtain ⟨v, rfl, a, xs, rfl, h1, h2, h3⟩ := isL1 i
   obtain ⟨u, rfl, ru⟩ := vals1 r
   cases ru
   obtain ⟨its, rv, pl, hzz⟩ := I.list (gh.seq h1)
   obtain ⟨hA, hB⟩ := strs_get hs h3 rv
   have h0 : (Str.ofString "").length = 0 := rfl
   refine join_list (ys := ys) pl.isList (by simpa using hA) (by rw [h0, Nat.mul_zero]; omega) fun t' k => ?_
   have e : Txt.join (Str.ofString "") ys = catS ys := by
    show Builtin.Str.glued _ _ = _
    rw [StrLaws.glued_eq_join, join_empty]
   rw [e]
   refine ⟨.str (catS ys), H, I.tok k, ⟨t', rfl⟩, wOk hw2 gh ⟨rfl, ?_, catS_ok hB⟩⟩
   rw [catS_len]
   have := million
   omega
  ·exact hw.elim
 ·exact hw.elim
@[simp] theorem s_methF (g : Str → List D → Rs D) (fo : FE) (fr : FA) (δ : DS) : methF g fo fr δ = (fo δ >>= methR g (fr δ)) := nodef rfl
@[simp] theorem s_methR (g : Str → List D → Rs D) (r : Rs (List D)) (z : Str) : methR g r (.str z) = (r >>= g z) := nodef rfl
theorem s_join {α : Type} {xs : List α} {f : α → Str} (h : ((xs.map f).map (·.length)).sum ≤ 1000000) : joinR (Str.ofString "") [.lst (xs.map fun x => D.str (f x))] = .ok (.str (catS (xs.map f))) := by
 unfold joinR
 dsimp only
 rw [strsOf_map]
 dsimp only
 rw [if_pos ⟨rfl, h⟩]
end M
set_option Elab.async false
set_option linter.all false
set_option maxRecDepth 100000
set_option maxHeartbeats 4000000
namespace M
open PySem PySem.Spec PyProof.Rows L2
set_option autoImplicit false
end M
set_option Elab.async false
set_option linter.all false
set_option maxRecDepth 100000
set_option maxHeartbeats 4000000
namespace M
open PySem PySem.Spec PyProof.Rows L2
set_option autoImplicit false
noncomputable def shareAt (j : Nat) (δ : DS) : DS := match δ[j]? with
 | some (some (.ow k ds)) => δ.set j (some (.v (k.dat ds)))
 | _ => δ
theorem Rel.shareAt {X : Cx} {B G₀ : Hp} {σ : St} {H G : Hp} {δ : DS} (R : Rel X B G₀ σ H G δ) (j : Nat) : ∃ G1, Rel X B G₀ σ H G1 (M.shareAt j δ) := by
 unfold M.shareAt
 split
 ·rename_i kd ds hj
  obtain ⟨a, xs, hσ, hH, hG, hB, hz, hI⟩ := R.own j ds hj
  have hlt : j < δ.length := (List.getElem?_eq_some_iff.mp hj).1
  have gg : Same G (upd G a (kd.obj xs)) := same_upd hG _
  have gh : Same (upd G a (kd.obj xs)) H := fun b o q => by
   by_cases hb : b = a
   ·subst hb; rw [upd_same] at q; cases q; exact hH
   ·rw [upd_ne hb] at q; exact R.ext.gh b o q
  refine ⟨upd G a (kd.obj xs), ⟨R.ext.hh, R.ext.gg.trans gg, gh, fun b o q => ?_⟩, by simp [R.len], fun i d q => ?_, fun i kA es q => ?_, fun i k kB kC es fs b q1 q2 q3 q4 => ?_⟩
  ·by_cases hb : b = a
   ·subst hb; exact .inr hB
   ·rw [upd_ne hb] at q; exact R.ext.new b o q
  ·by_cases hi : j = i
   ·subst hi
    rw [List.getElem?_set] at q
    simp only [if_true] at q
    rw [if_pos hlt] at q
    cases q
    cases kd with
    | l => exact ⟨.ref a, hσ, a, xs, rfl, .of upd_same, hz, hI.same gg⟩
    | d ks => exact ⟨.ref a, hσ, a, xs, rfl, upd_same, hz, hI.same gg⟩
    | t ks => exact ⟨.ref a, hσ, a, xs, rfl, upd_same, hz, hI.same gg⟩
   ·rw [List.getElem?_set_ne hi] at q
    obtain ⟨v, h1, h2⟩ := R.val i d q
    exact ⟨v, h1, h2.same gg⟩
  ·by_cases hi : j = i
   ·subst hi
    rw [List.getElem?_set] at q
    simp only [if_true] at q
    rw [if_pos hlt] at q
    cases q
   ·rw [List.getElem?_set_ne hi] at q
    obtain ⟨c, ys, z1, z2, z3, z4, z5, z6⟩ := R.own i es q
    refine ⟨c, ys, z1, z2, ?_, z4, z5, z6.same gg⟩
    rw [upd_ne]; exact z3
    rintro rfl
    exact hi (R.apart j i ds es _ hj q hσ z1)
  ·have ne : ∀ {i : Nat} {kD : Kd} {es : List D}, (δ.set j (some (.v (kd.dat ds))))[i]? = some (some (.ow kD es)) → δ[i]? = some (some (.ow kD es)) := fun {i kD es} q => by
    by_cases hi : j = i
    ·subst hi
     rw [List.getElem?_set] at q
     simp only [if_true] at q
     rw [if_pos hlt] at q
     cases q
    ·rw [List.getElem?_set_ne hi] at q; exact q
   exact R.apart i k es fs b (ne q1) (ne q2) q3 q4
 ·exact ⟨G, R⟩
noncomputable def shareJ (j : Nat) (F : FS) : FS := fun δ => F (shareAt j δ)
theorem q_shareJ {X : Cx} {B G₀ : Hp} {st : Stmt} {F : FS} (j : Nat) (h : PS X st (tS X B G₀ F)) : PS X st (tS X B G₀ (shareJ j F)) :=
 ps_imp h fun D' σ H ⟨G, δ, R, hw⟩ => by
  obtain ⟨G1, R1⟩ := R.shareAt j
  exact ⟨G1, M.shareAt j δ, R1, hw⟩
structure ExtM (a : Addr) (H G H' G' : Hp) : Prop where
 hh : ∀ b o, b ≠ a → H b = some o → H' b = some o
 gg : Same G G'
 gh : Same G' H'
 new : ∀ b o, G' b = some o → G b = some o ∨ H b = none
theorem Rel.callM {X : Cx} {B G₀ : Hp} {σ : St} {H G H' G' : Hp} {δ : DS} (R : Rel X B G₀ σ H G δ) {i : Nat} {ds ys : List D} {a : Addr} {zs : List V} (hi : δ[i]? = some (some (.own ds))) (hσ : σ[i]? = some (some (.ref a)))
  (e : ExtM a H G H' G') (ha : H' a = some (.lst zs)) (hz : zs.length ≤ sizeLine) (hI : IsL X.K G' ys zs) : Rel X B G₀ σ H' G' (δ.set i (some (.own ys))) := by
 obtain ⟨a', xs, h1, hH, hG, hB, _, _⟩ := R.own i ds hi
 rw [hσ] at h1; cases h1
 have hl : i < δ.length := (List.getElem?_eq_some_iff.mp hi).1
 have keepN : ∀ {b : Addr}, G b = none → (∃ o, H b = some o) → G' b = none := fun {b} g ⟨o, h⟩ => by
  cases q : G' b with
  | none => rfl
  | some o' =>
   rcases e.new b o' q with z | z
   ·rw [g] at z; cases z
   ·rw [h] at z; cases z
 refine ⟨⟨fun b o q => e.hh b o (ne_of_none q hB) (R.ext.hh b o q), R.ext.gg.trans e.gg, e.gh, fun b o q => ?_⟩, by simp [R.len], fun j d q => ?_, fun j kA es q => ?_, fun j k kB kC es fs b q1 q2 q3 q4 => ?_⟩
 ·rcases e.new b o q with z | z
  ·exact R.ext.new b o z
  ·exact .inr (R.ext.hh.free z)
 ·by_cases hj : i = j
  ·subst hj
   rw [List.getElem?_set] at q
   simp only [if_true] at q
   rw [if_pos hl] at q
   cases q
  ·rw [List.getElem?_set_ne hj] at q
   obtain ⟨v, z1, z2⟩ := R.val j d q
   exact ⟨v, z1, z2.same e.gg⟩
 ·by_cases hj : i = j
  ·subst hj
   rw [List.getElem?_set] at q
   simp only [if_true] at q
   rw [if_pos hl] at q
   cases q
   exact ⟨a, zs, hσ, ha, keepN hG ⟨_, hH⟩, hB, hz, hI⟩
  ·rw [List.getElem?_set_ne hj] at q
   obtain ⟨c, ws, z1, z2, z3, z4, z5, z6⟩ := R.own j es q
   refine ⟨c, ws, z1, e.hh c _ ?_ z2, keepN z3 ⟨_, z2⟩, z4, z5, z6.same e.gg⟩
   rintro rfl
   exact hj (R.apart i j ds es _ hi q hσ z1)
 ·have back : ∀ {j : Nat} {kD : Kd} {es : List D}, (δ.set i (some (.own ys)))[j]? = some (some (.ow kD es)) → ∃ kE es', δ[j]? = some (some (.ow kE es')) := fun {j kD es} q => by
   by_cases hj : i = j
   ·subst hj; exact ⟨_, ds, hi⟩
   ·rw [List.getElem?_set_ne hj] at q; exact ⟨_, _, q⟩
  obtain ⟨_, d1, q1⟩ := back q1
  obtain ⟨_, d2, q2⟩ := back q2
  exact R.apart j k d1 d2 b q1 q2 q3 q4
inductive SpM (K : PySem.W.Frag) (g : List D → List D → Rs (List D)) (n : Nat) (vs : List V) (H : Hp) (Q : VK) : Prop
 | mk (a : Addr) (vs' : List V) (G : Hp) (xs : List V) (ds0 ds : List D) (e : vs = .ref a :: vs') (h1 : H a = some (.lst xs)) (h2 : G a = none) (h3 : xs.length ≤ sizeLine) (h4 : IsL K G ds0 xs) (h5 : Same G H) (h6 : IsL K G ds vs') (h7 : ds.length = n)
  (h8 : (g ds0 ds).wp (fun _ => False) fun ys => ∀ zs H' G', ExtM a H G H' G' → zs.length ≤ sizeLine → IsL K G' ys zs → H' a = some (.lst zs) → Q .non H')
noncomputable def spM (K : PySem.W.Frag) (g : List D → List D → Rs (List D)) (n : Nat) : Sp := fun vs H Q _ => SpM K g n vs H Q
noncomputable def finM (o : Out) : Rs (List D) := match o with
 | .nx δ => getO δ 0
 | _ => .bad
noncomputable def fnM (n m : Nat) (F : FS) (ds0 ds : List D) : Rs (List D) := if ds.length = n then finM (F (some (.own ds0) :: (ds.map vsl ++ List.replicate m none))) else .bad
structure FnMut (P : Program) (w : World) (K : PySem.W.Frag) (mg : Str → Option Value) (base : Heap) (x : Str) (k n : Nat) (g : List D → List D → Rs (List D)) : Prop where
 ex : ∃ (f : Addr) (fd : FuncData) (ps : List Str), FnOk P w K mg base CX0 k f fd ps (spM K g n) ∧ Binds K fd ps [] ∧ mg x = some (.ref f) ∧ PySem.W.keepIn K (.ref f) = true
 len : ∀ ds0 ds, ds.length ≠ n → g ds0 ds = .bad
 ne : ∀ ds0 ds c, g ds0 ds ≠ .exc c
noncomputable def WF (X : Cx) (B G₀ : Hp) (D : Ends) (σ : St) (o : Out) : Prop := match o with
 | .nx δ => ∀ H G, Rel X B G₀ σ H G δ → D.nx σ H
 | _ => False
noncomputable def tF (X : Cx) (B G₀ : Hp) (σ₀ : St) (F : FS) : TS := fun D σ H => σ = σ₀ ∧ ∃ G δ, Rel X B G₀ σ₀ H G δ ∧ WF X B G₀ D σ₀ (F δ)
section
variable {X : Cx} {B G₀ : Hp} {σ₀ : St} {c e : Expr} {es : List Expr} {gc : FT} {fr : FA} {fe : FE} {sts sts' rest : List Stmt} {st : Stmt} {F F1 F2 : FS} {pos pos' p apos : Pos} {x : Str}
theorem f_nil : PSs X [] (tF X B G₀ σ₀ Out.nx) := pss_imp pss_nil fun D σ H ⟨e, G, δ, R, hw⟩ => by subst e; exact hw H G R
theorem f_one (h1 : PS X st (tF X B G₀ σ₀ F1)) : PSs X [st] (tF X B G₀ σ₀ F1) := pss_one h1
theorem f_if (hc : PT X c (tT X B G₀ gc)) (ha : PSs X sts (tF X B G₀ σ₀ F1)) (hb : PSs X sts' (tF X B G₀ σ₀ F2)) : PS X (.If c sts sts' pos) (tF X B G₀ σ₀ (ifS gc F1 F2)) := by
 refine ps_imp (ps_if hc ha hb) fun D σ H ⟨e, G, δ, R, hw⟩ => ?_
 subst e
 refine ⟨G, δ, R, ?_⟩
 have hw : WF X B G₀ D σ ((gc δ).out δ fun k => if k = true then F1 δ else F2 δ) := hw
 cases q : gc δ with
 | exc c => rw [q] at hw; exact hw.elim
 | bad => rw [q] at hw; exact hw.elim
 | ok k =>
  rw [q] at hw
  intro H' G' e
  cases k with
  | true => exact ⟨rfl, G', δ, R.mono e, hw⟩
  | false => exact ⟨rfl, G', δ, R.mono e, hw⟩
theorem f_mut (i : Nat) {id : String} {r : V → List V → Hp → VK → Prop} {m : List D → List D → Rs (List D)} {name : Str} (hne : ∀ ds es c, m ds es ≠ .exc c) (slot : Slot "list" name id) (hty : typeOf (.builtin id) = pure (.type "method_descriptor")) (hm : MtR X id r) (hd : MutD X r m) (ha : PA X (e :: es) (tAs X B G₀ fr))
  (hN : X.N[i]? = some x := by rfl) (hv : Vis X.env.scope x := by first | exact Or.inl rfl | exact Or.inr (Or.inl rfl) | exact Or.inr (Or.inr rfl)) (hdb : (x == ("__debug__" : Str)) = false := by decide) (hcd : (x == ("__classdict__" : Str)) = false := by decide)
  (hbase : attributeBase (.Name x p) name X.env (eval (.Name x p) X.env) = eval (.Name x p) X.env := by rfl)
  (hfew : ((backTo pos (starEach (e :: es) X.env)).all (fun x => !x.1) && (backToKw pos (keywordEach [] X.env)).all (fun x => x.1.isSome)
   && decide ((e :: es).length + ([] : List Keyword).length + (if ([] : List Keyword).isEmpty then 0 else 1) < 30)) = true := by rfl)
  (hline : (apos.endLine == pos.line) = true := by rfl) (hs : starEach (e :: es) X.env = (false, eval e X.env) :: starEach es X.env := by rfl) (hplain : (backTo pos (starEach es X.env)).any (·.1) = false := by rfl)
  (hsw : swapsWith (.Call (.Attribute (.Name x p) name apos) (e :: es) [] pos) none pos'.line X.env = pure false := by rfl) :
  PS X (.Expr (.Call (.Attribute (.Name x p) name apos) (e :: es) [] pos) pos') (tF X B G₀ σ₀ (mutS i m fr)) := by
 refine ps_imp (ps_expr (pe_bm PySem.F.plainAttrs_list slot hty hm (pe_var hN hv hdb hcd) ha hbase hfew hline hs hplain) hsw) fun D' σ H ⟨e0, G, δ, R, hw⟩ => ?_
 subst e0
 unfold mutS at hw
 cases q : getO δ i with
 | exc c => exact (getO_ne q).elim
 | bad => rw [q] at hw; exact hw.elim
 | ok ds =>
  rw [q] at hw
  have hi := getO_ok q
  obtain ⟨a, xs, hσ, hH, hG, hB, hz, hI⟩ := R.own i ds hi
  refine ⟨.ref a, hσ, .inl ⟨rfl, xs, SqL.of hH⟩, G, δ, R, ?_⟩
  have hw : WF X B G₀ D' σ ((fr δ >>= fun es => m ds es).out δ fun ys => .nx (δ.set i (some (.own ys)))) := hw
  cases q1 : fr δ with
  | exc c => rw [q1] at hw; exact hw.elim
  | bad => rw [q1] at hw; exact hw.elim
  | ok es' =>
   rw [q1] at hw
   intro vs H1 G1 e1 i1
   have hk : WF X B G₀ D' σ ((m ds es').out δ fun ys => .nx (δ.set i (some (.own ys)))) := hw
   cases q2 : m ds es' with
   | exc c => exact (hne _ _ _ q2).elim
   | bad => rw [q2] at hk; exact hk.elim
   | ok ys =>
    rw [q2] at hk
    have hG1 : G1 a = none := by
     cases z : G1 a with
     | none => rfl
     | some o =>
      rcases e1.new a o z with w | w
      ·rw [hG] at w; cases w
      ·rw [hH] at w; cases w
    exact hd H1 G1 a xs vs ds es' ys (fun H' => D'.nx σ H') e1.gh (e1.hh _ _ hH) hG1 hz (hI.same e1.gg) i1 q2 fun zs hzs hI' => hk _ G1 ((R.mono e1).write hi hσ hzs hI')
theorem f_seti (i : Nat) {pi p1 : Pos} {ie : Expr} {fi : FE} (hi : PE X ie (tE X B G₀ fi)) (he : PE X e (tE X B G₀ fe)) (hN : X.N[i]? = some x := by rfl) (hv : Vis X.env.scope x := by first | exact Or.inl rfl | exact Or.inr (Or.inl rfl) | exact Or.inr (Or.inr rfl)) (hdb : (x == ("__debug__" : Str)) = false := by decide) (hcd : (x == ("__classdict__" : Str)) = false := by decide)
  (ha : ∀ v, assign (.Subscript (.Name x p1) ie pi) X.env v = (do
   let ov ← holding [v] (eval (.Name x p1) X.env)
   let iv ← holding [v, ov] (eval ie X.env)
   standAt pi
   holding [v, ov, iv] (setItem ov iv v)
   release [v, ov, iv] []) := by intro _; rfl)
  (hs : swapsWithSole [.Subscript (.Name x p1) ie pi] e pos.line X.env = pure false := by rfl) (hw : swappedStores [.Subscript (.Name x p1) ie pi] e X.env = pure none := by rfl)
  (h1 : (assignEach [.Subscript (.Name x p1) ie pi] X.env).map (·.2) = [assign (.Subscript (.Name x p1) ie pi) X.env] := by rfl) :
  PS X (.Assign [.Subscript (.Name x p1) ie pi] e pos) (tF X B G₀ σ₀ (setiS i fi fe)) := by
 refine ps_imp (ps_asg he (pg_sub (pe_var hN hv hdb hcd) hi set_list ha) hs hw h1) fun D' σ H ⟨e0, G, δ, R, hw⟩ => ?_
 subst e0
 refine ⟨G, δ, R, ?_⟩
 have hw : WF X B G₀ D' σ ((fe δ >>= fun d => getO δ i >>= fun ds => fi δ >>= fun k => setM ds k d).out δ fun ys => .nx (δ.set i (some (.own ys)))) := hw
 cases q0 : fe δ with
 | exc c => rw [q0] at hw; exact hw.elim
 | bad => rw [q0] at hw; exact hw.elim
 | ok d =>
  rw [q0] at hw
  cases q : getO δ i with
  | exc c => exact (getO_ne q).elim
  | bad => rw [q] at hw; exact hw.elim
  | ok ds =>
   rw [q] at hw
   have hiδ := getO_ok q
   obtain ⟨a, xs, hσ, hH, hG, hB, hz, hI⟩ := R.own i ds hiδ
   have hw : WF X B G₀ D' σ ((fi δ >>= fun k => setM ds k d).out δ fun ys => .nx (δ.set i (some (.own ys)))) := hw
   intro v H1 G1 e1 i1
   refine ⟨.ref a, hσ, G1, δ, R.mono e1, ?_⟩
   cases q2 : fi δ with
   | exc c => rw [q2] at hw; exact hw.elim
   | bad => rw [q2] at hw; exact hw.elim
   | ok kd =>
    rw [q2] at hw
    intro kv H2 G2 e2 i2
    have hk2 : WF X B G₀ D' σ ((setM ds kd d).out δ fun ys => .nx (δ.set i (some (.own ys)))) := hw
    cases kd with
    | int k =>
     cases (show kv = .int k from i2)
     cases q3 : ixN ds.length k with
     | none =>
      have : setM ds (.int k) d = .bad := by unfold setM; dsimp only; rw [q3]
      rw [this] at hk2; exact hk2.elim
     | some j =>
      have hm : setM ds (.int k) d = .ok (ds.set j d) := by unfold setM; dsimp only; rw [q3]
      rw [hm] at hk2
      refine ⟨a, xs, k, j, rfl, rfl, (e1.trans e2).hh _ _ hH, by rw [hI.length]; exact q3, ?_⟩
      have hI2 : IsL X.K G2 (ds.set j d) (xs.set j v) := IsL.set (i1.same e2.gg) j (hI.same (e1.trans e2).gg)
      exact hk2 _ G2 (((R.mono e1).mono e2).write hiδ hσ (by rw [List.length_set]; exact hz) hI2)
    | _ => exact hk2.elim
end
section
variable {P : Program} {w : World} {K : PySem.W.Frag} {mg : Str → Option Value} {base : Heap}
open Classical in
noncomputable def without (H : Hp) (a : Addr) : Hp := fun b => if b = a then none else H b
theorem rel_startM {X : Cx} {H G : Hp} {ds0 ds : List D} {a : Addr} {xs vs : List V} (gh : Same G H) (ha : H a = some (.lst xs)) (hG : G a = none) (hz : xs.length ≤ sizeLine) (h0 : IsL X.K G ds0 xs) (i : IsL X.K G ds vs) (m : Nat) :
  Rel X (without H a) G (some (.ref a) :: (vs.map some ++ List.replicate m none)) H G (some (.own ds0) :: (ds.map vsl ++ List.replicate m none)) := by
 have hB : without H a a = none := if_pos rfl
 have R := rel_start (X := X) gh i m
 have sB : Same (without H a) H := fun b o q => by
  unfold without at q
  split at q
  ·cases q
  ·exact q
 refine ⟨⟨sB, Same.refl _, gh, fun _ _ e => .inl e⟩, by simp [i.length], fun j d q => ?_, fun j kA es q => ?_, fun j k kB kC es fs b q1 q2 _ _ => ?_⟩
 ·cases j with
  | zero => cases q
  | succ j => exact R.val j d q
 ·cases j with
  | zero => cases q; exact ⟨a, xs, rfl, ha, hG, hB, hz, h0⟩
  | succ j =>
   obtain ⟨c, ws, z1, z2, z3, z4, z5⟩ := R.own j es q
   exfalso
   have : (ds.map vsl ++ List.replicate m none)[j]? = some (some (.ow kA es)) := q
   by_cases hj : j < ds.length
   ·rw [List.getElem?_append_left (by simpa using hj), List.getElem?_map, List.getElem?_eq_getElem hj] at this
    cases this
   ·rw [List.getElem?_append_right (by simpa using Nat.not_lt.mp hj), List.getElem?_replicate] at this
    split at this <;> cases this
 ·have z : ∀ {j : Nat} {kD : Kd} {es : List D}, (some (Sl.own ds0) :: (ds.map vsl ++ List.replicate m none))[j]? = some (some (.ow kD es)) → j = 0 := fun {j kD es} q => by
   cases j with
   | zero => rfl
   | succ j =>
    exfalso
    have : (ds.map vsl ++ List.replicate m none)[j]? = some (some (.ow kD es)) := q
    by_cases hj : j < ds.length
    ·rw [List.getElem?_append_left (by simpa using hj), List.getElem?_map, List.getElem?_eq_getElem hj] at this
     cases this
    ·rw [List.getElem?_append_right (by simpa using Nat.not_lt.mp hj), List.getElem?_replicate] at this
     split at this <;> cases this
  rw [z q1, z q2]
theorem fnM_len (n m : Nat) (F : FS) : ∀ ds0 ds : List D, ds.length ≠ n → fnM n m F ds0 ds = .bad := fun ds0 ds h => by unfold fnM; rw [if_neg h]
theorem fnM_ne (n m : Nat) (F : FS) : ∀ (ds0 ds : List D) (c : Str), fnM n m F ds0 ds ≠ .exc c := fun ds0 ds c h => by
 unfold fnM at h
 split at h
 ·unfold finM at h
  split at h
  ·exact getO_ne h
  ·cases h
 ·cases h
theorem def_mut {x qual : Str} {st : Stmt} {f : Addr} {fd : FuncData} {N ps : List Str} {k m n : Nat} {Fb : FS} (F : Fun K x qual st f fd) (S : FnScope N ps (defScope st)) (hm : N.length - ps.length = m) (hn : ps.length = n + 1)
  (hb : ∀ (kV doc pm : Value) (an : Option Addr) (cdv ct : Value) (us : List Value), us.length = ps.length → bindArgs (PySem.W.fnOf x qual (defArgs st) (defBody st) (defScope st) .none kV doc pm an cdv ct) ⟨us, []⟩ = pure (ps.zip us))
  (hx : mg x = some (.ref f))
  (hbody : ∀ (cdv : Value) (A : Around) (outer : List Env) (s : Shared) (H : Hp) (E : XK) (B G₀ : Hp) (σ₀ : St), Room k (A.deeper (envOfC qual (defScope st) s.heap.objs.size f cdv)) →
   PSs (cxOf CX0 P w K mg base N qual (defScope st) f cdv A outer s H E).nox (defBody st) (tF (cxOf CX0 P w K mg base N qual (defScope st) f cdv A outer s H E).nox B G₀ σ₀ Fb)) : FnMut P w K mg base x (k + 1) n (fnM n m Fb) := by
 refine ⟨⟨f, fd, ps, ?_, F.binds hb, hx, F.kp⟩, fnM_len _ _ _, fnM_ne _ _ _⟩
 refine F.ok S (fun vs H Q E ⟨a, vs', G, xs, ds0, ds, e, _, _, _, _, _, i, hl, _⟩ => by rw [e, List.length_cons, i.length, hl, hn]) fun cdv A outer s H vs Q E hr ⟨a, vs', G, xs, ds0, ds, e, hH, hG, hz, h0, gh, i, hl, hw⟩ => ?_
 subst e
 refine ⟨_, hbody cdv A outer s H E (without H a) G (L2.start N (.ref a :: vs')) hr, rfl, G, some (.own ds0) :: (ds.map vsl ++ List.replicate m none), ?_, ?_⟩
 ·have := rel_startM (X := (cxOf CX0 P w K mg base N qual (defScope st) f cdv A outer s H E).nox) gh hH hG hz h0 i m
  unfold L2.start
  rw [List.length_cons, i.length, hl, ← hn, hm]
  exact this
 ·unfold fnM at hw
  rw [if_pos hl] at hw
  cases q : Fb (some (.own ds0) :: (ds.map vsl ++ List.replicate m none)) with
  | nx δ =>
   rw [q] at hw
   intro H' G' R
   have hw : (getO δ 0).wp _ _ := hw
   cases q2 : getO δ 0 with
   | exc c => exact (getO_ne q2).elim
   | bad => rw [q2] at hw; exact hw.elim
   | ok ys =>
    rw [q2] at hw
    obtain ⟨a', zs, z1, z2, z3, z4, z5, z6⟩ := R.own 0 ys (getO_ok q2)
    have z1 : some (some (V.ref a)) = some (some (.ref a')) := z1
    cases z1
    refine hw zs H' G' ⟨fun b o hb hbo => R.ext.hh b o ?_, R.ext.gg, R.ext.gh, fun b o hbo => ?_⟩ z5 z6 z2
    ·show (if b = a then none else H b) = some o
     rw [if_neg hb]; exact hbo
    ·rcases R.ext.new b o hbo with z | z
     ·exact .inl z
     ·have z : (if b = a then none else H b) = none := z
      by_cases hba : b = a
      ·subst hba; rw [z3] at hbo; cases hbo
      ·rw [if_neg hba] at z; exact .inr z
  | rt d => rw [q] at hw; exact hw.elim
  | bk δ => rw [q] at hw; exact hw.elim
  | ct δ => rw [q] at hw; exact hw.elim
  | exc c δ => rw [q] at hw; exact hw.elim
  | bad => rw [q] at hw; exact hw.elim
end
section
variable {X : Cx} {B G₀ : Hp} {x y : Str} {k n : Nat} {g : List D → List D → Rs (List D)} {e : Expr} {es : List Expr} {fr : FA} {p p2 pos pos' : Pos}
theorem q_callM (i : Nat) (F : FnMut X.prog X.w X.K X.mg X.base x k n g) (hr : Room k X.A) (ha : PA X es (tAs X B G₀ fr)) (hg : Gl X x := by rfl) (hdb : (x == ("__debug__" : Str)) = false := by decide)
  (hN : X.N[i]? = some y := by rfl) (hv : Vis X.env.scope y := by first | exact Or.inl rfl | exact Or.inr (Or.inl rfl) | exact Or.inr (Or.inr rfl)) (hdb2 : (y == ("__debug__" : Str)) = false := by decide) (hcd : (y == ("__classdict__" : Str)) = false := by decide)
  (he : starEach (.Name y p2 :: es) X.env = (false, eval (.Name y p2) X.env) :: starEach es X.env := by rfl) (hpl : (backTo pos (starEach es X.env)).any (·.1) = false := by rfl)
  (hsw : swapsWith (.Call (.Name x p) (.Name y p2 :: es) [] pos) none pos'.line X.env = pure false := by rfl) :
  PS X (.Expr (.Call (.Name x p) (.Name y p2 :: es) [] pos) pos') (tS X B G₀ (mutS i g fr)) := by
 obtain ⟨⟨f, fd, ps, hF, hb, hm, hk⟩, hlen, hne⟩ := F
 refine ps_imp (ps_expr (pe_call hF hr hg hm hk hb .nil pass0 (pa_cons (pe_var hN hv hdb2 hcd) ha he) hdb he hpl) hsw) fun D' σ H ⟨G, δ, R, hw⟩ => ?_
 unfold mutS at hw
 cases q : getO δ i with
 | exc c => exact (getO_ne q).elim
 | bad => rw [q] at hw; exact hw.elim
 | ok ds0 =>
  rw [q] at hw
  have hi := getO_ok q
  obtain ⟨a, xs, hσ, hH, hG, hB, hz, hI⟩ := R.own i ds0 hi
  refine ⟨.ref a, hσ, G, δ, R, ?_⟩
  have hw' : WS X B G₀ D' ((fr δ).out δ fun es => (g ds0 es).out δ fun ys => .nx (δ.set i (some (.own ys)))) := by
   revert hw
   show WS X B G₀ D' ((fr δ >>= fun es => g ds0 es).out δ _) → _
   cases fr δ with
   | ok es => exact fun z => z
   | exc c => exact fun z => z
   | bad => exact fun z => z
  refine out_WA R hw' fun ds _ hk2 vs H1 G1 e1 i1 => ?_
  have hG1 : G1 a = none := by
   cases z : G1 a with
   | none => rfl
   | some o =>
    rcases e1.new a o z with w | w
    ·rw [hG] at w; cases w
    ·rw [hH] at w; cases w
  by_cases hl : ds.length = n
  ·refine ⟨a, vs, G1, xs, ds0, ds, by rw [List.append_nil], e1.hh _ _ hH, hG1, hz, hI.same e1.gg, e1.gh, i1, hl, ?_⟩
   cases q2 : g ds0 ds with
   | exc c => exact (hne _ _ _ q2).elim
   | bad => rw [q2] at hk2; exact hk2.elim
   | ok ys =>
    rw [q2] at hk2
    intro zs H' G' em hzs hI' ha'
    exact hk2 σ H' G' ((R.mono e1).callM hi hσ em ha' hzs hI')
  ·rw [hlen ds0 ds hl] at hk2; exact hk2.elim
end
@[simp] theorem s_shareJ (j : Nat) (F : FS) (δ : DS) : shareJ j F δ = F (shareAt j δ) := nodef rfl
@[simp] theorem s_shA0o (ds : List D) (δ : DS) : shareAt 0 (some (.own ds) :: δ) = some (.v (.lst ds)) :: δ := nodef rfl
@[simp] theorem s_shAs (x : Option Sl) (δ : DS) (j : Nat) : shareAt (j + 1) (x :: δ) = x :: shareAt j δ := by
 unfold shareAt
 rw [List.getElem?_cons_succ]
 cases h : δ[j]? with
 | none => rfl
 | some s => cases s with
  | none => rfl
  | some s => cases s with
   | v d => rfl
   | ow k ds => rfl
@[simp] theorem s_fnM1 (m : Nat) (F : FS) (ds0 : List D) (a : D) : fnM 1 m F ds0 [a] = finM (F (some (.own ds0) :: some (.v a) :: List.replicate m none)) := nodef rfl
@[simp] theorem s_finM (δ : DS) : finM (.nx δ) = getO δ 0 := nodef rfl
end M
set_option Elab.async false
set_option linter.all false
set_option maxRecDepth 100000
set_option maxHeartbeats 4000000
namespace M
open PySem PySem.Spec PyProof.Rows L2
set_option autoImplicit false
theorem vals_items {α : Type} {P : Nat → Value → Prop} {acc : Array Value} {n : Nat} (h : ItemsOf P acc n) (xs : List α) (f : α → V) (hl : xs.length = n) (hr : ∀ (i : Nat) x v, xs[i]? = some x → P i v → RelV (f x) v) : Vals (xs.map f) acc.toList := by
 obtain ⟨h1, h2⟩ := h
 have key : ∀ (xs : List α) (us : List Value), xs.length = us.length → (∀ (i : Nat) x u, xs[i]? = some x → us[i]? = some u → RelV (f x) u) → Vals (xs.map f) us := by
  intro xs
  induction xs with
  | nil => intro us hl _; rw [List.length_eq_zero_iff.mp hl.symm]; exact .nil
  | cons x xs ih =>
   intro us hl hr
   cases us with
   | nil => simp at hl
   | cons u us => exact .cons (hr 0 x u rfl rfl) (ih us (by simpa using hl) fun i y w e1 e2 => hr (i + 1) y w (by simpa using e1) (by simpa using e2))
 refine key xs acc.toList (by simp [hl, h1]) fun i x u e1 e2 => hr i x u e1 (h2 i u (by simpa using e2))
noncomputable def listAR (ds : List D) : Rs D := match ds with
 | [.str z] => .ok (.lst (signsD z))
 | ds => listR ds
theorem isL_signs {K : PySem.W.Frag} {G : Hp} (cs : List Nat) (h : ∀ c ∈ cs, PyData.strOk (chr1 c) = true) : IsL K G (cs.map fun c => D.str (chr1 c)) (cs.map fun c => V.str (chr1 c)) := by
 induction cs with
 | nil => rfl
 | cons c cs ih => exact .cons ⟨rfl, (by show 1 ≤ sizeLine; decide), h c (List.mem_cons_self ..)⟩ (ih fun d hd => h d (List.mem_cons_of_mem _ hd))
theorem strOk_chr {z : Str} (h : PyData.strOk z = true) : ∀ c ∈ z.cps.toList, PyData.strOk (chr1 c) = true := fun c hc => by
 unfold PyData.strOk at h ⊢
 have := Array.all_eq_true_iff_forall_mem.mp h c (by simpa using hc)
 simpa [chr1] using this
theorem cd_listA {X : Cx} (hc : X.calm = true) : CallD X (.type "list") listAR := by
 intro pins s σ H G Q ds vs us I gh r i hw
 unfold listAR at hw
 split at hw
 ·rename_i z
  obtain ⟨v, rfl, rfl, hz, ok⟩ := isL1 i
  obtain ⟨u, rfl, ru⟩ := vals1 r
  obtain ⟨t, rfl⟩ := ru
  have hn := I.fresh
  refine call_list_str (I.ok.hd hc) z t (fun h' tk acc' c' hk hS hacc => ?_) hz
  have hv : Vals (z.cps.toList.map fun c => V.str (chr1 c)) acc'.toList := vals_items hacc z.cps.toList _ (by simp) fun i c v e ⟨c', u, e1, e2⟩ => by
   have : z.cps[i]? = some c := by simpa using e
   rw [this] at e1; cases e1
   exact ⟨u, e2⟩
  have hlen : (z.cps.toList.map fun c => V.str (chr1 c)).length ≤ sizeLine := by simpa [Str.length] using hz
  have hob : ObjOk X.prog X.w (upd H s.heap.objs.size (.lst (z.cps.toList.map fun c => V.str (chr1 c)))) h' s.heap.objs.size (.lst (z.cps.toList.map fun c => V.str (chr1 c))) := ⟨hlen, acc'.toList, c', hv, by simpa using hS⟩
  exact ⟨.ref s.heap.objs.size, _, I.laid (t' := tk) hk (Nat.le_refl _) hob, rfl, hw _ _ (upd G s.heap.objs.size (.lst (z.cps.toList.map fun c => V.str (chr1 c)))) (Ext.laid gh hn) ⟨_, _, rfl, .of upd_same, hlen, isL_signs _ (strOk_chr ok)⟩⟩
 ·exact cd_list pins s σ H G Q ds vs us I gh r i hw
@[simp] theorem s_listS (z : Str) : listAR [.str z] = .ok (.lst (signsD z)) := nodef rfl
noncomputable def lrngR : List D → Rs D
 | [.int i, .int j] => if (inRng i && inRng j && decide (j - i ≤ 1000000)) = true then .ok (.lst (rngD i (j - i).toNat)) else .bad
 | _ => .bad
theorem q_lrng {X : Cx} {B G₀ : Hp} {a b : Expr} {fr : FA} {p p2 pos pos2 : Pos} (hc : X.calm = true) (hm : X.mg "list" = none) (hm2 : X.mg "range" = none) (ha : PA X [a, b] (tAs X B G₀ fr)) (hg : Gl X "list" := by rfl) (hg2 : Gl X "range" := by rfl)
  (hs : starEach [a, b] X.env = [(false, eval a X.env), (false, eval b X.env)] := by rfl) (hs2 : starEach [b] X.env = [(false, eval b X.env)] := by rfl) (hs3 : starEach [.Call (.Name "range" p2) [a, b] [] pos2] X.env = [(false, eval (.Call (.Name "range" p2) [a, b] [] pos2) X.env)] := by rfl) :
  PE X (.Call (.Name "list" p) [.Call (.Name "range" p2) [a, b] [] pos2] [] pos) (tE X B G₀ (appF lrngR fr)) := by
 intro pins s σ H Q I ⟨G, δ, R, hw⟩
 have hbl : bootBuiltins "list" = some (.type "list") := by rfl
 have hw : (fr δ >>= lrngR).wp (fun c => Xo X c σ H G) fun d => ∀ v H' G', Ext H G H' G' → Is X.K G' d v → Q v H' := hw
 refine Call_ (ld_blt I hg hm hbl (PyProof.Rows.callWith_type1 ?_ hs3 rfl))
 rw [hs3]
 refine Calls.spliced_cons ?_
 refine Call_ (ld_blt I hg2 hm2 boot_range (PyProof.Rows.callWith_type1 (bindA ha I R hw fun ds us vs s1 H1 G1 I1 R1 r1 e1 i1 hw1 => ?_) (by rw [hs, hs2]) (by rw [hs2]; rfl)))
 unfold lrngR at hw1
 split at hw1
 ·rename_i i j
  split at hw1
  ·rename_i hcond
   rw [Bool.and_eq_true, Bool.and_eq_true] at hcond
   obtain ⟨q1, q2⟩ := of_decide_eq_true hcond.1.1
   obtain ⟨q3, q4⟩ := of_decide_eq_true hcond.1.2
   have q5 := of_decide_eq_true hcond.2
   obtain ⟨v, w, rfl, h1, h2⟩ := isL2 i1
   cases (show v = .int i from h1)
   cases (show w = .int j from h2)
   obtain ⟨u1, u2, rfl, ru1, ru2⟩ := vals2 r1
   obtain ⟨t1, rfl⟩ := ru1
   obtain ⟨t2, rfl⟩ := ru2
   refine call_range_2 ?_
   refine Calls.spliced_nil ?_
   have I2 : Inv X pins σ H1 { s1 with heap := s1.heap.push { cls := .type "range", data := .fields #[.int i t1, .int j t2, .int 1 s1.toks] }, toks := s1.toks + 1 } := I1.kept fun b o e => Heap.get?_push_of_some _ e
   have hsz : Builtin.Range.rangeSize i j 1 = ((j - i).toNat : Nat) := by rw [rangeSize_one]; split <;> omega
   have hn := I2.fresh
   refine call_list_range (n := (j - i).toNat) (I2.ok.hd hc) (IsRange.new ..) (small_one q1 q2 q3 q4) hsz (by omega) fun h' tk acc' c' hk hS hacc => ?_
   have hv : Vals ((List.range (j - i).toNat).map fun k : Nat => V.int (i + (k : Int))) acc'.toList := vals_items hacc (List.range (j - i).toNat) _ (by simp) fun k m v e ⟨t, e2⟩ => by
    obtain ⟨hk1, hk2⟩ := List.getElem?_eq_some_iff.mp e
    rw [List.getElem_range] at hk2
    subst hk2
    exact ⟨t, by rw [e2, Int.mul_one]⟩
   have hml := million
   have hlen : ((List.range (j - i).toNat).map fun k : Nat => V.int (i + (k : Int))).length ≤ sizeLine := by rw [List.length_map, List.length_range]; omega
   have hob : ObjOk X.prog X.w (upd H1 (s1.heap.push { cls := .type "range", data := .fields #[.int i t1, .int j t2, .int 1 s1.toks] }).objs.size (.lst ((List.range (j - i).toNat).map fun k : Nat => V.int (i + (k : Int))))) h' (s1.heap.push { cls := .type "range", data := .fields #[.int i t1, .int j t2, .int 1 s1.toks] }).objs.size (.lst ((List.range (j - i).toNat).map fun k : Nat => V.int (i + (k : Int)))) := ⟨hlen, acc'.toList, c', hv, by simpa using hS⟩
   have hI : IsL X.K (upd G1 (s1.heap.push { cls := .type "range", data := .fields #[.int i t1, .int j t2, .int 1 s1.toks] }).objs.size (.lst ((List.range (j - i).toNat).map fun k : Nat => V.int (i + (k : Int))))) (rngD i (j - i).toNat) ((List.range (j - i).toNat).map fun k : Nat => V.int (i + (k : Int))) := by
    have key : ∀ (G : Hp) (L : List Nat), IsL X.K G (L.map fun (k : Nat) => D.int (i + (k : Int))) (L.map fun k : Nat => V.int (i + (k : Int))) := fun G L => by
     induction L with
     | nil => rfl
     | cons k L ih => exact .cons rfl ih
    exact key _ _
   exact ⟨.ref _, _, I2.laid (t' := tk) hk (Nat.le_refl _) hob, rfl, hw1 _ _ _ (e1.trans (Ext.laid e1.gh hn)) ⟨_, _, rfl, .of upd_same, hlen, hI⟩⟩
  ·exact hw1.elim
 ·exact hw1.elim
theorem lrng_ok {i j : Int} (h1 : -(2 ^ 62) ≤ i ∧ i < 2 ^ 62) (h2 : -(2 ^ 62) ≤ j ∧ j < 2 ^ 62) (h3 : j - i ≤ 1000000) : lrngR [.int i, .int j] = .ok (.lst (rngD i (j - i).toNat)) := by
 show (if (inRng i && inRng j && decide (j - i ≤ 1000000)) = true then _ else _) = _
 have : (inRng i && inRng j && decide (j - i ≤ 1000000)) = true := by
  rw [Bool.and_eq_true, Bool.and_eq_true]; exact ⟨⟨decide_eq_true h1, decide_eq_true h2⟩, decide_eq_true h3⟩
 rw [if_pos this]
end M
set_option Elab.async false
set_option linter.all false
set_option maxRecDepth 100000
set_option maxHeartbeats 4000000
namespace M
open PySem PySem.Spec PyProof.Rows L2
set_option autoImplicit false
structure Grp (K : PySem.W.Frag) (B : Hp) (a : Addr) (bs : List Addr) (dss : List (List D)) (H G : Hp) : Prop where
 ha : H a = some (.lst (bs.map V.ref))
 ga : G a = none
 ba : B a = none
 len : bs.length = dss.length
 el : ∀ (j : Nat) (b : Addr) (ds : List D), bs[j]? = some b → dss[j]? = some ds → ∃ xs, H b = some (.lst xs) ∧ xs.length ≤ sizeLine ∧ IsL K G ds xs ∧ G b = none ∧ B b = none
 nd : (a :: bs).Nodup
theorem ext_none {H G H1 G1 : Hp} (e : Ext H G H1 G1) {b : Addr} (g : G b = none) (h : ∃ o, H b = some o) : G1 b = none := by
 cases q : G1 b with
 | none => rfl
 | some o =>
  obtain ⟨o', h⟩ := h
  rcases e.new b o q with z | z
  ·rw [g] at z; cases z
  ·rw [h] at z; cases z
theorem Grp.mono {K : PySem.W.Frag} {B : Hp} {a : Addr} {bs : List Addr} {dss : List (List D)} {H G H1 G1 : Hp} (g : Grp K B a bs dss H G) (e : Ext H G H1 G1) : Grp K B a bs dss H1 G1 :=
 ⟨e.hh _ _ g.ha, ext_none e g.ga ⟨_, g.ha⟩, g.ba, g.len, fun j b ds h1 h2 => by
  obtain ⟨xs, z1, z2, z3, z4, z5⟩ := g.el j b ds h1 h2
  exact ⟨xs, e.hh _ _ z1, z2, z3.same e.gg, ext_none e z4 ⟨_, z1⟩, z5⟩, g.nd⟩
noncomputable def noOwn (δ : DS) : Bool := δ.all fun s => match s with
 | some (.ow _ _) => false
 | _ => true
theorem noOwn_no {δ : DS} (h : noOwn δ = true) {i : Nat} {k : Kd} {ds : List D} : δ[i]? ≠ some (some (.ow k ds)) := fun e => by
 unfold noOwn at h
 have := List.all_eq_true.mp h _ (List.mem_of_getElem? e)
 cases this
theorem noOwn_set {δ : DS} (h : noOwn δ = true) (i : Nat) (d : D) : noOwn (δ.set i (some (.v d))) = true := by
 unfold noOwn at h ⊢
 rw [List.all_eq_true] at h ⊢
 intro s hs
 rcases List.mem_or_eq_of_mem_set hs with z | z
 ·exact h s z
 ·rw [z]
theorem Rel.upd' {X : Cx} {B G₀ : Hp} {σ : St} {H G H' : Hp} {δ : DS} (R : Rel X B G₀ σ H G δ) (n : noOwn δ = true) (h1 : Same B H') (h2 : Same G H') : Rel X B G₀ σ H' G δ :=
 ⟨⟨h1, R.ext.gg, h2, R.ext.new⟩, R.len, R.val, fun i k ds q => (noOwn_no n q).elim, fun i j k k' ds es a q => (noOwn_no n q).elim⟩
theorem Rel.bare {X : Cx} {B G₀ : Hp} {σ : St} {H G : Hp} {δ : DS} (R : Rel X B G₀ σ H G δ) (n : noOwn δ = true) : Rel X (fun _ => none) (fun _ => none) σ H G δ :=
 ⟨⟨fun _ _ z => (by cases z), fun _ _ z => (by cases z), R.ext.gh, fun _ _ _ => .inr rfl⟩, R.len, R.val, fun i k ds q => (noOwn_no n q).elim, fun i j k k' ds es a q => (noOwn_no n q).elim⟩
theorem Rel.forget {X : Cx} {B G₀ : Hp} {σ : St} {H G : Hp} {δ : DS} (R : Rel X B G₀ σ H G δ) (g : Nat) : Rel X B G₀ σ H G (δ.set g none) := by
 have back : ∀ {i : Nat} {s : Sl}, (δ.set g none)[i]? = some (some s) → δ[i]? = some (some s) := fun {i s} q => by
  by_cases hi : g = i
  ·subst hi
   rw [List.getElem?_set] at q
   simp only [if_true] at q
   split at q <;> cases q
  ·rw [List.getElem?_set_ne hi] at q; exact q
 exact ⟨R.ext, by simp [R.len], fun i d q => R.val i d (back q), fun i k ds q => R.own i ds (back q), fun i j k k' ds es a q1 q2 q3 q4 => R.apart i j ds es a (back q1) (back q2) q3 q4⟩
noncomputable def appLast (dss : List (List D)) (e : D) : Option (List (List D)) := match dss.getLast? with
 | some l => if l.length < 1000000 then some (dss.dropLast ++ [l ++ [e]]) else none
 | none => none
noncomputable def grpO (k : Nat) (gt : FT) (fe : FE) : List D → DS → List (List D) → Rs (DS × List (List D))
 | [], δ, dss => .ok (δ, dss)
 | d :: ds, δ, dss => match gt (δ.set k (some (.v d))) with
  | .ok true => match fe (δ.set k (some (.v d))) with
   | .ok e => match appLast dss e with
    | some dss' => grpO k gt fe ds (δ.set k (some (.v d))) dss'
    | none => .bad
   | _ => .bad
  | .ok false => match fe (δ.set k (some (.v d))) with
   | .ok e => if dss.length < 1000000 then grpO k gt fe ds (δ.set k (some (.v d))) (dss ++ [[e]]) else .bad
   | _ => .bad
  | _ => .bad
noncomputable def grpS (k g : Nat) (f : FA) (gt : FT) (fe : FE) : FS := fun δ => match f δ with
 | .ok ds => match δ[g]? with
  | some (some (.ow .l [])) => if noOwn (δ.set g none) = true then (match grpO k gt fe ds (δ.set g none) [] with
   | .ok r => .nx (r.1.set g (some (.v (.lst (r.2.map D.lst)))))
   | _ => .bad) else .bad
  | _ => .bad
 | _ => .bad
section
variable {X : Cx} {B G₀ : Hp} {σ : St} {H G : Hp} {δ : DS}
theorem Grp.push {a : Addr} {bs : List Addr} {dss : List (List D)} (g : Grp X.K B a bs dss H G) (gh : Same G H) (bh : Same B H) {p : Addr} {v : V} {d : D} (hp : H p = none) (i : Is X.K G d v) :
  Grp X.K B a (bs ++ [p]) (dss ++ [[d]]) (upd (upd H p (.lst [v])) a (.lst (bs.map V.ref ++ [.ref p]))) G := by
 have hpa : p ≠ a := fun z => by rw [z, g.ha] at hp; cases hp
 have hab : ∀ b ∈ bs, b ≠ a := fun b hb z => (List.nodup_cons.mp g.nd).1 (z ▸ hb)
 have hpb : p ∉ bs := fun hb => by
  obtain ⟨j, hj⟩ := List.getElem?_of_mem hb
  obtain ⟨hj1, _⟩ := List.getElem?_eq_some_iff.mp hj
  obtain ⟨dj, hj2⟩ : ∃ dj, dss[j]? = some dj := ⟨_, List.getElem?_eq_getElem (show j < dss.length by rw [← g.len]; exact hj1)⟩
  obtain ⟨xs, z1, _⟩ := g.el j p _ hj hj2
  rw [hp] at z1; cases z1
 refine ⟨by rw [upd_same, List.map_append]; rfl, g.ga, g.ba, by simp [g.len], fun j b ds h1 h2 => ?_, ?_⟩
 ·by_cases hj : j < bs.length
  ·rw [List.getElem?_append_left hj] at h1
   rw [List.getElem?_append_left (by rw [← g.len]; exact hj)] at h2
   obtain ⟨xs, z1, z2⟩ := g.el j b ds h1 h2
   refine ⟨xs, ?_, z2⟩
   have hb := List.mem_of_getElem? h1
   rw [upd_ne (hab b hb), upd_ne (fun z => by rw [z] at hb; exact hpb hb)]; exact z1
  ·have hj' : j = bs.length := by
    have := (List.getElem?_eq_some_iff.mp h1).1
    simp at this; omega
   subst hj'
   rw [List.getElem?_concat_length] at h1
   rw [g.len, List.getElem?_concat_length] at h2
   cases h1; cases h2
   refine ⟨[v], by rw [upd_ne hpa, upd_same], (by show 1 ≤ sizeLine; decide), IsL.one i, gh.free hp, bh.free hp⟩
 ·rw [← List.cons_append]
  refine List.nodup_append.mpr ⟨g.nd, by simp, fun x hx y hy => ?_⟩
  rw [List.mem_singleton.mp hy]
  rintro rfl
  rcases List.mem_cons.mp hx with z | z
  ·exact hpa z
  ·exact hpb z
theorem Grp.app {a : Addr} {bs : List Addr} {dss dss' : List (List D)} (g : Grp X.K B a bs dss H G) {v : V} {d : D} (i : Is X.K G d v) (h : appLast dss d = some dss') :
  ∃ b xs, bs.getLast? = some b ∧ b ≠ a ∧ H b = some (.lst xs) ∧ xs.length < sizeLine ∧ G b = none ∧ B b = none ∧ Grp X.K B a bs dss' (upd H b (.lst (xs ++ [v]))) G := by
 unfold appLast at h
 split at h
 ·rename_i l hl
  split at h
  ·rename_i hll
   cases h
   have hne : dss ≠ [] := fun z => by rw [z] at hl; cases hl
   have hn : 0 < dss.length := List.length_pos_iff.mpr hne
   have hl' : dss[dss.length - 1]? = some l := by rw [← List.getLast?_eq_getElem?]; exact hl
   have hb1 : bs.length - 1 < bs.length := by rw [g.len]; omega
   have hb : bs[bs.length - 1]? = some bs[bs.length - 1] := List.getElem?_eq_getElem hb1
   have hb2 : bs.getLast? = some bs[bs.length - 1] := by rw [List.getLast?_eq_getElem?]; exact hb
   obtain ⟨xs, z1, z2, z3, z4, z5⟩ := g.el (bs.length - 1) _ l hb (by rw [g.len]; exact hl')
   have hm := List.mem_of_getElem? hb
   have hba : bs[bs.length - 1] ≠ a := fun z => (List.nodup_cons.mp g.nd).1 (z ▸ hm)
   have hlen := z3.length
   have hmil := million
   refine ⟨_, xs, hb2, hba, z1, by omega, z4, z5, ⟨by rw [upd_ne (Ne.symm hba)]; exact g.ha, g.ga, g.ba, by simp [g.len]; omega, fun j b ds h1 h2 => ?_, g.nd⟩⟩
   have hjl := (List.getElem?_eq_some_iff.mp h1).1
   by_cases hj : j < bs.length - 1
   ·rw [List.getElem?_append_left (by rw [List.length_dropLast, ← g.len]; exact hj), List.getElem?_dropLast, if_pos (by rw [← g.len]; exact hj)] at h2
    obtain ⟨ys, w1, w2⟩ := g.el j b ds h1 h2
    refine ⟨ys, ?_, w2⟩
    rw [upd_ne]; exact w1
    intro z
    have hnd := (List.nodup_cons.mp g.nd).2
    have e1 := (List.getElem?_eq_some_iff.mp h1).2
    have := (List.getElem_inj (h₀ := hjl) (h₁ := hb1) hnd).mp (e1.trans z)
    omega
   ·have hj' : j = bs.length - 1 := by omega
    subst hj'
    rw [hb] at h1; cases h1
    have hd : (dss.dropLast).length = bs.length - 1 := by rw [List.length_dropLast, g.len]
    rw [← hd, List.getElem?_concat_length] at h2
    cases h2
    exact ⟨xs ++ [v], upd_same, by rw [List.length_append, List.length_singleton]; omega, z3.append (IsL.one i), z4, z5⟩
  ·cases h
 ·cases h
open Classical in
theorem Grp.share {a : Addr} {bs : List Addr} {dss : List (List D)} (g : Grp X.K B a bs dss H G) (R : Rel X B G₀ σ H G δ) (n : noOwn δ = true) (hz : bs.length ≤ sizeLine) {i : Nat} (hσ : σ[i]? = some (some (.ref a))) (hi : i < δ.length) :
  ∃ G', Rel X B G₀ σ H G' (δ.set i (some (.v (.lst (dss.map D.lst))))) := by
 have gbs : ∀ b ∈ bs, G b = none ∧ B b = none := fun b hb => by
  obtain ⟨j, hj⟩ := List.getElem?_of_mem hb
  obtain ⟨hj1, _⟩ := List.getElem?_eq_some_iff.mp hj
  obtain ⟨dj, hj2⟩ : ∃ dj, dss[j]? = some dj := ⟨_, List.getElem?_eq_getElem (show j < dss.length by rw [← g.len]; exact hj1)⟩
  obtain ⟨xs, _, _, _, z4, z5⟩ := g.el j b _ hj hj2
  exact ⟨z4, z5⟩
 have gal : ∀ b ∈ a :: bs, G b = none ∧ B b = none := fun b hb => by
  rcases List.mem_cons.mp hb with z | z
  ·rw [z]; exact ⟨g.ga, g.ba⟩
  ·exact gbs b z
 let G' : Hp := fun b => if b ∈ a :: bs then H b else G b
 have gg : Same G G' := fun b o q => by
  show (if b ∈ a :: bs then H b else G b) = some o
  rw [if_neg fun z => by rw [(gal b z).1] at q; cases q]; exact q
 have gh : Same G' H := fun b o q => by
  have q : (if b ∈ a :: bs then H b else G b) = some o := q
  split at q
  ·exact q
  ·exact R.ext.gh b o q
 have at_ : ∀ b ∈ a :: bs, G' b = H b := fun b hb => if_pos hb
 have hIs : Is X.K G' (.lst (dss.map D.lst)) (.ref a) := by
  refine ⟨a, bs.map V.ref, rfl, .of (by rw [at_ a (List.mem_cons_self ..)]; exact g.ha), by rw [List.length_map]; exact hz, ?_⟩
  have key : ∀ (bs' : List Addr) (dss' : List (List D)), bs'.length = dss'.length → (∀ (j : Nat) (b : Addr) (ds : List D), bs'[j]? = some b → dss'[j]? = some ds → Is X.K G' (.lst ds) (.ref b)) → IsL X.K G' (dss'.map D.lst) (bs'.map V.ref) := by
   intro bs'
   induction bs' with
   | nil => intro dss' hl _; rw [List.length_eq_zero_iff.mp hl.symm]; rfl
   | cons b bs' ih =>
    intro dss' hl h
    cases dss' with
    | nil => simp at hl
    | cons ds dss' => exact .cons (h 0 b ds rfl rfl) (ih dss' (by simpa using hl) fun j c es e1 e2 => h (j + 1) c es (by simpa using e1) (by simpa using e2))
  refine key bs dss g.len fun j b ds h1 h2 => ?_
  obtain ⟨xs, z1, z2, z3, _⟩ := g.el j b ds h1 h2
  exact ⟨b, xs, rfl, .of (by rw [at_ b (List.mem_cons_of_mem _ (List.mem_of_getElem? h1))]; exact z1), z2, z3.same gg⟩
 refine ⟨G', ⟨⟨R.ext.hh, R.ext.gg.trans gg, gh, fun b o q => ?_⟩, by simp [R.len], fun j d q => ?_, fun j kA ds q => ?_, fun j k kB kC ds es c q => ?_⟩⟩
 ·have q : (if b ∈ a :: bs then H b else G b) = some o := q
  split at q
  ·rename_i hb; exact .inr (gal b hb).2
  ·exact R.ext.new b o q
 ·by_cases hj : i = j
  ·subst hj
   rw [List.getElem?_set] at q
   simp only [if_true] at q
   rw [if_pos hi] at q
   cases q
   exact ⟨.ref a, hσ, hIs⟩
  ·rw [List.getElem?_set_ne hj] at q
   obtain ⟨v, h1, h2⟩ := R.val j d q
   exact ⟨v, h1, h2.same gg⟩
 ·exact (noOwn_no (noOwn_set n i _) q).elim
 ·exact (noOwn_no (noOwn_set n i _) q).elim
end
section
variable {X : Cx} {B G₀ : Hp}
theorem grpO_len {k : Nat} {gt : FT} {fe : FE} : ∀ {ds : List D} {δ1 δ2 : DS} {dss1 dss2 : List (List D)}, grpO k gt fe ds δ1 dss1 = .ok (δ2, dss2) → δ1.length = δ2.length := by
 intro ds
 induction ds with
 | nil => intro δ1 δ2 dss1 dss2 h; cases h; rfl
 | cons d ds ih =>
  intro δ1 δ2 dss1 dss2 h
  unfold grpO at h
  split at h
  ·split at h
   ·split at h
    ·have := ih h; simpa using this
    ·cases h
   ·cases h
  ·split at h
   ·split at h
    ·have := ih h; simpa using this
    ·cases h
   ·cases h
  ·cases h
inductive GrpI (X : Cx) (B G1 : Hp) (δe : DS) (dsse : List (List D)) (a : Addr) (g k : Nat) (gt : FT) (fe : FE) (ds : List D) (i : Nat) (σ : St) (H : Hp) : Prop
 | mk (G : Hp) (δ : DS) (bs : List Addr) (dss : List (List D)) (h1 : Rel X B G1 σ H G δ) (h2 : noOwn δ = true) (h3 : δ.length = δe.length) (h4 : σ[g]? = some (some (.ref a))) (h5 : Grp X.K B a bs dss H G) (h6 : bs.length ≤ sizeLine) (h7 : grpO k gt fe (ds.drop i) δ dss = .ok (δe, dsse))
theorem q_groups (k g : Nat) {xk xg : Str} {iter test e1 e2 : Expr} {f : FA} {gt : FT} {fe : FE} {pk p1 p1' pc pu ps pa pa' pl pcall pcall' pe pe' pif pos : Pos} {jc} (hkg : k ≠ g) (hp : PassesOwn (model X.prog X.w) X.A X.env X.xe) (hc : X.calm = true) (hN : X.N.Nodup)
  (hi : PI X (.Name xk pk) iter (tI X B G₀ f)) (ht : PT X test (tT X (fun _ => none) (fun _ => none) gt)) (h1 : PE X e1 (tE X (fun _ => none) (fun _ => none) fe)) (h2 : PE X e2 (tE X (fun _ => none) (fun _ => none) fe))
  (hik : X.N[k]? = some xk := by rfl) (hxk : Loc X.env.scope xk := by first | exact Or.inl rfl | exact Or.inr rfl) (hfk : X.fn xk = true ∨ X.env.scope.names.lookup xk = some .local := by first | exact .inl rfl | exact .inr rfl | assumption)
  (hig : X.N[g]? = some xg := by rfl) (hv : Vis X.env.scope xg := by first | exact Or.inl rfl | exact Or.inr (Or.inl rfl) | exact Or.inr (Or.inr rfl)) (hdb : (xg == ("__debug__" : Str)) = false := by decide) (hcd : (xg == ("__classdict__" : Str)) = false := by decide)
  (hs1 : starEach [e1] X.env = [(false, eval e1 X.env)] := by rfl) (hs2 : starEach [e2] X.env = [(false, eval e2 X.env)] := by rfl)
  (hb1 : attributeBase (.Subscript (.Name xg p1) (.UnaryOp .USub (.Constant (.int 1) jc pc) pu) ps) "append" X.env (eval (.Subscript (.Name xg p1) (.UnaryOp .USub (.Constant (.int 1) jc pc) pu) ps) X.env) = eval (.Subscript (.Name xg p1) (.UnaryOp .USub (.Constant (.int 1) jc pc) pu) ps) X.env := by rfl)
  (hf1 : ((backTo pcall (starEach [e1] X.env)).all (fun x => !x.1) && (backToKw pcall (keywordEach [] X.env)).all (fun x => x.1.isSome) && decide ([e1].length + ([] : List Keyword).length + (if ([] : List Keyword).isEmpty then 0 else 1) < 30)) = true := by rfl)
  (hl1 : (pa.endLine == pcall.line) = true := by rfl)
  (hsw1 : swapsWith (.Call (.Attribute (.Subscript (.Name xg p1) (.UnaryOp .USub (.Constant (.int 1) jc pc) pu) ps) "append" pa) [e1] [] pcall) none pe.line X.env = pure false := by rfl)
  (hb2 : attributeBase (.Name xg p1') "append" X.env (eval (.Name xg p1') X.env) = eval (.Name xg p1') X.env := by rfl)
  (hf2 : ((backTo pcall' (starEach [.List [e2] pl] X.env)).all (fun x => !x.1) && (backToKw pcall' (keywordEach [] X.env)).all (fun x => x.1.isSome) && decide ([Expr.List [e2] pl].length + ([] : List Keyword).length + (if ([] : List Keyword).isEmpty then 0 else 1) < 30)) = true := by rfl)
  (hl2 : (pa'.endLine == pcall'.line) = true := by rfl) (hs3 : starEach [.List [e2] pl] X.env = [(false, eval (.List [e2] pl) X.env)] := by rfl)
  (hsw2 : swapsWith (.Call (.Attribute (.Name xg p1') "append" pa') [.List [e2] pl] [] pcall') none pe'.line X.env = pure false := by rfl)
  (hs : ∀ x, foldedSetIterable iter X.env x = pure x := by intro _; rfl) :
  PS X (.For (.Name xk pk) iter [.If test [.Expr (.Call (.Attribute (.Subscript (.Name xg p1) (.UnaryOp .USub (.Constant (.int 1) jc pc) pu) ps) "append" pa) [e1] [] pcall) pe]
   [.Expr (.Call (.Attribute (.Name xg p1') "append" pa') [.List [e2] pl] [] pcall') pe'] pif] [] pos) (tS X B G₀ (grpS k g f gt fe)) := by
 have hbody := pss_one (ps_if (pos := pif) ht
  (pss_one (ps_expr (pos := pe) (pe_bm (cpos := pcall) (apos := pa) PySem.F.plainAttrs_list PySem.F.slot_list_append PySem.F.type_list_append mt_append (pe_ix (pos := ps) ix_list (pe_var (pos := p1) hig hv hdb hcd) (pe_un (pos := pu) un_neg (pe_int (i := 1) (j := jc) (pos := pc))) (by intro _ _; rfl)) (pa_cons h1 pa_nil (by rw [hs1]; rfl)) hb1 hf1 hl1 (by rw [hs1]; rfl) rfl) hsw1))
  (pss_one (ps_expr (pos := pe') (pe_bm (cpos := pcall') (apos := pa') PySem.F.plainAttrs_list PySem.F.slot_list_append PySem.F.type_list_append mt_append (pe_var (pos := p1') hig hv hdb hcd) (pa_cons (pe_lst (pos := pl) (pa_cons h2 pa_nil (by rw [hs2]; rfl))) pa_nil (by rw [hs3]; rfl)) hb2 hf2 hl2 (by rw [hs3]; rfl) rfl) hsw2)))
 intro pins s σ H D' I h
 obtain ⟨G, δ, R, hw⟩ := h
 refine ps_for hp hc hi (pg_name hN hik hxk hfk) hbody hs pins s σ H D' I ⟨G, δ, R, ?_⟩
 have hw : WS X B G₀ D' (grpS k g f gt fe δ) := hw
 unfold grpS at hw
 cases q : f δ with
 | exc c => rw [q] at hw; exact hw.elim
 | bad => rw [q] at hw; exact hw.elim
 | ok ds =>
  rw [q] at hw
  dsimp only at hw
  split at hw
  ·rename_i hg0
   split at hw
   ·rename_i hno
    cases q2 : grpO k gt fe ds (δ.set g none) [] with
    | exc c => rw [q2] at hw; exact hw.elim
    | bad => rw [q2] at hw; exact hw.elim
    | ok r =>
     rw [q2] at hw
     obtain ⟨δe, dsse⟩ := r
     dsimp only at hw
     intro J H1 G1 e1' hJ
     have R1 := R.mono e1'
     have eb : Ext B G₀ H1 G1 := R1.ext
     obtain ⟨a, xs0, hσ, hH, hGa, hBa, _, hI0⟩ := R1.own g [] hg0
     have hx0 : xs0 = [] := by rw [show xs0 = [] from hI0]
     subst hx0
     have hgl : g < δ.length := (List.getElem?_eq_some_iff.mp hg0).1
     refine ⟨fun i m σ H => m = ds.length - i ∧ i ≤ ds.length ∧ GrpI X B G1 δe dsse a g k gt fe ds i σ H,
      ⟨ds.length, by simp, Nat.zero_le _, G1, δ.set g none, [], [], (R1.forget g).up, hno, ?_, hσ, ⟨hH, hGa, hBa, rfl, fun j b es z => by simp at z, by simp⟩, Nat.zero_le _, by simpa using q2⟩, ?_⟩
     ·exact grpO_len q2
     rintro i m σ H ⟨rfl, hk, G, δ, bs, dss, R, hn, hdl, hσ, hgr, hbs, hgo⟩
     obtain ⟨j1, j2⟩ := hJ H G R.ext.gg R.ext.gh
     by_cases hlt : i < ds.length
     ·have hd : ds[i]? = some ds[i] := List.getElem?_eq_getElem hlt
      obtain ⟨go, yl⟩ := j1 i _ hd
      rw [List.drop_eq_getElem_cons hlt] at hgo
      refine .inr ⟨go, GrpI X B G1 δe dsse a g k gt fe ds (i + 1),
       fun σ' H' hI => ⟨ds.length - (i + 1), by omega, rfl, hlt, hI⟩, fun x H2 y => ?_⟩
      obtain ⟨G2, ee2, i2⟩ := yl x H2 y
      have R2 := (R.mono ee2).set k i2
      have n2 := noOwn_set hn k ds[i]
      have g2 := hgr.mono ee2
      have hσ2 : (σ.set k (some x))[g]? = some (some (.ref a)) := by rw [List.getElem?_set_ne hkg]; exact hσ
      have hl2 : (δ.set k (some (.v ds[i]))).length = δe.length := by simpa using hdl
      unfold grpO at hgo
      refine ⟨G2, _, R2.bare n2, ?_⟩
      cases qt : gt (δ.set k (some (.v ds[i]))) with
      | exc c => rw [qt] at hgo; cases hgo
      | bad => rw [qt] at hgo; cases hgo
      | ok c =>
       rw [qt] at hgo
       intro H3 G3 ee3
       have R3 := R2.mono ee3
       have g3 := g2.mono ee3
       cases qe : fe (δ.set k (some (.v ds[i]))) with
       | exc c' => rw [qe] at hgo; cases c <;> cases hgo
       | bad => rw [qe] at hgo; cases c <;> cases hgo
       | ok e =>
        rw [qe] at hgo
        cases c with
        | true =>
         dsimp only at hgo
         cases qa : appLast dss e with
         | none => rw [qa] at hgo; cases hgo
         | some dss' =>
          rw [qa] at hgo
          dsimp only at hgo
          refine iteT ?_
          have hne : bs ≠ [] := fun z => by
           have := g3.len
           rw [z] at this
           have : dss = [] := List.length_eq_zero_iff.mp this.symm
           rw [this] at qa; cases qa
          obtain ⟨b0, hb0⟩ : ∃ b0, bs.getLast? = some b0 := by
           cases z : bs.getLast? with
           | none => exact absurd (List.getLast?_eq_none_iff.mp z) hne
           | some b => exact ⟨b, rfl⟩
          have hat : atI (bs.map V.ref) (-1) = some (.ref b0) := by
           obtain ⟨ys', hys⟩ := List.getLast?_eq_some_iff.mp hb0
           rw [hys, List.map_append]
           exact atI_last _ _
          obtain ⟨j, hj⟩ : ∃ j, bs[j]? = some b0 := ⟨bs.length - 1, by rw [← List.getLast?_eq_getElem?]; exact hb0⟩
          obtain ⟨hj1, _⟩ := List.getElem?_eq_some_iff.mp hj
          obtain ⟨dj, hj2⟩ : ∃ dj, dss[j]? = some dj := ⟨_, List.getElem?_eq_getElem (show j < dss.length by rw [← g3.len]; exact hj1)⟩
          obtain ⟨ys0, w1, _⟩ := g3.el j b0 _ hj hj2
          refine ⟨.ref a, hσ2, 1, rfl, a, bs.map V.ref, -1, .ref b0, rfl, rfl, SqL.of g3.ha, hat, .inl ⟨rfl, ys0, SqL.of w1⟩, ?_⟩
          refine ⟨G3, _, R3.bare n2, ?_⟩
          rw [qe]
          intro v H4 G4 ee4 i4
          have R4 := R3.mono ee4
          have g4 := g3.mono ee4
          obtain ⟨b, xs, z1, z2, z3, z4, z5, z6, z7⟩ := g4.app i4 qa
          rw [hb0] at z1; cases z1
          refine ⟨b0, xs, v, rfl, rfl, z3, z4, ?_⟩
          have sB : Same B (upd H4 b0 (.lst (xs ++ [v]))) := fun c o z => by rw [upd_ne (ne_of_none z z6)]; exact R4.ext.hh c o z
          have sG : Same G4 (upd H4 b0 (.lst (xs ++ [v]))) := fun c o z => by rw [upd_ne (ne_of_none z z5)]; exact R4.ext.gh c o z
          exact ⟨G4, _, bs, dss', R4.upd' n2 sB sG, n2, hl2, hσ2, z7, hbs, hgo⟩
        | false =>
         dsimp only at hgo
         split at hgo
         ·rename_i hdl2
          refine iteF ?_
          refine ⟨.ref a, hσ2, .inl ⟨rfl, bs.map V.ref, SqL.of g3.ha⟩, ?_⟩
          refine ⟨G3, _, R3.bare n2, ?_⟩
          rw [qe]
          intro v H4 G4 ee4 i4
          have R4 := R3.mono ee4
          have g4 := g3.mono ee4
          refine ⟨(by show 1 ≤ sizeLine; decide), fun p hpn => ?_⟩
          have hpa : p ≠ a := fun z => by rw [z, g4.ha] at hpn; cases hpn
          have hbl : (bs.map V.ref).length < sizeLine := by
           rw [List.length_map, g4.len]
           have := million
           omega
          refine ⟨a, bs.map V.ref, .ref p, rfl, rfl, by rw [upd_ne (Ne.symm hpa)]; exact g4.ha, hbl, ?_⟩
          have gp := g4.push R4.ext.gh R4.ext.hh hpn i4
          have sB : Same B (upd (upd H4 p (.lst [v])) a (.lst (bs.map V.ref ++ [.ref p]))) := fun c o z => by
           rw [upd_ne (ne_of_none z hBa), upd_ne (ne_of_none (R4.ext.hh c o z) hpn)]; exact R4.ext.hh c o z
          have sG : Same G4 (upd (upd H4 p (.lst [v])) a (.lst (bs.map V.ref ++ [.ref p]))) := fun c o z => by
           rw [upd_ne (ne_of_none z g4.ga), upd_ne (ne_of_none (R4.ext.gh c o z) hpn)]; exact R4.ext.gh c o z
          exact ⟨G4, _, bs ++ [p], dss ++ [[e]], R4.upd' n2 sB sG, n2, hl2, hσ2, gp, by rw [List.length_map] at hbl; rw [List.length_append, List.length_singleton]; omega, hgo⟩
         ·cases hgo
     ·have e : i = ds.length := by omega
      subst e
      refine .inl ⟨j2, ?_⟩
      rw [List.drop_length] at hgo
      cases hgo
      have hbz : bs.length ≤ sizeLine := hbs
      obtain ⟨G', R'⟩ := hgr.share R hn hbz hσ (by have := (List.getElem?_eq_some_iff.mp hσ).1; rw [← R.len]; exact this)
      exact hw σ H G' (R'.down eb)
   ·exact hw.elim
  ·exact hw.elim
end
end M
set_option Elab.async false
set_option linter.all false
set_option maxRecDepth 100000
set_option maxHeartbeats 4000000
namespace M
open PySem PySem.Spec PyProof.Rows L2
set_option autoImplicit false
noncomputable def AtL (x y : List Nat) (i : Nat) : Prop := i + y.length ≤ x.length ∧ (x.drop i).take y.length = y
theorem at_iff (x y : Str) (i : Nat) : PySem.StrLaws.At x y x.length i ↔ AtL x.cps.toList y.cps.toList i := by
 unfold PySem.StrLaws.At AtL
 rw [PySem.StrLaws.subAt_eq]
 have h1 : x.length = x.cps.toList.length := by simp [Str.length]
 have h2 : y.length = y.cps.toList.length := by simp [Str.length]
 rw [h1, h2, beq_iff_eq]
noncomputable def inSB (y x : Str) : Bool := !(Builtin.Str.occurrences x y 0 x.length 1).isEmpty
noncomputable def inR : D → D → Rs D
 | .str y, .str x => .ok (.bl (inSB y x))
 | _, _ => .bad
theorem od_in {X : Cx} : OpD X (compareOp .In) inR := opD_of op_in_str fun σ H G Q d1 d2 x y gh i1 i2 hw => by
 cases d1 with
 | str a => cases d2 with
  | str b =>
   obtain ⟨rfl, _, _⟩ := i1
   obtain ⟨rfl, _, _⟩ := i2
   exact ⟨a, b, rfl, rfl, wOk hw gh rfl⟩
  | _ => exact hw.elim
 | _ => cases d2 <;> exact hw.elim
theorem inSB_iff (y x : Str) : inSB y x = true ↔ ∃ i, AtL x.cps.toList y.cps.toList i := by
 unfold inSB
 rw [PySem.StrLaws.found_iff]
 exact ⟨fun ⟨i, h⟩ => ⟨i, (at_iff _ _ _).mp h⟩, fun ⟨i, h⟩ => ⟨i, (at_iff _ _ _).mpr h⟩⟩
section
variable {X : Cx} {B G₀ : Hp} {σ : St} {H G : Hp} {δ : DS} {D' : Ends} {e : Expr} {lo hi : Option Expr} {fe : FE} {fl fh : FP} {x : Str} {pos pos' p2 p3 : Pos}
end
end M
set_option Elab.async false
set_option linter.all false
set_option maxRecDepth 100000
set_option maxHeartbeats 4000000
namespace M
open PySem PySem.Spec PyProof.Rows L2
set_option autoImplicit false
end M
set_option Elab.async false
set_option linter.all false
set_option maxRecDepth 100000
set_option maxHeartbeats 4000000
namespace M
open PySem PySem.Spec PyProof.Rows L2
set_option autoImplicit false
noncomputable def keyD : D → Option Key
 | .int i => some (.inl i)
 | .str x => some (.inr x)
 | _ => none
theorem is_key {K : PySem.W.Frag} {G : Hp} {d : D} {v : V} {k : Key} (h : keyD d = some k) (i : Is K G d v) : v = kV k := by
 cases d with
 | int n => cases h; exact i
 | str x => cases h; exact i.1
 | _ => cases h
noncomputable def valD {κ : Type} [DecidableEq κ] : List κ → List D → κ → Option D
 | k :: ks, d :: ds, j => if k = j then some d else valD ks ds j
 | _, _, _ => none
theorem valV_zip {κ : Type} [DecidableEq κ] {K : PySem.W.Frag} {G : Hp} : ∀ {ks : List κ} {ds : List D} {xs : List V} {j : κ}, ks.length = xs.length → IsL K G ds xs →
  (valD ks ds j = none → valV (ks.zip xs) j = none) ∧ ∀ d, valD ks ds j = some d → ∃ v, valV (ks.zip xs) j = some v ∧ Is K G d v
 | [], ds, xs, j, h, i => by
  refine ⟨fun _ => rfl, fun d e => ?_⟩
  cases ds <;> cases e
 | k :: ks, ds, [], j, h, i => by simp at h
 | k :: ks, [], x :: xs, j, h, i => by
  have i : x :: xs = [] := i
  cases i
 | k :: ks, d :: ds, x :: xs, j, h, i => by
  obtain ⟨x', r, e, h1, h2⟩ := (show ∃ x' r, x :: xs = x' :: r ∧ Is K G d x' ∧ IsL K G ds r from i)
  cases e
  have ih := valV_zip (j := j) (by simpa using h) h2
  unfold valD
  by_cases e : k = j
  ·rw [if_pos e]
   refine ⟨fun z => (by cases z), fun d' z => ?_⟩
   cases z
   exact ⟨x, by show valV ((k, x) :: ks.zip xs) j = _; exact valV_pos e, h1⟩
  ·rw [if_neg e]
   have e2 : valV ((k :: ks).zip (x :: xs)) j = valV (ks.zip xs) j := by show valV ((k, x) :: ks.zip xs) j = _; exact valV_neg e
   rw [e2]; exact ih
noncomputable def inAR (a b : D) : Rs D := match b with
 | .dct ks ds => match keyD a with
  | some k => .ok (.bl (valD ks ds k).isSome)
  | none => .bad
 | _ => inR a b
theorem od_inA {X : Cx} (hu : X.A.units + 64 < cLine) : OpD X (compareOp .In) inAR := by
 intro pins s σ H G Q d1 d2 x y v u I gh rx ry i1 i2 hw
 unfold inAR at hw
 split at hw
 ·rename_i ks ds
  split at hw
  ·rename_i k hk
   cases is_key hk i1
   obtain ⟨a, xs, rfl, h1, h2, h3⟩ := i2
   cases (show u = .ref a from ry)
   refine d_in (by omega) I (DGet.k (gh _ _ h1)) rx fun s' I' => ⟨.bl _, H, I', rfl, ?_⟩
   have e : (valV (ks.zip xs) k).isSome = (valD ks ds k).isSome := by
    obtain ⟨z1, z2⟩ := valV_zip (j := k) h2 h3
    cases q : valD ks ds k with
    | none => rw [z1 q]; rfl
    | some d => obtain ⟨v, e, _⟩ := z2 d q; rw [e]; rfl
   rw [e]
   exact wOk hw gh rfl
  ·exact hw.elim
 ·exact od_in pins s σ H G Q d1 d2 x y v u I gh rx ry i1 i2 hw
@[simp] theorem s_inAs (y x : Str) : inAR (.str y) (.str x) = .ok (.bl (inSB y x)) := nodef rfl
section
variable {X : Cx} {B G₀ : Hp} {a b e : Expr} {es : List Expr} {fa fb fe : FE} {fr : FA} {pos pos' p p2 apos : Pos} {x : Str}
noncomputable def rSetd : V → List V → Hp → VK → Prop := fun x xs H Q => ∃ a kvs k v, x = .ref a ∧ xs = [kV k, v] ∧ H a = some (.dK kvs) ∧ kvs.length < sizeLine ∧ (∀ w, valV kvs k = some w → Q w H) ∧ (valV kvs k = none → Q v (upd H a (.dK (putK kvs k v))))
theorem mt_setd : MtR X "dict.setdefault" rSetd := by
 intro pins s σ H x xs v us Q I rx rs h
 obtain ⟨a, kvs, k, y, rfl, rfl, hH, hz, q1, q2⟩ := h
 cases (show v = .ref a from rx)
 cases rs with
 | cons r1 rr =>
  cases rr with
  | cons r2 r0 =>
   cases r0
   obtain ⟨z, hd, vs, rel, dd⟩ := dk_of I.hok hH
   refine call_meetsIn PySem.F.slot_dict_setdefault dd.typeIs PySem.F.entry_dict_setdefault (PySem.F.args_dict_setdefault_3 _ _ _) (kt_meets_setdefault (mixKind X.prog X.w) a (kV_is r1) hd _) ⟨vs, dd, by rw [← rel.length]; exact z, fun w hw => ?_, fun hn h' dd' hs => ?_⟩
   ·have rv := rel.val k
    rw [hw] at rv
    cases e : valV kvs k with
    | none => rw [e] at rv; exact rv.elim
    | some w' => rw [e] at rv; exact ⟨w', H, I.tok _, rv, q1 w' e⟩
   ·have rv := rel.val k
    rw [hn] at rv
    cases e : valV kvs k with
    | some w' => rw [e] at rv; exact rv.elim
    | none =>
     have hl : (putK kvs k y).length ≤ sizeLine := by have := length_putK kvs k y; omega
     have he : ∃ q, h'.get? a = some q := let ⟨q, _, _, hq, _⟩ := dd'; ⟨q, hq⟩
     exact ⟨y, _, d_write I (by rw [hH]; exact True.intro) hs he (dk_new hl hd (rel.put k r2) dd'), r2, q2 e⟩
end
end M
set_option Elab.async false
set_option linter.all false
set_option maxRecDepth 100000
set_option maxHeartbeats 4000000
namespace M
open PySem PySem.Spec PyProof.Rows L2
set_option autoImplicit false
section
variable {Mo : Model} {A : Around} {E : Value → Shared → Prop} {s : Shared} {Bk : Heap} {env : Env} {outer l : List Env} {L e C : Addr}
end
noncomputable def CX1 (P : Program) (w : World) : CXT := fun outer H s E ev s' => ∃ (e C : Addr) (Bk : Heap) (H' : Hp), ev = .ref e ∧ E (.ref C) none H' ∧ (∃ t, Heap.FlyingW Bk outer e (.ref C) (.ref t) s'.heap) ∧ s'.os = s.os ∧ AllBare s'.gens ∧ HOk P w H' Bk ∧
 (∀ b o, H' b = some o → b ∉ frs outer) ∧ UnB (frs outer) H H' s.heap Bk s'.heap
end M
set_option Elab.async false
set_option linter.all false
set_option maxRecDepth 100000
set_option maxHeartbeats 4000000
namespace M
open PySem PySem.Spec PyProof.Rows L2
set_option autoImplicit false
noncomputable def spX (K : PySem.W.Frag) (mg : Str → Option Value) (g : List D → Rs D) (n : Nat) : Sp := fun vs H Q E => ∃ G ds, Same G H ∧ IsL K G ds vs ∧ ds.length = n ∧
 (g ds).wp (fun c => ∀ C H' G', mg c = some (.ref C) → Ext H G H' G' → E (.ref C) none H') fun d => ∀ v H' G', Ext H G H' G' → Is K G' d v → Q v H'
structure FnX (P : Program) (w : World) (K : PySem.W.Frag) (mg : Str → Option Value) (base : Heap) (x : Str) (k n : Nat) (g : List D → Rs D) : Prop where
 ex : ∃ (f : Addr) (fd : FuncData) (ps : List Str), FnOk P w K mg base (CX1 P w) k f fd ps (spX K mg g n) ∧ Binds K fd ps [] ∧ mg x = some (.ref f) ∧ PySem.W.keepIn K (.ref f) = true
 len : ∀ ds, ds.length ≠ n → g ds = .bad
section
variable {P : Program} {w : World} {K : PySem.W.Frag} {mg : Str → Option Value} {base : Heap}
end
section
variable {X : Cx} {B G₀ : Hp} {x : Str} {k n : Nat} {g : List D → Rs D} {e : Expr} {es : List Expr} {fr : DS → Rs (List D)} {p pos : Pos}
end
end M
set_option Elab.async false
set_option linter.all false
set_option maxRecDepth 100000
set_option maxHeartbeats 4000000
namespace M
open PySem PySem.Spec PyProof.Rows L2
set_option autoImplicit false
section
variable {X : Cx} {B G₀ : Hp} {e : Expr} {es : List Expr} {fr : FA} {x : Str} {np cpos pos : Pos}
end
end M
set_option Elab.async false
set_option linter.all false
set_option maxRecDepth 100000
set_option maxHeartbeats 4000000
namespace M
open PySem PySem.Spec PyProof.Rows L2
set_option autoImplicit false
section
variable {X : Cx} {B G₀ : Hp} {pins : List (Addr × Obj)} {σ : St} {H G : Hp} {s : Shared} {δ : DS}
end
section
variable {X : Cx} {B G₀ : Hp} {F1 F2 : FS} {cls en : Str} {np hpos pos : Pos} {body suite : List Stmt} {b₀ : Stmt} {cs : List Str}
end
end M
set_option Elab.async false
set_option linter.all false
set_option maxRecDepth 100000
set_option maxHeartbeats 4000000
namespace M
open PySem PySem.Spec PyProof.Rows L2
set_option autoImplicit false
section
variable {X : Cx} {B G₀ : Hp} {e : Expr} {fe : FE} {cs : List Str} {p pos : Pos}
variable {iter c : Expr} {sts : List Stmt} {f : FA} {F : FS} {gc : FT}
end
end M
set_option Elab.async false
set_option linter.all false
set_option maxRecDepth 100000
set_option maxHeartbeats 4000000
namespace M
open PySem PySem.Spec PyProof.Rows L2
set_option autoImplicit false
noncomputable def FreshL (K : PySem.W.Frag) (H G : Hp) (ds : List D) (Q : VK) : Prop := ∀ a xs H' G', Ext H G H' G' → H a = none → H' a = some (.lst xs) → G' a = none → xs.length ≤ sizeLine → IsL K G' ds xs → Q (.ref a) H'
noncomputable def spO (K : PySem.W.Frag) (g : List D → Rs (List D)) (n : Nat) : Sp := fun vs H Q _ => ∃ G ds, Same G H ∧ IsL K G ds vs ∧ ds.length = n ∧ (g ds).wp (fun _ => False) fun es => FreshL K H G es Q
structure FnO (P : Program) (w : World) (K : PySem.W.Frag) (mg : Str → Option Value) (base : Heap) (x : Str) (k n : Nat) (g : List D → Rs (List D)) : Prop where
 ex : ∃ (f : Addr) (fd : FuncData) (ps : List Str), FnOk P w K mg base CX0 k f fd ps (spO K g n) ∧ Binds K fd ps [] ∧ mg x = some (.ref f) ∧ PySem.W.keepIn K (.ref f) = true
 len : ∀ ds, ds.length ≠ n → g ds = .bad
 ne : ∀ ds c, g ds ≠ .exc c
section
variable {X : Cx} {B G₀ : Hp} {e : Expr} {es : List Expr} {f : FA} {fr : FA} {F1 : FS} {x : Str} {p pos pos' : Pos} {st : Stmt} {rest : List Stmt} {k n : Nat}
end
section
variable {P : Program} {w : World} {K : PySem.W.Frag} {mg : Str → Option Value} {base : Heap}
end
end M
set_option Elab.async false
set_option linter.all false
set_option maxRecDepth 100000
set_option maxHeartbeats 4000000
namespace M
open PySem PySem.Spec PyProof.Rows L2
set_option autoImplicit false
inductive CompIX (X : Cx) (Y : Cx) (fp : List Addr) (tn : Nat → Heap → Prop) (inn : Option V → St) (cl : List D → Rs (List D)) (H2 G2 : Hp) (Dl : Addr) (ds : List D) (c : Str) (n : Nat) (s' : Shared) : Prop
 | mk (k : Nat) (vx : Option V) (H' G' : Hp) (ys : List V) (es : List D) (h1 : k ≤ ds.length) (h2 : n = ds.length - k) (h3 : Inv Y [] (inn vx) H' s') (h4 : tn k s'.heap) (h5 : ∀ b ∈ fp, H' b = none)
   (h6 : Ext H2 G2 H' G') (h7 : G' Dl = none) (h8 : H' Dl = some (.lst ys)) (h9 : IsL X.K G' es ys) (h10 : es.length ≤ k) (h11 : cl (ds.drop k) = .exc c)
end M
set_option Elab.async false
set_option linter.all false
set_option maxRecDepth 100000
set_option maxHeartbeats 4000000
namespace M
open PySem PySem.Spec PyProof.Rows L2
set_option autoImplicit false
end M
set_option Elab.async false
set_option linter.all false
set_option maxRecDepth 100000
set_option maxHeartbeats 4000000
namespace M
open PySem PySem.Spec PyProof.Rows L2
set_option autoImplicit false
section
variable {X : Cx} {B G₀ : Hp} {o e : Expr} {es : List Expr} {fo fe : FE} {fr : FA} {name : Str} {id : String} {p pos apos : Pos}
end
end M
set_option Elab.async false
set_option linter.all false
set_option maxRecDepth 100000
set_option maxHeartbeats 4000000
namespace M
open PySem PySem.Spec PyProof.Rows L2
set_option autoImplicit false
section
variable {X : Cx} {B G₀ : Hp} {pins : List (Addr × Obj)} {σ : St} {H G : Hp} {s : Shared} {δ : DS}
end
section
variable {X : Cx} {B G₀ : Hp} {F1 F2 : FS} {cls en : Str} {np hpos pos : Pos} {body suite : List Stmt} {b₀ : Stmt} {cs : List Str}
end
end M
set_option Elab.async false
set_option linter.all false
set_option maxRecDepth 100000
set_option maxHeartbeats 4000000
namespace M
open PySem PySem.Spec PyProof.Rows L2
set_option autoImplicit false
open PySem.Builtin.Getset_descriptor PySem.Builtin.ObjectAttr
structure ExnK (K : PySem.W.Frag) (C : Addr) : Prop where
 ob : PySem.W.mroIn K C (.type "object") = some true
 be : PySem.W.mroIn K C (.type "BaseException") = some true
 ga : PySem.W.findIn K (.ref C) "__getattribute__" = some (some (.builtin "BaseException.__getattribute__"))
 gn : PySem.W.findIn K (.ref C) "__getattr__" = some none
 cl : PySem.W.findIn K (.ref C) "__class__" = some (some (.builtin "object.__class__"))
 ty : (PySem.W.clsIn K C).isSome = true
section
variable {prog : Program} {w : World} {A : Around} {E : Value → Shared → Prop} {K : PySem.W.Frag} {h : Heap} {g : Array GenState} {d : Drawn} {t : Nat} {os : OsState} {a C : Addr}
end
section
variable {X : Cx} {B G₀ : Hp} {e : Expr} {fe : FE} {cs : List Str} {p pos : Pos} {b : Bool}
end
end M
set_option Elab.async false
set_option linter.all false
set_option maxRecDepth 100000
set_option maxHeartbeats 4000000
namespace M
open PySem PySem.Spec PyProof.Rows L2
set_option autoImplicit false
end M
set_option Elab.async false
set_option linter.all false
set_option maxRecDepth 100000
set_option maxHeartbeats 4000000
namespace M
open PySem PySem.Spec PyProof.Rows L2
set_option autoImplicit false
theorem wp_setdH {P : Program} {w : World} {κ : Type} [DecidableEq κ] {kd : HeapKind P w κ} {A : Around} {E : Value → Shared → Prop} {s : Shared} {c a : Addr} {ys : List (κ × Addr × Value)} {k : κ} {v : Value} {Q : Value → Shared → Prop}
  (hu : kd.room A) (hk : kd.is s.heap k a) (hm : s.heap.DictOfH kd c ys) (hz : ys.length ≤ sizeLine)
  (h1 : ∀ p, atKey ys k = some p → Q p.2 { s with toks := s.toks + kd.draws k })
  (h2 : atKey ys k = none → ∀ h', h'.DictOfH kd c (storedH ys k a v) → Heap.SameBut c s.heap h' → Q v { s with heap := h', toks := s.toks + kd.draws k }) :
  wpAny (model P w) A (dictSetDefault c (.ref a) v) Q E s := by
 obtain ⟨o, es, ep, ho, hc, hd, he, his, hn⟩ := hm
 unfold dictSetDefault
 try with_reducible refine wpAny_holding ?_
 refine wpAny_bind (kd.pyHash hu hk ?_)
 refine wpAny_bind (wpAny_dictFind_heap (s := { s with toks := s.toks + kd.draws k }) hu hk ho hd he his hn (fun hno => ?_) fun j p hj => ?_)
 ·have z := atKey_none_of_get hno
  have hnot : k ∉ ys.map (·.1) := not_mem_keys_of_get hno
  have hes : es.size ≤ sizeLine := by have e := size_of_entries he; omega
  refine wpAny_bind (wpAny_rule (wpAny_bind (wpAny_updateDictKeys (hz := hes) (s := { s with toks := s.toks + kd.draws k }) ho hd (wpAny_pure (h2 z _
   ⟨_, _, ep + 1, Heap.get?_update_self _ ho (Obj.isFreed_of_dict (Obj.data_mapDictKeys hd _)), hc.mapDictKeys _, Obj.data_mapDictKeys hd _, ?_, ?_, ?_⟩ (Heap.SameBut.update ..))))))
  ·rw [storedH_new z]; simp [he, entryOfKey]
  ·rw [storedH_new z]
   intro x hx
   rcases List.mem_append.mp hx with q | q
   ·exact kd.keeps (his x q) ho hd (Heap.SameBut.update ..)
   ·rw [List.mem_singleton.mp q]; exact kd.keeps hk ho hd (Heap.SameBut.update ..)
  ·rw [storedH_new z, List.map_append, List.nodup_append]
   refine ⟨hn, by simp, fun x hx y hy => ?_⟩
   rw [List.mem_singleton.mp hy]
   exact fun e => hnot (by have e : x = k := e; rw [← e]; exact hx)
 ·refine wpAny_bind (wpAny_dictEntries (s := { s with toks := s.toks + kd.draws k }) ho hd ?_)
  rw [entry_at he j, hj]
  exact wpAny_bind (wpAny_rule (wpAny_pure (h1 p (atKey_of_get hn hj))))
theorem meets_setdH {P : Program} {w : World} {κ : Type} [DecidableEq κ] (kd : HeapKind P w κ) (c a : Addr) (hd : (c == sysModules) = false) (v : Value) :
  MeetsIn P w (Builtin.«dict.setdefault» ⟨[.ref c, .ref a, v], []⟩) (fun A R s => kd.room A.in1 ∧ ∃ k ys, kd.is s.heap k a ∧ s.heap.DictOfH kd c ys ∧ ys.length ≤ sizeLine ∧
   (∀ p, atKey ys k = some p → R (.ok (.ret p.2)) { s with toks := s.toks + kd.draws k }) ∧
   (atKey ys k = none → ∀ h', h'.DictOfH kd c (storedH ys k a v) → Heap.SameBut c s.heap h' → R (.ok (.ret v)) { s with heap := h', toks := s.toks + kd.draws k })) :=
 .of_wp fun A R s ⟨hu, k, ys, hk, hm, hz, h1, h2⟩ => by
  unfold Builtin.«dict.setdefault»
  refine wpAny_bind ?_
  unfold Builtin.Dict.keyAndDefault
  refine wpAny_bind (wpAny_notOrdered_dict hm.typeIs ?_)
  show wpAny _ _ (pure (c, Value.ref a, some v)) _ _ s
  refine wpAny_pure ?_
  show wpAny _ _ (if (c == sysModules) = true then _ else (dictSetDefault c (.ref a) v >>= _)) _ _ s
  rw [if_neg (by rw [hd]; exact Bool.false_ne_true)]
  exact wpAny_bind (wp_setdH hu hk hm hz (fun p hp => wpAny_pure ⟨p.2, rfl, h1 p hp⟩) fun hn h' hm' hs' => wpAny_pure ⟨v, rfl, h2 hn h' hm' hs'⟩)
section
variable {X : Cx}
noncomputable def rSetdT : V → List V → Hp → VK → Prop := fun x xs H Q => ∃ a kvs b k v, x = .ref a ∧ xs = [.ref b, v] ∧ H a = some (.dT kvs) ∧ H b = some (.tup (k.map kV)) ∧ kvs.length < sizeLine ∧ (∀ w, valV kvs k = some w → Q w H) ∧ (valV kvs k = none → Q v (upd H a (.dT (putK kvs k v))))
theorem mt_setdT (hu : X.A.units + 64 < cLine) : MtR X "dict.setdefault" rSetdT := by
 intro pins s σ H x xs v us Q I rx rs h
 obtain ⟨a, kvs, b, k, y, rfl, rfl, hH, hb, hz, q1, q2⟩ := h
 cases (show v = .ref a from rx)
 cases rs with
 | cons r1 rr =>
  cases rr with
  | cons r2 r0 =>
   cases r0
   cases r1
   obtain ⟨z, hd, ys, rel, dd⟩ := dt_of I.hok hH
   have hyz : ys.length ≤ sizeLine := by rw [← Paired.length rel]; exact z
   refine call_meetsIn PySem.F.slot_dict_setdefault dd.typeIs PySem.F.entry_dict_setdefault (PySem.F.args_dict_setdefault_3 _ _ _) (meets_setdH (tupleKind (mixKind X.prog X.w)) a b hd _)
    ⟨tupleKind_room_in1 (by omega), k, ys, key_of I.hok hb, dd, hyz, fun p hp => ?_, fun hn h' dd' hs => ?_⟩
   ·have rv := rel.val k
    rw [hp] at rv
    cases e : valV kvs k with
    | none => rw [e] at rv; exact rv.elim
    | some w' => rw [e] at rv; exact ⟨w', H, I.tok _, rv, q1 w' e⟩
   ·have rv := rel.val k
    rw [hn] at rv
    cases e : valV kvs k with
    | some w' => rw [e] at rv; exact rv.elim
    | none =>
     have hl : (putK kvs k y).length ≤ sizeLine := by have := length_putK kvs k y; omega
     obtain ⟨q, es, ep, hq, h2, h3, h4, _, h5⟩ := dd'
     refine ⟨y, _, d_write (ob := .dT (putK kvs k y)) I (by rw [hH]; exact True.intro) hs ⟨q, hq⟩ ⟨hl, hd, _, (rel.put k hb r2).keeps fun c ys ec => ?_, q, es, ep, hq, h2, h3, h4, h5⟩, r2, q2 e⟩
     rw [upd_ne (ne_of ec hH (fun z => nomatch z))]
     exact ec
end
end M
set_option Elab.async false
set_option linter.all false
set_option maxRecDepth 100000
set_option maxHeartbeats 4000000
namespace M
open PySem PySem.Spec PyProof.Rows L2
set_option autoImplicit false
noncomputable def keysD : List D → Option (List Key)
 | [] => some []
 | d :: ds => match keyD d with
  | some k => (keysD ds).map (k :: ·)
  | none => none
noncomputable def keyT : D → Option (List Key)
 | .tup ds => keysD ds
 | _ => none
theorem isL_keys {K : PySem.W.Frag} {G : Hp} : ∀ {ds : List D} {ks : List Key} {xs : List V}, keysD ds = some ks → IsL K G ds xs → xs = ks.map kV
 | [], ks, xs, h, i => by cases h; exact i
 | d :: ds, ks, xs, h, i => by
  obtain ⟨x, r, rfl, h1, h2⟩ := i
  unfold keysD at h
  split at h
  ·rename_i k hk
   obtain ⟨ks', e1, rfl⟩ := Option.map_eq_some_iff.mp h
   rw [is_key hk h1, isL_keys e1 h2]; rfl
  ·cases h
theorem is_keyT {K : PySem.W.Frag} {G : Hp} {d : D} {v : V} {k : List Key} (h : keyT d = some k) (i : Is K G d v) : ∃ b, v = .ref b ∧ G b = some (.tup (k.map kV)) := by
 cases d with
 | tup ds =>
  obtain ⟨a, xs, rfl, h1, _, h3⟩ := i
  exact ⟨a, rfl, by rw [← isL_keys h h3]; exact h1⟩
 | _ => cases h
noncomputable def inTR (a b : D) : Rs D := match b with
 | .dtt ks ds => match keyT a with
  | some k => .ok (.bl (valD ks ds k).isSome)
  | none => .bad
 | _ => .bad
theorem od_inT {X : Cx} (hu : X.A.units + 64 < cLine) : OpD X (compareOp .In) inTR := by
 intro pins s σ H G Q d1 d2 x y v u I gh rx ry i1 i2 hw
 unfold inTR at hw
 split at hw
 ·rename_i ks ds
  split at hw
  ·rename_i k hk
   obtain ⟨b, rfl, hb⟩ := is_keyT hk i1
   obtain ⟨a, xs, rfl, h1, h2, h3⟩ := i2
   cases (show u = .ref a from ry)
   refine d_in (by omega) I (DGet.t (gh _ _ h1) (gh _ _ hb)) rx fun s' I' => ⟨.bl _, H, I', rfl, ?_⟩
   have e : (valV (ks.zip xs) k).isSome = (valD ks ds k).isSome := by
    obtain ⟨z1, z2⟩ := valV_zip (j := k) h2 h3
    cases q : valD ks ds k with
    | none => rw [z1 q]; rfl
    | some d => obtain ⟨v, e, _⟩ := z2 d q; rw [e]; rfl
   rw [e]
   exact wOk hw gh rfl
  ·exact hw.elim
 ·exact hw.elim
noncomputable def dixTR (a b : D) : Rs D := match a with
 | .dtt ks ds => match keyT b with
  | some k => match valD ks ds k with
   | some d => .ok d
   | none => .bad
  | none => .bad
 | _ => .bad
noncomputable def getS (d : D) (r : Rs D) : Rs D := match d with
 | .dct ks ds => r >>= fun b => match keyD b with
  | some k => .ok ((valD ks ds k).getD .non)
  | none => .bad
 | _ => .bad
noncomputable def getF (fa fb : FE) : FE := fun δ => fa δ >>= fun d => getS d (fb δ)
section
variable {X : Cx} {B G₀ : Hp} {a b e : Expr} {es : List Expr} {fa fb fe : FE} {fr : FA} {pos pos' p p2 apos cpos : Pos} {x : Str}
theorem q_dixT (hu : X.A.units + 64 < cLine) (ha : PE X a (tE X B G₀ fa)) (hb : PE X b (tE X B G₀ fb)) (hs : NoSl b := by intro _ _; rfl) : PE X (.Subscript a b pos) (tE X B G₀ (bin2 dixTR fa fb)) := by
 refine pd_of (pe_dget (by omega) ha hb hs) fun σ H G δ Q R hw => ⟨G, δ, R, ?_⟩
 unfold W bin2 at hw
 rw [wp_bind] at hw
 refine Rs.wp.mono hw (fun _ x => x) fun d1 q1 v1 H1 G1 e1 i1 => ⟨G1, δ, R.mono e1, ?_⟩
 rw [wp_bind] at q1
 refine Rs.wp.mono q1 (fun _ x => x.mono e1) fun d2 q2 v2 H2 G2 e2 i2 => ?_
 unfold dixTR at q2
 split at q2
 ·rename_i ks ds
  split at q2
  ·rename_i k hk
   obtain ⟨y, rfl, hy⟩ := is_keyT hk i2
   obtain ⟨c, xs, rfl, h1, h2, h3⟩ := i1.same e2.gg
   split at q2
   ·rename_i d hd
    obtain ⟨w, ew, iw⟩ := (valV_zip (j := k) h2 h3).2 d hd
    exact ⟨c, w, rfl, by rw [← ew]; exact DGet.t (e2.gh _ _ h1) (e2.gh _ _ hy), q2 w H2 G2 (e1.trans e2) iw⟩
   ·exact q2.elim
  ·exact q2.elim
 ·exact q2.elim
theorem q_get (hu : X.A.units + 64 < cLine) (ha : PE X a (tE X B G₀ fa)) (hb : PE X b (tE X B G₀ fb)) (m : M1 X a "get" apos b cpos := by exact ⟨rfl, rfl, rfl, rfl⟩) : PE X (.Call (.Attribute a "get" apos) [b] [] cpos) (tE X B G₀ (getF fa fb)) := by
 refine pd_of (pe_dget1 (by omega) ha hb m) fun σ H G δ Q R hw => ⟨G, δ, R, ?_⟩
 unfold W getF at hw
 rw [wp_bind] at hw
 refine Rs.wp.mono hw (fun _ x => x) fun d1 q1 v1 H1 G1 e1 i1 => ?_
 unfold getS at q1
 split at q1
 ·rename_i ks ds
  obtain ⟨c, xs, rfl, h1, h2, h3⟩ := i1
  refine ⟨c, rfl, .inl ⟨_, .inl (e1.gh _ _ h1)⟩, G1, δ, R.mono e1, ?_⟩
  rw [wp_bind] at q1
  refine Rs.wp.mono q1 (fun _ x => x.mono e1) fun d2 q2 v2 H2 G2 e2 i2 => ?_
  split at q2
  ·rename_i k hk
   cases is_key hk i2
   have h3 := h3.same e2.gg
   refine ⟨_, DGet.k (e2.gh _ _ (e2.gg _ _ h1)), q2 _ H2 G2 (e1.trans e2) ?_⟩
   obtain ⟨z1, z2⟩ := valV_zip (j := k) h2 h3
   cases q : valD ks ds k with
   | none => rw [z1 q]; rfl
   | some d => obtain ⟨w, ew, iw⟩ := z2 d q; rw [ew]; exact iw
  ·exact q2.elim
 ·exact q1.elim
noncomputable def newTS (i : Nat) : FS := fun δ => .nx (δ.set i (some (.ow (.t []) [])))
theorem q_newT (i : Nat) (hN : X.N.Nodup) (hi : X.N[i]? = some x := by rfl) (hx : Loc X.env.scope x := by first | exact Or.inl rfl | exact Or.inr rfl) (hs : swapsWith (.Dict [] [] p2) (some (.Name x pos')) pos.line X.env = pure false := by rfl)
  (hf : X.fn x = true ∨ X.env.scope.names.lookup x = some .local := by first | exact .inl rfl | exact .inr rfl | assumption) :
  PS X (.Assign [.Name x pos'] (.Dict [] [] p2) pos) (tS X B G₀ (newTS i)) := by
 refine ps_imp (ps_set hN hi hx pe_dnewT hs hf) fun D' σ H ⟨G, δ, R, hw⟩ => fun q hq => ?_
 exact hw _ _ G (R.setOwnK (kd := .t []) (ds := []) (xs := []) i hq (same_upd hq _) upd_same (R.ext.gh.trans (same_upd hq _)) rfl rfl)
end
@[simp] theorem s_newTS (i : Nat) (δ : DS) : newTS i δ = .nx (δ.set i (some (.ow (.t []) []))) := nodef rfl
@[simp] theorem s_getF (fa fb : FE) (δ : DS) : getF fa fb δ = (fa δ >>= fun d => getS d (fb δ)) := nodef rfl
noncomputable def idxK {κ : Type} [DecidableEq κ] : List κ → κ → Option Nat
 | [], _ => none
 | k :: ks, j => if k = j then some 0 else (idxK ks j).map (· + 1)
theorem valV_idx {κ : Type} [DecidableEq κ] : ∀ {ks : List κ} {ys : List V} {j : κ}, ks.length = ys.length → valV (ks.zip ys) j = (idxK ks j).bind fun n => ys[n]?
 | [], ys, j, _ => rfl
 | k :: ks, [], j, h => by simp at h
 | k :: ks, y :: ys, j, h => by
  unfold idxK
  by_cases e : k = j
  ·rw [if_pos e]; show valV ((k, y) :: ks.zip ys) j = _; rw [valV_pos e]; rfl
  ·rw [if_neg e]; show valV ((k, y) :: ks.zip ys) j = _
   rw [valV_neg e, valV_idx (by simpa using h)]
   cases idxK ks j <;> simp
theorem idxK_lt {κ : Type} [DecidableEq κ] : ∀ {ks : List κ} {j : κ} {n : Nat}, idxK ks j = some n → n < ks.length
 | [], j, n, h => by cases h
 | k :: ks, j, n, h => by
  unfold idxK at h
  split at h
  ·cases h; simp
  ·obtain ⟨m, e, rfl⟩ := Option.map_eq_some_iff.mp h
   have := idxK_lt e
   simp; omega
theorem valD_idx {κ : Type} [DecidableEq κ] : ∀ {ks : List κ} {ys : List D} {j : κ}, ks.length = ys.length → valD ks ys j = (idxK ks j).bind fun n => ys[n]?
 | [], ys, j, _ => by cases ys <;> rfl
 | k :: ks, [], j, h => by simp at h
 | k :: ks, y :: ys, j, h => by
  unfold idxK valD
  by_cases e : k = j
  ·rw [if_pos e, if_pos e]; rfl
  ·rw [if_neg e, if_neg e, valD_idx (by simpa using h)]
   cases idxK ks j <;> simp
noncomputable abbrev Ch := List Key × List D
noncomputable def addCh (c : Ch) (k : Key) (v : D) : Ch := match valD c.1 c.2 k with
 | some _ => c
 | none => (c.1 ++ [k], c.2 ++ [v])
structure Erl (K : PySem.W.Frag) (B : Hp) (a : Addr) (ks : List (List Key)) (bs : List Addr) (cs : List Ch) (H G : Hp) : Prop where
 ha : H a = some (.dT (ks.zip (bs.map V.ref)))
 ga : G a = none
 ba : B a = none
 lk : ks.length = bs.length
 len : bs.length = cs.length
 el : ∀ (j : Nat) (b : Addr) (c : Ch), bs[j]? = some b → cs[j]? = some c → ∃ xs, H b = some (.dK (c.1.zip xs)) ∧ c.1.length = xs.length ∧ IsL K G c.2 xs ∧ G b = none ∧ B b = none
 nd : (a :: bs).Nodup
theorem Erl.mono {K : PySem.W.Frag} {B : Hp} {a : Addr} {ks : List (List Key)} {bs : List Addr} {cs : List Ch} {H G H1 G1 : Hp} (g : Erl K B a ks bs cs H G) (e : Ext H G H1 G1) : Erl K B a ks bs cs H1 G1 :=
 ⟨e.hh _ _ g.ha, ext_none e g.ga ⟨_, g.ha⟩, g.ba, g.lk, g.len, fun j b c h1 h2 => by
  obtain ⟨xs, z1, z2, z3, z4, z5⟩ := g.el j b c h1 h2
  exact ⟨xs, e.hh _ _ z1, z2, z3.same e.gg, ext_none e z4 ⟨_, z1⟩, z5⟩, g.nd⟩
theorem Erl.beside {K : PySem.W.Frag} {B : Hp} {a : Addr} {ks : List (List Key)} {bs : List Addr} {cs : List Ch} {H G : Hp} (g : Erl K B a ks bs cs H G) {p : Addr} (hp : H p = none) (o : HO) : Erl K B a ks bs cs (upd H p o) G :=
 ⟨same_upd hp o _ _ g.ha, g.ga, g.ba, g.lk, g.len, fun j b c h1 h2 => by
  obtain ⟨xs, z1, z⟩ := g.el j b c h1 h2
  exact ⟨xs, same_upd hp o _ _ z1, z⟩, g.nd⟩
theorem Erl.child {K : PySem.W.Frag} {B : Hp} {a : Addr} {ks : List (List Key)} {bs : List Addr} {cs : List Ch} {H G : Hp} (g : Erl K B a ks bs cs H G) {b : Addr} (hb : b ∈ bs) : ∃ o, H b = some o := by
 obtain ⟨j, hj⟩ := List.getElem?_of_mem hb
 obtain ⟨hj1, _⟩ := List.getElem?_eq_some_iff.mp hj
 obtain ⟨xs, z1, _⟩ := g.el j b _ hj (List.getElem?_eq_getElem (show j < cs.length by rw [← g.len]; exact hj1))
 exact ⟨_, z1⟩
theorem Erl.push {K : PySem.W.Frag} {B : Hp} {a : Addr} {ks : List (List Key)} {bs : List Addr} {cs : List Ch} {H G : Hp} (g : Erl K B a ks bs cs H G) (gh : Same G H) (bh : Same B H) {p : Addr} (hp : H p = none) (k : List Key) :
  Erl K B a (ks ++ [k]) (bs ++ [p]) (cs ++ [([], [])]) (upd (upd H p (.dK [])) a (.dT (ks.zip (bs.map V.ref) ++ [(k, .ref p)]))) G := by
 have hpa : p ≠ a := fun z => by rw [z, g.ha] at hp; cases hp
 have hab : ∀ b ∈ bs, b ≠ a := fun b hb z => (List.nodup_cons.mp g.nd).1 (z ▸ hb)
 have hpb : p ∉ bs := fun hb => by obtain ⟨o, z⟩ := g.child hb; rw [hp] at z; cases z
 refine ⟨by rw [upd_same, List.map_append, List.zip_append (by rw [List.length_map]; exact g.lk)]; rfl, g.ga, g.ba, by simp [g.lk], by simp [g.len], fun j b c h1 h2 => ?_, ?_⟩
 ·by_cases hj : j < bs.length
  ·rw [List.getElem?_append_left hj] at h1
   rw [List.getElem?_append_left (by rw [← g.len]; exact hj)] at h2
   obtain ⟨xs, z1, z2⟩ := g.el j b c h1 h2
   refine ⟨xs, ?_, z2⟩
   have hb := List.mem_of_getElem? h1
   rw [upd_ne (hab b hb), upd_ne (fun z => by rw [z] at hb; exact hpb hb)]; exact z1
  ·have hj' : j = bs.length := by
    have := (List.getElem?_eq_some_iff.mp h1).1
    simp at this; omega
   subst hj'
   rw [List.getElem?_concat_length] at h1
   rw [g.len, List.getElem?_concat_length] at h2
   cases h1; cases h2
   exact ⟨[], by rw [upd_ne hpa, upd_same]; rfl, rfl, rfl, gh.free hp, bh.free hp⟩
 ·rw [← List.cons_append]
  refine List.nodup_append.mpr ⟨g.nd, by simp, fun x hx y hy => ?_⟩
  rw [List.mem_singleton.mp hy]
  rintro rfl
  rcases List.mem_cons.mp hx with z | z
  ·exact hpa z
  ·exact hpb z
theorem Erl.put {K : PySem.W.Frag} {B : Hp} {a : Addr} {ks : List (List Key)} {bs : List Addr} {cs : List Ch} {H G : Hp} (g : Erl K B a ks bs cs H G) {j : Nat} {b : Addr} {c : Ch} (h1 : bs[j]? = some b) {ys : List V} (hl : c.1.length = ys.length) (hI : IsL K G c.2 ys) :
  Erl K B a ks bs (cs.set j c) (upd H b (.dK (c.1.zip ys))) G := by
 have hb := List.mem_of_getElem? h1
 have hba : b ≠ a := fun z => (List.nodup_cons.mp g.nd).1 (z ▸ hb)
 have hjl := (List.getElem?_eq_some_iff.mp h1).1
 obtain ⟨_, _, _, _, gb, bb⟩ := g.el j b _ h1 (List.getElem?_eq_getElem (show j < cs.length by rw [← g.len]; exact hjl))
 refine ⟨by rw [upd_ne (Ne.symm hba)]; exact g.ha, g.ga, g.ba, g.lk, by simp [g.len], fun i d e q1 q2 => ?_, g.nd⟩
 by_cases hi : j = i
 ·subst hi
  rw [h1] at q1; cases q1
  rw [List.getElem?_set] at q2
  simp only [if_true] at q2
  rw [if_pos (by rw [← g.len]; exact hjl)] at q2
  cases q2
  exact ⟨ys, upd_same, hl, hI, gb, bb⟩
 ·rw [List.getElem?_set_ne hi] at q2
  obtain ⟨xs, w1, w2⟩ := g.el i d e q1 q2
  refine ⟨xs, ?_, w2⟩
  rw [upd_ne]; exact w1
  intro z
  have hnd := (List.nodup_cons.mp g.nd).2
  have e1 := (List.getElem?_eq_some_iff.mp h1)
  have e2 := (List.getElem?_eq_some_iff.mp q1)
  obtain ⟨l1, e1⟩ := e1
  obtain ⟨l2, e2⟩ := e2
  exact hi ((List.getElem_inj (h₀ := l1) (h₁ := l2) hnd).mp (e1.trans (z.symm.trans e2.symm)))
noncomputable def chD (c : Ch) : D := .dct c.1 c.2
open Classical in
theorem Erl.share {X : Cx} {B G₀ : Hp} {σ : St} {H G : Hp} {δ : DS} {a : Addr} {ks : List (List Key)} {bs : List Addr} {cs : List Ch} (g : Erl X.K B a ks bs cs H G) (R : Rel X B G₀ σ H G δ) (n : noOwn δ = true) {i : Nat} (hσ : σ[i]? = some (some (.ref a))) (hi : i < δ.length) :
  ∃ G', Rel X B G₀ σ H G' (δ.set i (some (.v (.dtt ks (cs.map chD))))) := by
 have gbs : ∀ b ∈ bs, G b = none ∧ B b = none := fun b hb => by
  obtain ⟨j, hj⟩ := List.getElem?_of_mem hb
  obtain ⟨hj1, _⟩ := List.getElem?_eq_some_iff.mp hj
  obtain ⟨xs, _, _, _, z4, z5⟩ := g.el j b _ hj (List.getElem?_eq_getElem (show j < cs.length by rw [← g.len]; exact hj1))
  exact ⟨z4, z5⟩
 have gal : ∀ b ∈ a :: bs, G b = none ∧ B b = none := fun b hb => by
  rcases List.mem_cons.mp hb with z | z
  ·rw [z]; exact ⟨g.ga, g.ba⟩
  ·exact gbs b z
 let G' : Hp := fun b => if b ∈ a :: bs then H b else G b
 have gg : Same G G' := fun b o q => by
  show (if b ∈ a :: bs then H b else G b) = some o
  rw [if_neg fun z => by rw [(gal b z).1] at q; cases q]; exact q
 have gh : Same G' H := fun b o q => by
  have q : (if b ∈ a :: bs then H b else G b) = some o := q
  split at q
  ·exact q
  ·exact R.ext.gh b o q
 have at_ : ∀ b ∈ a :: bs, G' b = H b := fun b hb => if_pos hb
 have hIs : Is X.K G' (.dtt ks (cs.map chD)) (.ref a) := by
  refine ⟨a, bs.map V.ref, rfl, by rw [at_ a (List.mem_cons_self ..)]; exact g.ha, by rw [List.length_map]; exact g.lk, ?_⟩
  have key : ∀ (bs' : List Addr) (cs' : List Ch), bs'.length = cs'.length → (∀ (j : Nat) (b : Addr) (c : Ch), bs'[j]? = some b → cs'[j]? = some c → Is X.K G' (chD c) (.ref b)) → IsL X.K G' (cs'.map chD) (bs'.map V.ref) := by
   intro bs'
   induction bs' with
   | nil => intro dss' hl _; rw [List.length_eq_zero_iff.mp hl.symm]; rfl
   | cons b bs' ih =>
    intro dss' hl h
    cases dss' with
    | nil => simp at hl
    | cons ds dss' => exact .cons (h 0 b ds rfl rfl) (ih dss' (by simpa using hl) fun j c es e1 e2 => h (j + 1) c es (by simpa using e1) (by simpa using e2))
  refine key bs cs g.len fun j b c h1 h2 => ?_
  obtain ⟨xs, z1, z2, z3, _⟩ := g.el j b c h1 h2
  exact ⟨b, xs, rfl, by rw [at_ b (List.mem_cons_of_mem _ (List.mem_of_getElem? h1))]; exact z1, z2, z3.same gg⟩
 refine ⟨G', ⟨⟨R.ext.hh, R.ext.gg.trans gg, gh, fun b o q => ?_⟩, by simp [R.len], fun j d q => ?_, fun j kA ds q => ?_, fun j k kB kC ds es c q => ?_⟩⟩
 ·have q : (if b ∈ a :: bs then H b else G b) = some o := q
  split at q
  ·rename_i hb; exact .inr (gal b hb).2
  ·exact R.ext.new b o q
 ·by_cases hj : i = j
  ·subst hj
   rw [List.getElem?_set] at q
   simp only [if_true] at q
   rw [if_pos hi] at q
   cases q
   exact ⟨.ref a, hσ, hIs⟩
  ·rw [List.getElem?_set_ne hj] at q
   obtain ⟨v, h1, h2⟩ := R.val j d q
   exact ⟨v, h1, h2.same gg⟩
 ·exact (noOwn_no (noOwn_set n i _) q).elim
 ·exact (noOwn_no (noOwn_set n i _) q).elim
theorem Rel.hid {X : Cx} {B G₀ : Hp} {σ : St} {H G : Hp} {δ : DS} (R : Rel X B G₀ σ H G δ) (i : Nat) (h : ∀ x, δ[i]? ≠ some (some x)) (v : Option V) : Rel X B G₀ (σ.set i v) H G δ := by
 have ne : ∀ {j : Nat} {x : Sl}, δ[j]? = some (some x) → i ≠ j := fun {j x} q z => h x (z ▸ q)
 refine ⟨R.ext, by simp [R.len], fun j d q => ?_, fun j k ds q => ?_, fun j k k1 k2 ds es a q1 q2 q3 q4 => ?_⟩
 ·rw [List.getElem?_set_ne (ne q)]; exact R.val j d q
 ·rw [List.getElem?_set_ne (ne q)]; exact R.own j ds q
 ·rw [List.getElem?_set_ne (ne q1)] at q3
  rw [List.getElem?_set_ne (ne q2)] at q4
  exact R.apart j k ds es a q1 q2 q3 q4
noncomputable def erl1 (ks : List (List Key)) (cs : List Ch) (k : List Key) (k2 : Key) (v : D) : Option (List (List Key) × List Ch) := match idxK ks k with
 | some j => match cs[j]? with
  | some c => if c.1.length < 1000000 then some (ks, cs.set j (addCh c k2 v)) else none
  | none => none
 | none => some (ks ++ [k], cs ++ [([k2], [v])])
noncomputable def erlO (i j : Nat) (f1 f2 f3 : FE) : List D → DS → List (List Key) → List Ch → Rs (DS × List (List Key) × List Ch)
 | [], δ, ks, cs => .ok (δ, ks, cs)
 | d :: ds, δ, ks, cs => match tgT i j d δ with
  | some δ1 => match f1 δ1 with
   | .ok d1 => match f2 δ1 with
    | .ok d2 => match f3 δ1 with
     | .ok d3 => match keyT d1 with
      | some k => match keyD d2 with
       | some k2 => if ks.length < 1000000 then (match erl1 ks cs k k2 d3 with
        | some r => erlO i j f1 f2 f3 ds δ1 r.1 r.2
        | none => .bad) else .bad
       | none => .bad
      | none => .bad
     | _ => .bad
    | _ => .bad
   | _ => .bad
  | none => .bad
noncomputable def erlS (g q i j : Nat) (f : FA) (f1 f2 f3 : FE) : FS := fun δ => match f δ with
 | .ok ds => match δ[g]? with
  | some (some (.ow (.t []) [])) => if noOwn ((δ.set g none).set q none) = true ∧ q < δ.length then (match erlO i j f1 f2 f3 ds ((δ.set g none).set q none) [] [] with
   | .ok r => .nx (r.1.set g (some (.v (.dtt r.2.1 (r.2.2.map chD)))))
   | _ => .bad) else .bad
  | _ => .bad
 | _ => .bad
end M
set_option Elab.async false
set_option linter.all false
set_option maxRecDepth 100000
set_option maxHeartbeats 4000000
namespace M
open PySem PySem.Spec PyProof.Rows L2
set_option autoImplicit false
theorem set_same {α : Type} {l : List α} {n : Nat} {x : α} (h : l[n]? = some x) : l.set n x = l := by
 apply List.ext_getElem?
 intro j
 by_cases hj : n = j
 ·subst hj; rw [List.getElem?_set]; simp only [if_true]; rw [if_pos (List.getElem?_eq_some_iff.mp h).1, h]
 ·rw [List.getElem?_set_ne hj]
theorem Erl.sec {K : PySem.W.Frag} {B : Hp} {a : Addr} {ks : List (List Key)} {bs : List Addr} {cs : List Ch} {H G : Hp} (g : Erl K B a ks bs cs H G) (bh : Same B H) (gh : Same G H) {n : Nat} {b : Addr} {c : Ch} (hn : bs[n]? = some b) (hc : cs[n]? = some c) (hl : c.1.length < 1000000)
  (k2 : Key) {v3 : V} {d3 : D} (i3 : Is K G d3 v3) {Q : VK} (hQ : ∀ v H', Erl K B a ks bs (cs.set n (addCh c k2 d3)) H' G → Same B H' → Same G H' → Q v H') : rSetd (.ref b) [kV k2, v3] H Q := by
 obtain ⟨xs, z1, z2, z3, z4, z5⟩ := g.el n b c hn hc
 have ml := million
 obtain ⟨y1, y2⟩ := valV_zip (j := k2) z2 z3
 refine ⟨b, c.1.zip xs, k2, v3, rfl, rfl, z1, by rw [List.length_zip]; omega, fun w hw => ?_, fun hnn => ?_⟩
 ·cases qd : valD c.1 c.2 k2 with
  | none => rw [y1 qd] at hw; cases hw
  | some d =>
   have e : addCh c k2 d3 = c := by unfold addCh; rw [qd]
   exact hQ w H (by rw [e, set_same hc]; exact g) bh gh
 ·cases qd : valD c.1 c.2 k2 with
  | some d => obtain ⟨w, ew, _⟩ := y2 d qd; rw [ew] at hnn; cases hnn
  | none =>
   have e : addCh c k2 d3 = (c.1 ++ [k2], c.2 ++ [d3]) := by unfold addCh; rw [qd]
   rw [putK_new v3 hnn]
   have ez : c.1.zip xs ++ [(k2, v3)] = (c.1 ++ [k2]).zip (xs ++ [v3]) := by rw [List.zip_append z2]; rfl
   rw [ez]
   have gp := g.put (c := (c.1 ++ [k2], c.2 ++ [d3])) hn (ys := xs ++ [v3]) (by simp [z2]) (z3.append (IsL.one i3))
   refine hQ v3 _ (by rw [e]; exact gp) (fun x o q => ?_) (fun x o q => ?_)
   ·rw [upd_ne (ne_of_none q z5)]; exact bh x o q
   ·rw [upd_ne (ne_of_none q z4)]; exact gh x o q
theorem erlO_len {i j : Nat} {f1 f2 f3 : FE} : ∀ {ds : List D} {δ δ' : DS} {ks : List (List Key)} {cs : List Ch} {r : List (List Key) × List Ch}, erlO i j f1 f2 f3 ds δ ks cs = .ok (δ', r) → δ.length = δ'.length := by
 intro ds
 induction ds with
 | nil => intro δ δ' ks cs r h; cases h; rfl
 | cons d ds ih =>
  intro δ δ' ks cs r h
  unfold erlO at h
  split at h
  ·rename_i δ1 ht
   have hl : δ1.length = δ.length := by
    unfold tgT at ht
    split at ht
    ·cases ht; simp
    ·cases ht
   split at h
   ·split at h
    ·split at h
     ·split at h
      ·split at h
       ·split at h
        ·split at h
         ·rw [← hl]; exact ih h
         ·cases h
        ·cases h
       ·cases h
      ·cases h
     ·cases h
    ·cases h
   ·cases h
  ·cases h
inductive ErlI (X : Cx) (B G1 : Hp) (δe : DS) (r : List (List Key) × List Ch) (a : Addr) (g q i j : Nat) (f1 f2 f3 : FE) (ds : List D) (m : Nat) (σ : St) (H : Hp) : Prop
 | mk (G : Hp) (δ : DS) (ks : List (List Key)) (bs : List Addr) (cs : List Ch) (h1 : Rel X B G1 σ H G δ) (h2 : noOwn δ = true) (h3 : δ.length = δe.length) (h4 : σ[g]? = some (some (.ref a))) (h5 : Erl X.K B a ks bs cs H G)
  (h6 : ∀ x, δ[q]? ≠ some (some x)) (h7 : erlO i j f1 f2 f3 (ds.drop m) δ ks cs = .ok (δe, r))
section
variable {X : Cx} {B G₀ : Hp}
theorem q_earl (g q i j : Nat) {xi xj xg xq : Str} {iter e1 e2 e3 : Expr} {f : FA} {f1 f2 f3 : FE} {kk : Nat} {pi pj pt pq pg pa pd pc ps pq' pa' pc' pe pos : Pos} (hgi : g ≠ i) (hgj : g ≠ j) (hgq : g ≠ q) (hqi : q ≠ i) (hqj : q ≠ j)
  (hu : X.A.units + 64 < cLine) (hp : PassesOwn (model X.prog X.w) X.A X.env X.xe) (hc : X.calm = true) (hN : X.N.Nodup)
  (hi : PI X (.Tuple [.Name xi pi, .Name xj pj] kk pt) iter (tI X B G₀ f)) (h1 : PE X e1 (tE X (fun _ => none) (fun _ => none) f1)) (h2 : PE X e2 (tE X (fun _ => none) (fun _ => none) f2)) (h3 : PE X e3 (tE X (fun _ => none) (fun _ => none) f3))
  (hii : X.N[i]? = some xi := by rfl) (hxi : Loc X.env.scope xi := by first | exact Or.inl rfl | exact Or.inr rfl) (hfi : X.fn xi = true ∨ X.env.scope.names.lookup xi = some .local := by first | exact .inl rfl | exact .inr rfl | assumption)
  (hij : X.N[j]? = some xj := by rfl) (hxj : Loc X.env.scope xj := by first | exact Or.inl rfl | exact Or.inr rfl) (hfj : X.fn xj = true ∨ X.env.scope.names.lookup xj = some .local := by first | exact .inl rfl | exact .inr rfl | assumption)
  (hiq : X.N[q]? = some xq := by rfl) (hxq : Loc X.env.scope xq := by first | exact Or.inl rfl | exact Or.inr rfl) (hfq : X.fn xq = true ∨ X.env.scope.names.lookup xq = some .local := by first | exact .inl rfl | exact .inr rfl | assumption)
  (hvq : Vis X.env.scope xq := by first | exact Or.inl rfl | exact Or.inr (Or.inl rfl) | exact Or.inr (Or.inr rfl)) (hdq : (xq == ("__debug__" : Str)) = false := by decide) (hcq : (xq == ("__classdict__" : Str)) = false := by decide)
  (hig : X.N[g]? = some xg := by rfl) (hvg : Vis X.env.scope xg := by first | exact Or.inl rfl | exact Or.inr (Or.inl rfl) | exact Or.inr (Or.inr rfl)) (hdg : (xg == ("__debug__" : Str)) = false := by decide) (hcg : (xg == ("__classdict__" : Str)) = false := by decide)
  (hsA : starEach [e1, .Dict [] [] pd] X.env = (false, eval e1 X.env) :: starEach [.Dict [] [] pd] X.env := by rfl) (hsB : starEach [.Dict [] [] pd] X.env = (false, eval (.Dict [] [] pd) X.env) :: starEach [] X.env := by rfl)
  (hb1 : attributeBase (.Name xg pg) "setdefault" X.env (eval (.Name xg pg) X.env) = eval (.Name xg pg) X.env := by rfl)
  (hf1 : ((backTo pc (starEach [e1, .Dict [] [] pd] X.env)).all (fun x => !x.1) && (backToKw pc (keywordEach [] X.env)).all (fun x => x.1.isSome) && decide ([e1, .Dict [] [] pd].length + ([] : List Keyword).length + (if ([] : List Keyword).isEmpty then 0 else 1) < 30)) = true := by rfl)
  (hl1 : (pa.endLine == pc.line) = true := by rfl) (hpl1 : (backTo pc (starEach [.Dict [] [] pd] X.env)).any (·.1) = false := by rfl)
  (hsw1 : swapsWith (.Call (.Attribute (.Name xg pg) "setdefault" pa) [e1, .Dict [] [] pd] [] pc) (some (.Name xq pq)) ps.line X.env = pure false := by rfl)
  (hsC : starEach [e2, e3] X.env = (false, eval e2 X.env) :: starEach [e3] X.env := by rfl) (hsD : starEach [e3] X.env = (false, eval e3 X.env) :: starEach [] X.env := by rfl)
  (hb2 : attributeBase (.Name xq pq') "setdefault" X.env (eval (.Name xq pq') X.env) = eval (.Name xq pq') X.env := by rfl)
  (hf2 : ((backTo pc' (starEach [e2, e3] X.env)).all (fun x => !x.1) && (backToKw pc' (keywordEach [] X.env)).all (fun x => x.1.isSome) && decide ([e2, e3].length + ([] : List Keyword).length + (if ([] : List Keyword).isEmpty then 0 else 1) < 30)) = true := by rfl)
  (hl2 : (pa'.endLine == pc'.line) = true := by rfl) (hpl2 : (backTo pc' (starEach [e3] X.env)).any (·.1) = false := by rfl)
  (hsw2 : swapsWith (.Call (.Attribute (.Name xq pq') "setdefault" pa') [e2, e3] [] pc') none pe.line X.env = pure false := by rfl)
  (hs : ∀ x, foldedSetIterable iter X.env x = pure x := by intro _; rfl) :
  PS X (.For (.Tuple [.Name xi pi, .Name xj pj] kk pt) iter [.Assign [.Name xq pq] (.Call (.Attribute (.Name xg pg) "setdefault" pa) [e1, .Dict [] [] pd] [] pc) ps, .Expr (.Call (.Attribute (.Name xq pq') "setdefault" pa') [e2, e3] [] pc') pe] [] pos) (tS X B G₀ (erlS g q i j f f1 f2 f3)) := by
 have hbody := pss_cons (ps_set (pos := ps) (pos' := pq) hN hiq hxq (pe_bm (cpos := pc) (apos := pa) PySem.F.plainAttrs_dict PySem.F.slot_dict_setdefault PySem.F.type_dict_setdefault (mt_setdT hu) (pe_var (pos := pg) hig hvg hdg hcg) (pa_cons h1 (pa_cons (pe_dnewK (pos := pd)) pa_nil hsB) hsA) hb1 hf1 hl1 hsA hpl1) hsw1 hfq)
  (pss_one (ps_expr (pos := pe) (pe_bm (cpos := pc') (apos := pa') PySem.F.plainAttrs_dict PySem.F.slot_dict_setdefault PySem.F.type_dict_setdefault mt_setd (pe_var (pos := pq') hiq hvq hdq hcq) (pa_cons h2 (pa_cons h3 pa_nil hsD) hsC) hb2 hf2 hl2 hsC hpl2) hsw2))
 intro pins s σ H D' I h
 obtain ⟨G, δ, R, hw⟩ := h
 refine ps_for hp hc hi (pg_tup hc (pgs_cons (pg_name hN hii hxi hfi) (pgs_cons (pg_name hN hij hxj hfj) pgs_nil))) hbody hs pins s σ H D' I ⟨G, δ, R, ?_⟩
 have hw : WS X B G₀ D' (erlS g q i j f f1 f2 f3 δ) := hw
 unfold erlS at hw
 cases qf : f δ with
 | exc c => rw [qf] at hw; exact hw.elim
 | bad => rw [qf] at hw; exact hw.elim
 | ok ds =>
  rw [qf] at hw
  dsimp only at hw
  split at hw
  ·rename_i hg0
   split at hw
   ·rename_i hno
    obtain ⟨hno, hql⟩ := hno
    cases q2 : erlO i j f1 f2 f3 ds ((δ.set g none).set q none) [] [] with
    | exc c => rw [q2] at hw; exact hw.elim
    | bad => rw [q2] at hw; exact hw.elim
    | ok r =>
     rw [q2] at hw
     obtain ⟨δe, re⟩ := r
     dsimp only at hw
     intro J H1 G1 e1' hJ
     have R1 := R.mono e1'
     have eb : Ext B G₀ H1 G1 := R1.ext
     obtain ⟨a, xs0, hσ, hH, hGa, hBa, hz0, hI0⟩ := R1.own g [] hg0
     have hx0 : xs0 = [] := by rw [show xs0 = [] from hI0]
     subst hx0
     have hgl : g < δ.length := (List.getElem?_eq_some_iff.mp hg0).1
     have hq0 : ∀ x, ((δ.set g none).set q none)[q]? ≠ some (some x) := fun x z => by
      rw [List.getElem?_set] at z
      simp only [if_true] at z
      split at z <;> cases z
     refine ⟨fun m n σ H => n = ds.length - m ∧ m ≤ ds.length ∧ ErlI X B G1 δe re a g q i j f1 f2 f3 ds m σ H,
      ⟨ds.length, by simp, Nat.zero_le _, G1, (δ.set g none).set q none, [], [], [], ((R1.forget g).forget q).up, hno, erlO_len q2, hσ, ⟨hH, hGa, hBa, rfl, rfl, fun j b es z => by simp at z, by simp⟩, hq0, by simpa using q2⟩, ?_⟩
     have hqe : q < δe.length := by have := erlO_len q2; simp at this; omega
     rintro m n σ H ⟨rfl, hk, G, δ, ks, bs, cs, R, hn, hdl, hσ, hgr, hq, hgo⟩
     obtain ⟨j1, j2⟩ := hJ H G R.ext.gg R.ext.gh
     by_cases hlt : m < ds.length
     ·have hd : ds[m]? = some ds[m] := List.getElem?_eq_getElem hlt
      obtain ⟨go, yl⟩ := j1 m _ hd
      rw [List.drop_eq_getElem_cons hlt] at hgo
      refine .inr ⟨go, ErlI X B G1 δe re a g q i j f1 f2 f3 ds (m + 1),
       fun σ' H' hI => ⟨ds.length - (m + 1), by omega, rfl, hlt, hI⟩, fun x H2 y => ?_⟩
      obtain ⟨G2, ee2, i2⟩ := yl x H2 y
      unfold erlO at hgo
      cases qt : tgT i j ds[m] δ with
      | none => rw [qt] at hgo; cases hgo
      | some δ1 =>
       rw [qt] at hgo
       dsimp only at hgo
       unfold tgT at qt
       split at qt
       ·rename_i da db hdm
        rw [hdm] at i2
        obtain ⟨p0, xs, rfl, w1, w2, w3⟩ := i2
        obtain ⟨va, vb, rfl, ia, ib⟩ := isL2 w3
        have R2 := ((R.mono ee2).set i ia).set j ib
        have n2 := noOwn_set (noOwn_set hn i da) j db
        cases qt
        generalize hδ1 : (δ.set i (some (.v da))).set j (some (.v db)) = δ1 at *
        have hl1' : δ1.length = δe.length := by rw [← hδ1]; simpa using hdl
        have hq1 : ∀ x, δ1[q]? ≠ some (some x) := fun x z => by
         rw [← hδ1, List.getElem?_set_ne hqj.symm, List.getElem?_set_ne hqi.symm] at z
         exact hq x z
        have g2 := hgr.mono ee2
        have hσ2 : ((σ.set i (some va)).set j (some vb))[g]? = some (some (.ref a)) := by rw [List.getElem?_set_ne hgj.symm, List.getElem?_set_ne hgi.symm]; exact hσ
        generalize hσ1 : (σ.set i (some va)).set j (some vb) = σ1 at *
        refine ⟨p0, [va, vb], rfl, SqT.same ee2.gh w1, rfl, va, [vb], rfl, vb, [], rfl, rfl, ?_⟩
        show tSeq _ _ _ ((σ.set i (some va)).set j (some vb)) _
        rw [hσ1]
        cases qa : f1 δ1 with
        | exc c => rw [qa] at hgo; cases hgo
        | bad => rw [qa] at hgo; cases hgo
        | ok d1 =>
         rw [qa] at hgo
         dsimp only at hgo
         cases qb : f2 δ1 with
         | exc c => rw [qb] at hgo; cases hgo
         | bad => rw [qb] at hgo; cases hgo
         | ok d2 =>
          rw [qb] at hgo
          dsimp only at hgo
          cases qc : f3 δ1 with
          | exc c => rw [qc] at hgo; cases hgo
          | bad => rw [qc] at hgo; cases hgo
          | ok d3 =>
           rw [qc] at hgo
           dsimp only at hgo
           cases qk : keyT d1 with
           | none => rw [qk] at hgo; cases hgo
           | some k =>
            rw [qk] at hgo
            dsimp only at hgo
            cases qk2 : keyD d2 with
            | none => rw [qk2] at hgo; cases hgo
            | some k2 =>
             rw [qk2] at hgo
             dsimp only at hgo
             split at hgo
             ·rename_i hkl
              cases qe : erl1 ks cs k k2 d3 with
              | none => rw [qe] at hgo; cases hgo
              | some re1 =>
               rw [qe] at hgo
               dsimp only at hgo
               refine ⟨.ref a, hσ2, .inr (.inr (.inl ⟨rfl, .inr ⟨_, g2.ha⟩⟩)), ?_⟩
               refine ⟨G2, _, R2.bare n2, ?_⟩
               rw [qa]
               intro v1 H3 G3 ee3 i3
               have R3 := R2.mono ee3
               have g3 := g2.mono ee3
               intro p hpn
               obtain ⟨bk, rfl, hbk⟩ := is_keyT qk i3
               have ml := million
               have gb := g3.beside hpn (.dK [])
               have sB : Same B (upd H3 p (.dK [])) := fun x o z => same_upd hpn _ x o (R3.ext.hh x o z)
               have sG : Same G3 (upd H3 p (.dK [])) := fun x o z => same_upd hpn _ x o (R3.ext.gh x o z)
               have sec : ∀ (H4 : Hp) (ks' : List (List Key)) (bs' : List Addr) (cs' : List Ch) (n : Nat) (b : Addr) (c : Ch), Erl X.K B a ks' bs' cs' H4 G3 → Same B H4 → Same G3 H4 → bs'[n]? = some b → cs'[n]? = some c → c.1.length < 1000000 →
                 erlO i j f1 f2 f3 (ds.drop (m + 1)) δ1 ks' (cs'.set n (addCh c k2 d3)) = .ok (δe, re) → ∀ D2 : Ends, D2.nx = ErlI X B G1 δe re a g q i j f1 f2 f3 ds (m + 1) →
                 (tDrop (tBM X.K "dict" rSetd (tVar q) (tCons (tE X (fun _ => none) (fun _ => none) f2) (tCons (tE X (fun _ => none) (fun _ => none) f3) tNil)))) D2 (σ1.set q (some (.ref b))) H4 := by
                intro H4 ks' bs' cs' n b c g4 sb4 sg4 hbn hcn hcl hgo' D2 hD2
                have hlσ : σ1.length = δ1.length := R3.len
                have hσq : (σ1.set q (some (V.ref b)))[q]? = some (some (.ref b)) := by
                 rw [List.getElem?_set]; simp only [if_true]; rw [if_pos (by omega)]
                have hσg : (σ1.set q (some (V.ref b)))[g]? = some (some (.ref a)) := by rw [List.getElem?_set_ne hgq.symm]; exact hσ2
                have R5 := (R3.upd' n2 sb4 sg4).hid q hq1 (some (V.ref b))
                obtain ⟨xs, z1, _⟩ := g4.el n b c hbn hcn
                refine ⟨.ref b, hσq, .inr (.inr (.inl ⟨rfl, .inl ⟨_, z1⟩⟩)), G3, δ1, R5.bare n2, ?_⟩
                rw [qb]
                intro v2 H5 G5 ee5 i5
                have R6 := R5.mono ee5
                refine ⟨G5, δ1, R6.bare n2, ?_⟩
                rw [qc]
                intro v3 H6 G6 ee6 i6
                have R7 := R6.mono ee6
                have g6 := (g4.mono ee5).mono ee6
                cases is_key qk2 i5
                refine g6.sec R7.ext.hh R7.ext.gh hbn hcn hcl k2 i6 fun v H' ge sb sg => ?_
                show D2.nx _ H'
                rw [hD2]
                exact ⟨G6, δ1, ks', bs', _, R7.upd' n2 sb sg, n2, hl1', hσg, ge, hq1, hgo'⟩
               have hlm : ks.length = (bs.map V.ref).length := by rw [List.length_map]; exact g3.lk
               unfold erl1 at qe
               refine ⟨a, ks.zip (bs.map V.ref), bk, k, .ref p, rfl, rfl, gb.ha, sG _ _ hbk, by rw [List.length_zip]; omega, fun w hw' => ?_, fun hnn => ?_⟩
               ·rw [valV_idx hlm] at hw'
                cases qi : idxK ks k with
                | none => rw [qi] at hw'; cases hw'
                | some n =>
                 rw [qi] at hw' qe
                 have hw' : (bs.map V.ref)[n]? = some w := hw'
                 rw [List.getElem?_map] at hw'
                 obtain ⟨b, hb, rfl⟩ := Option.map_eq_some_iff.mp hw'
                 dsimp only at qe
                 split at qe
                 ·rename_i c hcn
                  split at qe
                  ·rename_i hcl
                   cases qe
                   exact sec _ ks bs cs n b c gb sB sG hb hcn hcl hgo _ rfl
                  ·cases qe
                 ·cases qe
               ·have qi : idxK ks k = none := by
                 have hnn := hnn
                 rw [valV_idx hlm] at hnn
                 cases qi : idxK ks k with
                 | none => rfl
                 | some n =>
                  rw [qi] at hnn
                  have hnn : (bs.map V.ref)[n]? = none := hnn
                  have := idxK_lt qi
                  rw [List.getElem?_eq_none_iff] at hnn
                  omega
                rw [qi] at qe
                cases qe
                rw [putK_new _ hnn]
                have gp := g3.push R3.ext.gh R3.ext.hh hpn k
                have sB' : Same B (upd (upd H3 p (.dK [])) a (.dT (ks.zip (bs.map V.ref) ++ [(k, .ref p)]))) := fun x o z => by rw [upd_ne (ne_of_none z g3.ba)]; exact sB x o z
                have sG' : Same G3 (upd (upd H3 p (.dK [])) a (.dT (ks.zip (bs.map V.ref) ++ [(k, .ref p)]))) := fun x o z => by rw [upd_ne (ne_of_none z g3.ga)]; exact sG x o z
                refine sec _ _ _ _ bs.length p ([], []) gp sB' sG' List.getElem?_concat_length (by rw [g3.len]; exact List.getElem?_concat_length) (by decide) ?_ _ rfl
                have e : (cs ++ [(([], []) : Ch)]).set bs.length (addCh ([], []) k2 d3) = cs ++ [([k2], [d3])] := by
                 rw [g3.len]; simp [addCh, valD]
                rw [e]
                exact hgo
             ·cases hgo
       ·cases qt
     ·have e : m = ds.length := by omega
      subst e
      refine .inl ⟨j2, ?_⟩
      rw [List.drop_length] at hgo
      cases hgo
      obtain ⟨G', R'⟩ := hgr.share R hn hσ (by have := (List.getElem?_eq_some_iff.mp hσ).1; rw [← R.len]; exact this)
      exact hw σ H G' (R'.down eb)
   ·exact hw.elim
  ·exact hw.elim
end
end M
set_option Elab.async false
set_option linter.all false
set_option maxRecDepth 100000
set_option maxHeartbeats 4000000
namespace M
open PySem PySem.Spec PyProof.Rows L2
set_option autoImplicit false
noncomputable def iLof : List D → Option (List Int)
 | [] => some []
 | .int i :: ds => (iLof ds).map (i :: ·)
 | _ => none
theorem isL_iLof {K : PySem.W.Frag} {G : Hp} : ∀ {ds : List D} {ns : List Int} {xs : List V}, iLof ds = some ns → IsL K G ds xs → xs = ns.map V.int
 | [], ns, xs, h, i => by cases h; exact i
 | d :: ds, ns, xs, h, i => by
  obtain ⟨x, r, rfl, h1, h2⟩ := i
  cases d with
  | int n =>
   obtain ⟨ms, e1, rfl⟩ := Option.map_eq_some_iff.mp (show (iLof ds).map (n :: ·) = some ns from h)
   rw [show x = .int n from h1, isL_iLof e1 h2]; rfl
  | _ => cases h
theorem iLof_map : ∀ ns : List Int, iLof (ns.map D.int) = some ns
 | [] => rfl
 | n :: ns => by show (iLof (ns.map D.int)).map (n :: ·) = _; rw [iLof_map ns]; rfl
noncomputable def inIR : D → D → Rs D
 | .int i, .lst ds => match iLof ds with
  | some ns => .ok (.bl (ns.any fun n => n == i))
  | none => .bad
 | _, _ => .bad
theorem inV_ints (i : Int) (ns : List Int) : inV (.int i) (ns.map V.int) = ns.any fun n => n == i := by
 unfold inV
 rw [List.any_map]
 rfl
theorem flat_ints : ∀ ns : List Int, (ns.map V.int).all flatV = true
 | [] => rfl
 | n :: ns => by rw [List.map_cons, List.all_cons, flat_ints ns]; rfl
theorem od_inI {X : Cx} : OpD X (compareOp .In) inIR := opD_of op_in_seq fun σ H G Q d1 d2 x y gh i1 i2 hw => by
 cases d1 with
 | int i => cases d2 with
  | lst ds =>
   cases (show x = .int i from i1)
   obtain ⟨a, xs, rfl, h1, h2, h3⟩ := i2
   have hw : W X Q σ H G (match iLof ds with | some ns => (Rs.ok (D.bl (ns.any fun n => n == i)) : Rs D) | none => .bad) := hw
   cases q : iLof ds with
   | none => rw [q] at hw; exact hw.elim
   | some ns =>
    rw [q] at hw
    cases isL_iLof q h3
    exact ⟨a, ns.map V.int, rfl, .inl (gh.seq h1), rfl, flat_ints ns, by rw [if_neg (by decide), inV_ints]; exact wOk hw gh rfl⟩
  | _ => exact hw.elim
 | _ => cases d2 <;> exact hw.elim
theorem in_ints (i : Int) (ns : List Int) : inIR (.int i) (.lst (ns.map D.int)) = .ok (.bl (ns.any fun n => n == i)) := by show (match iLof (ns.map D.int) with | some ns => (Rs.ok (D.bl (ns.any fun n => n == i)) : Rs D) | none => .bad) = _; rw [iLof_map]
end M
set_option linter.all false
set_option maxRecDepth 100000
namespace A
open PySem PySem.Spec PyProof.Rows L2 M
set_option autoImplicit false
noncomputable def F__law_cell_at : DS → Out :=
 (seqO (ifS (cmpT ltR (varD 1) (appF lenR (aC (varD 0) a0))) (retS (bin2 idxR (varD 0) (varD 1))) Out.nx)
 (seqO (ifS (cmpT eqR (varD 0) (appF lstR a0)) (retS (cD (.int 0))) Out.nx)
 (retS (bin2 addR (bin2 mulR (bin2 idxR (varD 0) (bin2 modR (varD 1) (appF lenR (aC (varD 0) a0)))) (cD (.int 31))) (varD 1)))))
noncomputable def g__law_cell_at : List D → Rs D := fnR 2 0 F__law_cell_at
noncomputable def F__law_mixed : DS → Out :=
 (seqO (setS 3 (bin2 modR (bin2 mulR (bin2 addR (bin2 addR (appF g__law_cell_at (aC (varD 0) (aC (varD 1) a0))) (bin2 mulR (cD (.int 7919)) (varD 1))) (cD (.int 1))) (cD (.int 48271))) (cD (.int 2147483647))))
 (retS (bin2 modR (bin2 modR (bin2 addR (bin2 addR (bin2 mulR (varD 3) (varD 3)) (bin2 mulR (cD (.int 7)) (varD 3))) (varD 1)) (cD (.int 2147483629))) (varD 2))))
noncomputable def g__law_mixed : List D → Rs D := fnR 3 1 F__law_mixed
noncomputable def L__law_text_1 : DS → Out :=
 (seqO (setS 7 (bin2 modR (bin2 mulR (bin2 addR (bin2 addR (varD 4) (bin2 mulR (bin2 mulR (cD (.int 7919)) (varD 6)) (varD 6))) (bin2 mulR (cD (.int 104729)) (varD 6))) (cD (.int 48271))) (cD (.int 2147483647))))
 (setS 5 (bin2 addR (varD 5) (bin2 idxR (varD 3) (bin2 modR (bin2 fdivR (bin2 modR (bin2 mulR (varD 7) (bin2 addR (varD 7) (cD (.int 3)))) (cD (.int 2147483629))) (cD (.int 7))) (appF lenR (aC (varD 3) a0)))))))
noncomputable def F__law_text : DS → Out :=
 (seqO (setS 3 (bin2 idxR (appF lstR (aC (cD (.str "a")) (aC (cD (.str "ab")) (aC (cD (.str "ab")) (aC (cD (.str "abc")) (aC (cD (.str " ~!&bzAZ09")) a0)))))) (appF g__law_mixed (aC (varD 0) (aC (varD 1) (aC (cD (.int 5)) a0))))))
 (seqO (setS 4 (appF g__law_mixed (aC (varD 0) (aC (bin2 addR (varD 1) (cD (.int 1))) (aC (bin2 powR (cD (.int 10)) (cD (.int 9))) a0)))))
 (seqO (setS 5 (cD (.str "")))
 (seqO (forS (rng1 (aC (appF g__law_mixed (aC (varD 0) (aC (bin2 addR (varD 1) (cD (.int 2))) (aC (bin2 addR (varD 2) (cD (.int 1))) a0)))) a0)) (tgN 6) L__law_text_1)
 (retS (varD 5))))))
noncomputable def g__law_text : List D → Rs D := fnR 3 5 F__law_text
noncomputable def L__law_newer_1 : DS → Out :=
 (seqO (setS 5 (bin2 addR (bin2 addR (varD 1) (cD (.int 1))) (bin2 mulR (cD (.int 4)) (varD 4))))
 (ifS (cmpT eqR (appF g__law_mixed (aC (varD 0) (aC (varD 5) (aC (cD (.int 3)) a0)))) (cD (.int 0))) (setS 3 (bin2 addR (varD 3) (appF g__law_text (aC (varD 0) (aC (bin2 addR (varD 5) (cD (.int 1))) (aC (cD (.int 4)) a0)))))) (seqO (setS 6 (appF g__law_mixed (aC (varD 0) (aC (bin2 addR (varD 5) (cD (.int 1))) (aC (bin2 addR (appF lenR (aC (varD 2) a0)) (cD (.int 1))) a0)))))
 (setS 3 (bin2 addR (varD 3) (slF (varD 2) (someP (varD 6)) (someP (bin2 addR (varD 6) (appF g__law_mixed (aC (varD 0) (aC (bin2 addR (varD 5) (cD (.int 2))) (aC (cD (.int 14)) a0))))))))))))
noncomputable def F__law_newer : DS → Out :=
 (seqO (setS 3 (cD (.str "")))
 (seqO (forS (rng1 (aC (bin2 addR (cD (.int 1)) (appF g__law_mixed (aC (varD 0) (aC (varD 1) (aC (cD (.int 4)) a0))))) a0)) (tgN 4) L__law_newer_1)
 (retS (varD 3))))
noncomputable def g__law_newer : List D → Rs D := fnR 3 4 F__law_newer
noncomputable def F__law_key : DS → Out :=
 (seqO (setS 2 (bin2 idxR (appF lstR (aC (cD (.int 1)) (aC (cD (.int 2)) (aC (cD (.int 7)) (aC (cD (.int 97)) (aC (cD (.int 997)) (aC (cD (.int 999)) a0))))))) (appF g__law_mixed (aC (varD 0) (aC (varD 1) (aC (cD (.int 6)) a0))))))
 (seqO (setS 3 (bin2 idxR (appF lstR (aC (cD (.int 1)) (aC (cD (.int 2)) (aC (cD (.int 3)) (aC (cD (.int 31)) (aC (cD (.int 256)) (aC (cD (.int 999)) a0))))))) (appF g__law_mixed (aC (varD 0) (aC (bin2 addR (varD 1) (cD (.int 1))) (aC (cD (.int 6)) a0))))))
 (retS (appF tupR (aC (varD 2) (aC (varD 3) (aC (bin2 idxR (appF lstR (aC (cD (.int 1)) (aC (cD (.int 2)) (aC (cD (.int 5)) (aC (cD (.int 101)) (aC (cD (.int 9973)) (aC (cD (.int 99999)) a0))))))) (appF g__law_mixed (aC (varD 0) (aC (bin2 addR (varD 1) (cD (.int 2))) (aC (cD (.int 6)) a0))))) a0)))))))
noncomputable def g__law_key : List D → Rs D := fnR 2 2 F__law_key
noncomputable def F_is_whole : DS → Out :=
 (retS (andV (isiF "int" (varD 0)) (notV (isiF "bool" (varD 0)))))
noncomputable def g_is_whole : List D → Rs D := fnR 1 0 F_is_whole
noncomputable def F_is_from : DS → Out :=
 (retS (andV (appF g_is_whole (aC (varD 0) a0)) (bin2 geR (varD 0) (varD 1))))
noncomputable def g_is_from : List D → Rs D := fnR 2 0 F_is_from
noncomputable def F_is_within : DS → Out :=
 (retS (andV (appF g_is_from (aC (varD 0) (aC (varD 1) a0))) (bin2 leR (varD 0) (varD 2))))
noncomputable def g_is_within : List D → Rs D := fnR 3 0 F_is_within
noncomputable def F_is_key : DS → Out :=
 (seqO (ifS (orT (notT (valT (isiF "tuple" (varD 0)))) (cmpT neR (appF lenR (aC (varD 0) a0)) (cD (.int 3)))) (retS (cD (.bl false))) Out.nx)
 (seqO (ifS (notT (valT (appF g_is_within (aC (bin2 idxR (varD 0) (cD (.int 0))) (aC (cD (.int 1)) (aC (cD (.int 999)) a0)))))) (retS (cD (.bl false))) Out.nx)
 (retS (andV (appF g_is_within (aC (bin2 idxR (varD 0) (cD (.int 1))) (aC (cD (.int 1)) (aC (cD (.int 999)) a0)))) (appF g_is_within (aC (bin2 idxR (varD 0) (cD (.int 2))) (aC (cD (.int 1)) (aC (cD (.int 99999)) a0))))))))
noncomputable def g_is_key : List D → Rs D := fnR 1 0 F_is_key
noncomputable def F_check_key : DS → Out :=
 (ifS (notT (valT (appF g_is_key (aC (varD 0) a0)))) badS Out.nx)
noncomputable def g_check_key : List D → Rs D := fnR 1 0 F_check_key
noncomputable def F_check_size : DS → Out :=
 (ifS (notT (valT (appF g_is_within (aC (varD 0) (aC (cD (.int 1)) (aC (cD (.int 200)) a0)))))) badS Out.nx)
noncomputable def g_check_size : List D → Rs D := fnR 1 0 F_check_size
noncomputable def F_is_card : DS → Out :=
 (seqO (ifS (orT (notT (valT (isiF "tuple" (varD 0)))) (cmpT neR (appF lenR (aC (varD 0) a0)) (cD (.int 2)))) (retS (cD (.bl false))) Out.nx)
 (seqO (setS 1 (bin2 idxR (varD 0) (cD (.int 0))))
 (seqO (ifS (orT (notT (valT (isiF "tuple" (varD 1)))) (cmpT neR (appF lenR (aC (varD 1) a0)) (cD (.int 2)))) (retS (cD (.bl false))) Out.nx)
 (retS (andV (appF g_is_from (aC (bin2 idxR (varD 1) (cD (.int 0))) (aC (cD (.int 0)) a0))) (andV (appF g_is_from (aC (bin2 idxR (varD 1) (cD (.int 1))) (aC (cD (.int 0)) a0))) (appF g_is_from (aC (bin2 idxR (varD 0) (cD (.int 1))) (aC (cD (.int 0)) a0)))))))))
noncomputable def g_is_card : List D → Rs D := fnR 1 1 F_is_card
noncomputable def F_check_cards : DS → Out :=
 (ifS (orT (notT (valT (isiF "list" (varD 0)))) (notT (valT (appF allR (aC (compF [] (itF (varD 0)) (appF g_is_card (aC (varD 0) a0)) tt) a0))))) badS Out.nx)
noncomputable def g_check_cards : List D → Rs D := fnR 1 0 F_check_cards
noncomputable def F_is_sign : DS → Out :=
 (seqO (setS 1 (appF ordR (aC (varD 0) a0)))
 (retS (andV (chainV leR leR (cD (.int 32)) (varD 1) (cD (.int 126))) (bin2 neR (varD 1) (cD (.int 37))))))
noncomputable def g_is_sign : List D → Rs D := fnR 1 1 F_is_sign
noncomputable def F_is_text : DS → Out :=
 (seqO (ifS (orT (notT (valT (isiF "str" (varD 0)))) (cmpT gtR (appF lenR (aC (varD 0) a0)) (cD (.int 2000)))) (retS (cD (.bl false))) Out.nx)
 (retS (appF allR (aC (compF [] (itF (varD 0)) (appF g_is_sign (aC (varD 0) a0)) tt) a0))))
noncomputable def g_is_text : List D → Rs D := fnR 1 0 F_is_text
noncomputable def F_check_text : DS → Out :=
 (ifS (notT (valT (appF g_is_text (aC (varD 0) a0)))) badS Out.nx)
noncomputable def g_check_text : List D → Rs D := fnR 1 0 F_check_text
noncomputable def F_is_copy : DS → Out :=
 (retS (bin2 eqR (bin2 idxR (varD 0) (cD (.int 0))) (cD (.str "copy"))))
noncomputable def g_is_copy : List D → Rs D := fnR 1 0 F_is_copy
noncomputable def F_is_piece : DS → Out :=
 (seqO (ifS (orT (notT (valT (isiF "tuple" (varD 0)))) (orT (cmpT eqR (appF lenR (aC (varD 0) a0)) (cD (.int 0))) (notT (valT (isiF "str" (bin2 idxR (varD 0) (cD (.int 0)))))))) (retS (cD (.bl false))) Out.nx)
 (seqO (ifS (valT (appF g_is_copy (aC (varD 0) a0))) (retS (andV (bin2 eqR (appF lenR (aC (varD 0) a0)) (cD (.int 3))) (andV (appF g_is_from (aC (bin2 idxR (varD 0) (cD (.int 1))) (aC (cD (.int 0)) a0))) (appF g_is_from (aC (bin2 idxR (varD 0) (cD (.int 2))) (aC (cD (.int 1)) a0)))))) Out.nx)
 (seqO (ifS (orT (cmpT neR (bin2 idxR (varD 0) (cD (.int 0))) (cD (.str "signs"))) (cmpT neR (appF lenR (aC (varD 0) a0)) (cD (.int 2)))) (retS (cD (.bl false))) Out.nx)
 (retS (andV (appF g_is_text (aC (bin2 idxR (varD 0) (cD (.int 1))) a0)) (bin2 gtR (appF lenR (aC (bin2 idxR (varD 0) (cD (.int 1))) a0)) (cD (.int 0))))))))
noncomputable def g_is_piece : List D → Rs D := fnR 1 0 F_is_piece
noncomputable def F_is_letter : DS → Out :=
 (seqO (ifS (orT (notT (valT (isiF "list" (varD 0)))) (cmpT gtR (appF lenR (aC (varD 0) a0)) (cD (.int 2000)))) (retS (cD (.bl false))) Out.nx)
 (retS (appF allR (aC (compF [] (itF (varD 0)) (appF g_is_piece (aC (varD 0) a0)) tt) a0))))
noncomputable def g_is_letter : List D → Rs D := fnR 1 0 F_is_letter
noncomputable def F_check_letter : DS → Out :=
 (ifS (notT (valT (appF g_is_letter (aC (varD 0) a0)))) badS Out.nx)
noncomputable def g_check_letter : List D → Rs D := fnR 1 0 F_check_letter
noncomputable def F_add_signs : DS → Out :=
 (ifS (cmpT gtR (appF lenR (aC (varD 1) a0)) (cD (.int 0))) (mutS 0 appM (aC (appF tupR (aC (cD (.str "signs")) (aC (methF joinR (cD (.str "")) (aC (varD 1) a0)) a0))) a0)) Out.nx)
noncomputable def g_add_signs : List D → List D → Rs (List D) := fnM 1 0 F_add_signs
noncomputable def F_goes_on : DS → Out :=
 (retS (andV (appF g_is_copy (aC (varD 0) a0)) (bin2 eqR (bin2 addR (bin2 idxR (varD 0) (cD (.int 1))) (bin2 idxR (varD 0) (cD (.int 2)))) (bin2 idxR (varD 1) (cD (.int 1))))))
noncomputable def g_goes_on : List D → Rs D := fnR 2 0 F_goes_on
noncomputable def F_add_copy : DS → Out :=
 (ifS (andT (lentT (cmpT gtR (appF lenR (aC (varD 0) a0)) (cD (.int 0)))) (valT (appF g_goes_on (aC (ixO 0 (negV (cD (.int 1)))) (aC (varD 1) a0))))) (setiS 0 (negV (cD (.int 1))) (appF tupR (aC (cD (.str "copy")) (aC (bin2 idxR (ixO 0 (negV (cD (.int 1)))) (cD (.int 1))) (aC (bin2 addR (bin2 idxR (ixO 0 (negV (cD (.int 1)))) (cD (.int 2))) (bin2 idxR (varD 1) (cD (.int 2)))) a0))))) (mutS 0 appM (aC (varD 1) a0)))
noncomputable def g_add_copy : List D → List D → Rs (List D) := fnM 1 0 F_add_copy
noncomputable def L_joined_1 : DS → Out :=
 (seqO (ifS (notT (valT (appF g_is_copy (aC (varD 3) a0)))) (seqO (mutS 2 appM (aC (bin2 idxR (varD 3) (cD (.int 1))) a0))
 Out.ct) Out.nx)
 (seqO (shareJ 2 (mutS 1 g_add_signs (aC (varD 2) a0)))
 (seqO (ownS 2 a0)
 (mutS 1 g_add_copy (aC (varD 3) a0)))))
noncomputable def F_joined : DS → Out :=
 (seqO (ownS 1 a0)
 (seqO (ownS 2 a0)
 (seqO (forS (itF (varD 0)) (tgN 3) L_joined_1)
 (seqO (shareJ 2 (mutS 1 g_add_signs (aC (varD 2) a0)))
 (shareS' (retS (varD 1)))))))
noncomputable def g_joined : List D → Rs D := fnR 1 3 F_joined
noncomputable def F_plain : DS → Out :=
 (seqO (exprS (appF g_check_letter (aC (varD 0) a0)))
 (retS (appF g_joined (aC (varD 0) a0))))
noncomputable def g_plain : List D → Rs D := fnR 1 0 F_plain
noncomputable def L_first_sum_1 : DS → Out :=
 (seqO (augS 3 addR (appF ordR (aC (varD 5) a0)))
 (augS 4 addR (varD 3)))
noncomputable def F_first_sum : DS → Out :=
 (seqO (exprS (appF g_check_key (aC (varD 0) a0)))
 (seqO (exprS (appF g_check_text (aC (varD 1) a0)))
 (seqO (setS 2 (bin2 idxR (varD 0) (cD (.int 0))))
 (seqO (setS 3 (cD (.int 0)))
 (seqO (setS 4 (cD (.int 0)))
 (seqO (forS (itF (varD 1)) (tgN 5) L_first_sum_1)
 (retS (appF tupR (aC (bin2 modR (varD 3) (varD 2)) (aC (bin2 modR (varD 4) (varD 2)) a0))))))))))
noncomputable def g_first_sum : List D → Rs D := fnR 2 4 F_first_sum
noncomputable def F_rolled : DS → Out :=
 (seqO (exprS (appF g_check_key (aC (varD 0) a0)))
 (seqO (setS 5 (bin2 idxR (varD 0) (cD (.int 0))))
 (seqO (setS 6 (bin2 addR (bin2 subR (bin2 idxR (varD 1) (cD (.int 0))) (appF ordR (aC (varD 3) a0))) (appF ordR (aC (varD 4) a0))))
 (seqO (setS 7 (bin2 addR (bin2 subR (bin2 idxR (varD 1) (cD (.int 1))) (bin2 mulR (varD 2) (appF ordR (aC (varD 3) a0)))) (varD 6)))
 (retS (appF tupR (aC (bin2 modR (varD 6) (varD 5)) (aC (bin2 modR (varD 7) (varD 5)) a0))))))))
noncomputable def g_rolled : List D → Rs D := fnR 5 3 F_rolled
noncomputable def L_rolled_sums_1 : DS → Out :=
 (seqO (setS 3 (appF g_rolled (aC (varD 0) (aC (varD 3) (aC (varD 1) (aC (bin2 idxR (varD 2) (varD 5)) (aC (bin2 idxR (varD 2) (bin2 addR (varD 5) (varD 1))) a0)))))))
 (mutS 4 appM (aC (varD 3) a0)))
noncomputable def F_rolled_sums : DS → Out :=
 (seqO (ifS (cmpT ltR (appF lenR (aC (varD 2) a0)) (varD 1)) (retS (appF lstR a0)) Out.nx)
 (seqO (setS 3 (appF g_first_sum (aC (varD 0) (aC (slF (varD 2) noP (someP (varD 1))) a0))))
 (seqO (ownS 4 (aC (varD 3) a0))
 (seqO (forS (rng1 (aC (bin2 subR (appF lenR (aC (varD 2) a0)) (varD 1)) a0)) (tgN 5) L_rolled_sums_1)
 (shareS' (retS (varD 4)))))))
noncomputable def g_rolled_sums : List D → Rs D := fnR 3 3 F_rolled_sums
noncomputable def F_earliest_blocks : DS → Out :=
 (seqO (newTS 1)
 (seqO (erlS 1 4 2 3 (enumF (varD 0)) (bin2 idxR (varD 3) (cD (.int 0))) (bin2 idxR (varD 3) (cD (.int 1))) (varD 2))
 (retS (varD 1))))
noncomputable def g_earliest_blocks : List D → Rs D := fnR 1 4 F_earliest_blocks
noncomputable def F_fitting_block : DS → Out :=
 (seqO (ifS (andT (cmpT isNotR (varD 2) (cD .non)) (andT (cmpT ltR (varD 2) (appF lenR (aC (varD 0) a0))) (cmpT eqR (bin2 idxR (varD 0) (varD 2)) (varD 3)))) (retS (varD 2)) Out.nx)
 (retS (getF (bin2 dixTR (varD 1) (bin2 idxR (varD 3) (cD (.int 0)))) (bin2 idxR (varD 3) (cD (.int 1))))))
noncomputable def g_fitting_block : List D → Rs D := fnR 4 0 F_fitting_block
noncomputable def L_chained_1 : DS → Out :=
 (setS 3 (bin2 modR (bin2 addR (bin2 mulR (varD 0) (varD 3)) (appF ordR (aC (varD 4) a0))) (varD 1)))
noncomputable def F_chained : DS → Out :=
 (seqO (setS 3 (cD (.int 0)))
 (seqO (forS (itF (varD 2)) (tgN 4) L_chained_1)
 (retS (varD 3))))
noncomputable def g_chained : List D → Rs D := fnR 3 2 F_chained
noncomputable def F_second_sum : DS → Out :=
 (seqO (exprS (appF g_check_key (aC (varD 0) a0)))
 (seqO (exprS (appF g_check_text (aC (varD 1) a0)))
 (retS (appF g_chained (aC (bin2 idxR (varD 0) (cD (.int 1))) (aC (bin2 idxR (varD 0) (cD (.int 2))) (aC (varD 1) a0)))))))
noncomputable def g_second_sum : List D → Rs D := fnR 2 0 F_second_sum
noncomputable def C_found_by_1 : DS → Rs Bool :=
 (cmpT ltR (varD 7) (appF lenR (aC (varD 3) a0)))
noncomputable def L_found_by_1 : DS → Out :=
 (seqO (setS 9 (cD .non))
 (seqO (ifS (andT (cmpT ltR (varD 7) (appF lenR (aC (varD 4) a0))) (cmpT inTR (bin2 idxR (varD 4) (varD 7)) (varD 5))) (seqO (setS 10 (appF tupR (aC (bin2 idxR (varD 4) (varD 7)) (aC (appF g_second_sum (aC (varD 0) (aC (slF (varD 3) (someP (varD 7)) (someP (bin2 addR (varD 7) (varD 1)))) a0))) a0))))
 (setS 9 (appF g_fitting_block (aC (varD 2) (aC (varD 5) (aC (varD 8) (aC (varD 10) a0))))))) Out.nx)
 (ifS (cmpT isNR (varD 9) (cD .non)) (seqO (mutS 6 appM (aC (appF tupR (aC (cD (.str "signs")) (aC (bin2 idxR (varD 3) (varD 7)) a0))) a0))
 (seqO (setS 8 (cD .non))
 (augS 7 addR (cD (.int 1))))) (seqO (mutS 6 appM (aC (appF tupR (aC (cD (.str "copy")) (aC (bin2 mulR (varD 9) (varD 1)) (aC (varD 1) a0)))) a0))
 (seqO (setS 8 (bin2 addR (varD 9) (cD (.int 1))))
 (augS 7 addR (varD 1)))))))
noncomputable def F_found_by : DS → Out :=
 (seqO (exprS (appF g_check_key (aC (varD 0) a0)))
 (seqO (exprS (appF g_check_size (aC (varD 1) a0)))
 (seqO (exprS (appF g_check_cards (aC (varD 2) a0)))
 (seqO (exprS (appF g_check_text (aC (varD 3) a0)))
 (seqO (setS 4 (appF g_rolled_sums (aC (varD 0) (aC (varD 1) (aC (varD 3) a0)))))
 (seqO (setS 5 (appF g_earliest_blocks (aC (varD 2) a0)))
 (seqO (ownS 6 a0)
 (seqO (setS 7 (cD (.int 0)))
 (seqO (setS 8 (cD .non))
 (seqO (whileS 5000 C_found_by_1 L_found_by_1)
 (shareS' (retS (appF g_plain (aC (varD 6) a0))))))))))))))
noncomputable def g_found_by : List D → Rs D := fnR 4 7 F_found_by
noncomputable def F_card_of : DS → Out :=
 (retS (appF tupR (aC (appF g_first_sum (aC (varD 0) (aC (varD 1) a0))) (aC (appF g_second_sum (aC (varD 0) (aC (varD 1) a0))) a0))))
noncomputable def g_card_of : List D → Rs D := fnR 2 0 F_card_of
noncomputable def F_cards : DS → Out :=
 (seqO (exprS (appF g_check_key (aC (varD 0) a0)))
 (seqO (exprS (appF g_check_size (aC (varD 1) a0)))
 (seqO (exprS (appF g_check_text (aC (varD 2) a0)))
 (retS (compF [("key", 0), ("elder", 2), ("size", 1)] (rng3 (aC (cD (.int 0)) (aC (bin2 addR (bin2 subR (appF lenR (aC (varD 2) a0)) (varD 1)) (cD (.int 1))) (aC (varD 1) a0)))) (appF g_card_of (aC (varD 1) (aC (slF (varD 2) (someP (varD 0)) (someP (bin2 addR (varD 0) (varD 3)))) a0))) tt)))))
noncomputable def g_cards : List D → Rs D := fnR 3 0 F_cards
noncomputable def F_made_by_piece : DS → Out :=
 (seqO (ifS (notT (valT (appF g_is_copy (aC (varD 1) a0)))) (retS (bin2 idxR (varD 1) (cD (.int 1)))) Out.nx)
 (seqO (setS 2 (bin2 addR (bin2 idxR (varD 1) (cD (.int 1))) (bin2 idxR (varD 1) (cD (.int 2)))))
 (seqO (ifS (cmpT gtR (varD 2) (appF lenR (aC (varD 0) a0))) badS Out.nx)
 (retS (slF (varD 0) (someP (bin2 idxR (varD 1) (cD (.int 1)))) (someP (varD 2)))))))
noncomputable def g_made_by_piece : List D → Rs D := fnR 2 1 F_made_by_piece
noncomputable def F_mended : DS → Out :=
 (seqO (exprS (appF g_check_text (aC (varD 0) a0)))
 (seqO (exprS (appF g_check_letter (aC (varD 1) a0)))
 (retS (methF joinR (cD (.str "")) (aC (compF [("elder", 0)] (itF (varD 1)) (appF g_made_by_piece (aC (varD 1) (aC (varD 0) a0))) tt) a0)))))
noncomputable def g_mended : List D → Rs D := fnR 2 0 F_mended
noncomputable def F_whole_sum : DS → Out :=
 (seqO (exprS (appF g_check_key (aC (varD 0) a0)))
 (seqO (exprS (appF g_check_text (aC (varD 1) a0)))
 (retS (appF tupR (aC (appF lenR (aC (varD 1) a0)) (aC (appF g_chained (aC (bin2 addR (bin2 idxR (varD 0) (cD (.int 1))) (cD (.int 1))) (aC (bin2 idxR (varD 0) (cD (.int 2))) (aC (varD 1) a0)))) a0))))))
noncomputable def g_whole_sum : List D → Rs D := fnR 2 0 F_whole_sum
noncomputable def F_all_signs : DS → Out :=
 (retS (ifV (cmpT gtR (appF lenR (aC (varD 0) a0)) (cD (.int 0))) (appF lstR (aC (appF tupR (aC (cD (.str "signs")) (aC (varD 0) a0))) a0)) (appF lstR a0)))
noncomputable def g_all_signs : List D → Rs D := fnR 1 0 F_all_signs
noncomputable def F_talk : DS → Out :=
 (seqO (setS 4 (appF g_found_by (aC (varD 0) (aC (varD 1) (aC (appF g_cards (aC (varD 0) (aC (varD 1) (aC (varD 2) a0)))) (aC (varD 3) a0))))))
 (seqO (setS 5 (appF g_mended (aC (varD 2) (aC (varD 4) a0))))
 (seqO (ifS (cmpT eqR (appF g_whole_sum (aC (varD 0) (aC (varD 5) a0))) (appF g_whole_sum (aC (varD 0) (aC (varD 3) a0)))) (retS (appF tupR (aC (cD (.str "mended")) (aC (varD 5) (aC (varD 4) a0))))) Out.nx)
 (retS (appF tupR (aC (cD (.str "told")) (aC (varD 3) (aC (appF g_all_signs (aC (varD 3) a0)) a0))))))))
noncomputable def g_talk : List D → Rs D := fnR 4 2 F_talk
noncomputable def F__law_fitting : DS → Out :=
 (retS (compF [("_law_stretch", 1), ("_law_known_here", 0)] (rng1 (aC (appF lenR (aC (varD 0) a0)) a0)) (varD 0) (cmpT eqR (bin2 idxR (varD 2) (varD 0)) (varD 1))))
noncomputable def g__law_fitting : List D → Rs D := fnR 2 0 F__law_fitting
noncomputable def F__law_first : DS → Out :=
 (seqO (setS 2 (appF sumAR (aC (compF [] (itF (varD 1)) (appF ordR (aC (varD 0) a0)) tt) a0)))
 (seqO (setS 3 (appF sumAR (aC (compF [("_law_text_here", 1)] (rng1 (aC (appF lenR (aC (varD 1) a0)) a0)) (bin2 mulR (bin2 subR (appF lenR (aC (varD 1) a0)) (varD 0)) (appF ordR (aC (bin2 idxR (varD 1) (varD 0)) a0))) tt) a0)))
 (retS (appF tupR (aC (bin2 modR (varD 2) (bin2 idxR (varD 0) (cD (.int 0)))) (aC (bin2 modR (varD 3) (bin2 idxR (varD 0) (cD (.int 0)))) a0))))))
noncomputable def g__law_first : List D → Rs D := fnR 2 2 F__law_first
noncomputable def L__law_second_1 : DS → Out :=
 (setS 3 (bin2 addR (bin2 mulR (varD 3) (varD 1)) (appF ordR (aC (varD 4) a0))))
noncomputable def F__law_second : DS → Out :=
 (seqO (setS 3 (cD (.int 0)))
 (seqO (forS (itF (varD 0)) (tgN 4) L__law_second_1)
 (retS (bin2 modR (varD 3) (varD 2)))))
noncomputable def g__law_second : List D → Rs D := fnR 3 2 F__law_second
noncomputable def F__law_card : DS → Out :=
 (retS (appF tupR (aC (appF g__law_first (aC (varD 0) (aC (varD 1) a0))) (aC (appF g__law_second (aC (varD 1) (aC (bin2 idxR (varD 0) (cD (.int 1))) (aC (bin2 idxR (varD 0) (cD (.int 2))) a0)))) a0))))
noncomputable def g__law_card : List D → Rs D := fnR 2 0 F__law_card
noncomputable def F__law_goes_on : DS → Out :=
 (seqO (ifS (orT (valT (isiF "str" (varD 0))) (valT (isiF "str" (varD 1)))) (retS (andV (isiF "str" (varD 0)) (isiF "str" (varD 1)))) Out.nx)
 (retS (bin2 eqR (varD 1) (bin2 addR (varD 0) (cD (.int 1))))))
noncomputable def g__law_goes_on : List D → Rs D := fnR 2 0 F__law_goes_on
noncomputable def L__law_of_marks_1 : DS → Out :=
 (ifS (valT (isiF "str" (bin2 idxR (varD 4) (cD (.int 0))))) (mutS 3 appM (aC (appF tupR (aC (cD (.str "signs")) (aC (methF joinR (cD (.str "")) (aC (varD 4) a0)) a0))) a0)) (mutS 3 appM (aC (appF tupR (aC (cD (.str "copy")) (aC (bin2 idxR (varD 4) (cD (.int 0))) (aC (appF lenR (aC (varD 4) a0)) a0)))) a0)))
noncomputable def F__law_of_marks : DS → Out :=
 (seqO (ownS 1 a0)
 (seqO (grpS 2 1 (rng1 (aC (appF lenR (aC (varD 0) a0)) a0)) (andT (cmpT gtR (varD 2) (cD (.int 0))) (valT (appF g__law_goes_on (aC (bin2 idxR (varD 0) (bin2 subR (varD 2) (cD (.int 1)))) (aC (bin2 idxR (varD 0) (varD 2)) a0))))) (bin2 idxR (varD 0) (varD 2)))
 (seqO (ownS 3 a0)
 (seqO (forS (itF (varD 1)) (tgN 4) L__law_of_marks_1)
 (shareS' (retS (varD 3)))))))
noncomputable def g__law_of_marks : List D → Rs D := fnR 1 4 F__law_of_marks
noncomputable def L__law_marks_1 : DS → Out :=
 (ifS (cmpT eqR (bin2 idxR (varD 2) (cD (.int 0))) (cD (.str "signs"))) (mutS 1 extM (aC (appF listAR (aC (bin2 idxR (varD 2) (cD (.int 1))) a0)) a0)) (mutS 1 extM (aC (appF lrngR (aC (bin2 idxR (varD 2) (cD (.int 1))) (aC (bin2 addR (bin2 idxR (varD 2) (cD (.int 1))) (bin2 idxR (varD 2) (cD (.int 2)))) a0))) a0)))
noncomputable def F__law_marks : DS → Out :=
 (seqO (ownS 1 a0)
 (seqO (forS (itF (varD 0)) (tgN 2) L__law_marks_1)
 (shareS' (retS (varD 1)))))
noncomputable def g__law_marks : List D → Rs D := fnR 1 2 F__law_marks
noncomputable def C__law_found_1 : DS → Rs Bool :=
 (cmpT leR (bin2 addR (varD 5) (varD 1)) (appF lenR (aC (varD 3) a0)))
noncomputable def L__law_found_1 : DS → Out :=
 (seqO (setS 7 (appF g__law_fitting (aC (varD 2) (aC (appF g__law_card (aC (varD 0) (aC (slF (varD 3) (someP (varD 5)) (someP (bin2 addR (varD 5) (varD 1)))) a0))) a0))))
 (ifS (cmpT eqR (varD 7) (appF lstR a0)) (seqO (mutS 4 appM (aC (appF tupR (aC (cD (.str "signs")) (aC (bin2 idxR (varD 3) (varD 5)) a0))) a0))
 (seqO (setS 5 (bin2 addR (varD 5) (cD (.int 1))))
 (setS 6 (negV (cD (.int 5)))))) (seqO (setS 6 (bin2 idxR (appF lstR (aC (bin2 idxR (varD 7) (cD (.int 0))) (aC (bin2 addR (varD 6) (cD (.int 1))) a0))) (appF intR (aC (bin2 inIR (bin2 addR (varD 6) (cD (.int 1))) (varD 7)) a0))))
 (seqO (mutS 4 appM (aC (appF tupR (aC (cD (.str "copy")) (aC (bin2 mulR (varD 6) (varD 1)) (aC (varD 1) a0)))) a0))
 (setS 5 (bin2 addR (varD 5) (varD 1)))))))
noncomputable def F__law_found : DS → Out :=
 (seqO (ownS 4 a0)
 (seqO (setS 5 (cD (.int 0)))
 (seqO (setS 6 (negV (cD (.int 5))))
 (seqO (whileS 5000 C__law_found_1 L__law_found_1)
 (seqO (ifS (cmpT ltR (varD 5) (appF lenR (aC (varD 3) a0))) (mutS 4 appM (aC (appF tupR (aC (cD (.str "signs")) (aC (slF (varD 3) (someP (varD 5)) noP) a0))) a0)) Out.nx)
 (shareS' (retS (appF g__law_of_marks (aC (appF g__law_marks (aC (varD 4) a0)) a0)))))))))
noncomputable def g__law_found : List D → Rs D := fnR 4 4 F__law_found
noncomputable def F__law_known : DS → Out :=
 (retS (compF [("_law_key_here", 0), ("_law_elder", 2), ("_law_size", 1)] (rng1 (aC (bin2 fdivR (appF lenR (aC (varD 2) a0)) (varD 1)) a0)) (appF g__law_card (aC (varD 1) (aC (slF (varD 2) (someP (bin2 mulR (varD 3) (varD 0))) (someP (bin2 addR (bin2 mulR (varD 3) (varD 0)) (varD 3)))) a0))) tt))
noncomputable def g__law_known : List D → Rs D := fnR 3 0 F__law_known
noncomputable def L__law_made_1 : DS → Out :=
 (ifS (cmpT eqR (bin2 idxR (varD 3) (cD (.int 0))) (cD (.str "signs"))) (setS 2 (bin2 addR (varD 2) (bin2 idxR (varD 3) (cD (.int 1))))) (ifS (cmpT gtR (bin2 addR (bin2 idxR (varD 3) (cD (.int 1))) (bin2 idxR (varD 3) (cD (.int 2)))) (appF lenR (aC (varD 0) a0))) (retS (cD .non)) (setS 2 (bin2 addR (varD 2) (slF (varD 0) (someP (bin2 idxR (varD 3) (cD (.int 1)))) (someP (bin2 addR (bin2 idxR (varD 3) (cD (.int 1))) (bin2 idxR (varD 3) (cD (.int 2))))))))))
noncomputable def F__law_made : DS → Out :=
 (seqO (setS 2 (cD (.str "")))
 (seqO (forS (itF (varD 1)) (tgN 3) L__law_made_1)
 (retS (varD 2))))
noncomputable def g__law_made : List D → Rs D := fnR 2 2 F__law_made
noncomputable def F__law_whole_sum : DS → Out :=
 (retS (appF tupR (aC (appF lenR (aC (varD 1) a0)) (aC (appF g__law_second (aC (varD 1) (aC (bin2 addR (bin2 idxR (varD 0) (cD (.int 1))) (cD (.int 1))) (aC (bin2 idxR (varD 0) (cD (.int 2))) a0)))) a0))))
noncomputable def g__law_whole_sum : List D → Rs D := fnR 2 0 F__law_whole_sum
noncomputable def L__law_has_chance_1 : DS → Out :=
 (seqO (setS 6 (slF (varD 4) (someP (varD 5)) (someP (bin2 addR (varD 5) (varD 1)))))
 (seqO (setS 7 (slF (varD 3) (someP (varD 5)) (someP (bin2 addR (varD 5) (varD 1)))))
 (ifS (andT (cmpT neR (varD 6) (varD 7)) (andT (cmpT eqR (appF g__law_card (aC (varD 0) (aC (varD 6) a0))) (appF g__law_card (aC (varD 0) (aC (varD 7) a0)))) (cmpT inAR (varD 6) (varD 2)))) (retS (cD (.bl true))) Out.nx)))
noncomputable def F__law_has_chance : DS → Out :=
 (seqO (forS (rng1 (aC (bin2 addR (bin2 subR (appF lenR (aC (varD 3) a0)) (varD 1)) (cD (.int 1))) a0)) (tgN 5) L__law_has_chance_1)
 (retS (cD (.bl false))))
noncomputable def g__law_has_chance : List D → Rs D := fnR 5 3 F__law_has_chance
noncomputable def F_law : DS → Out :=
 (seqO (setS 1 (appF g__law_text (aC (varD 0) (aC (cD (.int 4)) (aC (cD (.int 40)) a0)))))
 (seqO (setS 2 (appF g__law_newer (aC (varD 0) (aC (cD (.int 8)) (aC (varD 1) a0)))))
 (seqO (ifS (cmpT eqR (appF g__law_mixed (aC (varD 0) (aC (cD (.int 26)) (aC (cD (.int 6)) a0)))) (cD (.int 1))) (setS 2 (appF g__law_text (aC (varD 0) (aC (cD (.int 27)) (aC (cD (.int 40)) a0))))) Out.nx)
 (seqO (setS 3 (appF g__law_key (aC (varD 0) (aC (cD (.int 0)) a0))))
 (seqO (setS 4 (bin2 addR (cD (.int 1)) (appF g__law_mixed (aC (varD 0) (aC (cD (.int 3)) (aC (cD (.int 6)) a0))))))
 (seqO (setS 5 (appF g_talk (aC (varD 3) (aC (varD 4) (aC (varD 1) (aC (varD 2) a0))))))
 (seqO (setS 6 (appF g__law_found (aC (varD 3) (aC (varD 4) (aC (appF g__law_known (aC (varD 3) (aC (varD 4) (aC (varD 1) a0)))) (aC (varD 2) a0))))))
 (seqO (setS 7 (appF g__law_made (aC (varD 1) (aC (varD 6) a0))))
 (seqO (ifS (cmpT neR (appF g__law_whole_sum (aC (varD 3) (aC (varD 7) a0))) (appF g__law_whole_sum (aC (varD 3) (aC (varD 2) a0)))) (retS (bin2 eqR (varD 5) (appF tupR (aC (cD (.str "told")) (aC (varD 2) (aC (appF lstR (aC (appF tupR (aC (cD (.str "signs")) (aC (varD 2) a0))) a0)) a0)))))) Out.nx)
 (seqO (ifS (cmpT neR (varD 5) (appF tupR (aC (cD (.str "mended")) (aC (varD 7) (aC (varD 6) a0))))) (retS (cD (.bl false))) Out.nx)
 (retS (orV (bin2 eqR (varD 7) (varD 2)) (appF g__law_has_chance (aC (varD 3) (aC (varD 4) (aC (varD 1) (aC (varD 2) (aC (varD 7) a0))))))))))))))))))
noncomputable def g_law : List D → Rs D := fnR 1 7 F_law
end A
namespace A
open PySem PySem.Spec PyProof.Rows L2 M
set_option autoImplicit false
noncomputable def scr (ns : List Int) : D := .lst (ns.map D.int)
theorem eqBs_ints : ∀ ns : List Int, eqBs (ns.map D.int) [] = ns.isEmpty
 | [] => rfl
 | _ :: _ => rfl
theorem cell_ok (ns : List Int) (k : Nat) : ∃ z, g__law_cell_at [scr ns, .int k] = .ok (.int z) := by
 unfold g__law_cell_at
 simp only [s_fn2]
 unfold F__law_cell_at scr
 obtain ⟨L, hL⟩ : ∃ L, L = ns.map D.int := ⟨_, rfl⟩
 have hl : L.length = ns.length := by rw [hL, List.length_map]
 have hq : eqR (.lst L) (.lst []) = .ok (.bl ns.isEmpty) := by rw [eq_r (by decide) (by rw [hL, lay_lst]; exact layL_map (fun _ => lay_int _) ns) (by simp), hL, eqB_lst, eqBs_ints]
 have hi : ∀ i (h : i < ns.length), idxR (.lst L) (.int i) = .ok (.int ns[i]) := fun i h => ix_lst (by rw [hL]; simp [h])
 rw [← hL]
 by_cases h : k < ns.length
 ·refine ⟨ns[k], ?_⟩
  simp [hl, h, hi k h]
 ·have h' : ¬ ((k : Int) < (ns.length : Int)) := by omega
  by_cases h0 : ns.length = 0
  ·have e : ns.isEmpty = true := by cases ns with | nil => rfl | cons => simp at h0
   exact ⟨0, by simp [hl, h, hq, e]⟩
  ·have e : ns.isEmpty = false := by cases ns with | nil => simp at h0 | cons => rfl
   have hp : (0 : Int) < (ns.length : Int) := by omega
   have hm : k % ns.length < ns.length := Nat.mod_lt _ (by omega)
   have e1 := hi _ hm
   rw [Int.natCast_emod] at e1
   have e2 := mul_r (i := ns[k % ns.length]) (j := 31) (by decide)
   exact ⟨ns[k % ns.length] * 31 + k, by simp [hl, h, hq, e, s_mod hp, e1, e2]⟩
theorem mixed_ok (ns : List Int) (k : Nat) {m : Int} (hm : 0 < m) : ∃ z, g__law_mixed [scr ns, .int k, .int m] = .ok (.int z) ∧ 0 ≤ z ∧ z < m := by
 obtain ⟨c, hc⟩ := cell_ok ns k
 unfold g__law_mixed
 simp only [s_fn3]
 unfold F__law_mixed
 obtain ⟨d, hd⟩ : ∃ d, d = (c + 7919 * (k : Int) + 1) * 48271 % 2147483647 := ⟨_, rfl⟩
 have hd1 : 0 ≤ d := by rw [hd]; exact Int.emod_nonneg _ (by decide)
 have hd2 : d < 2147483647 := by rw [hd]; exact Int.emod_lt_of_pos _ (by decide)
 refine ⟨(d * d + 7 * d + k) % 2147483629 % m, ?_, Int.emod_nonneg _ (by omega), Int.emod_lt_of_pos _ hm⟩
 have e1 := mul_l (i := 7919) (j := (k : Int)) (by decide)
 have e2 := mul_r (i := c + 7919 * (k : Int) + 1) (j := 48271) (by decide)
 have e3 := mul_l (i := d) (j := d) (by omega)
 have e4 := mul_l (i := 7) (j := d) (by decide)
 have e5 := s_mod (i := (c + 7919 * (k : Int) + 1) * 48271) (j := 2147483647) (by decide)
 rw [← hd] at e5
 have e6 := s_mod (i := d * d + 7 * d + k) (j := 2147483629) (by decide)
 simp [hc, e1, e2, e3, e4, e5, e6, s_mod hm]
noncomputable abbrev okc (c : Nat) : Prop := 32 ≤ c ∧ c ≤ 126 ∧ c ≠ 37
noncomputable def Good (n : Nat) (t : Str) : Prop := t.length ≤ n ∧ ∀ c ∈ t.cps.toList, okc c
theorem mixN (ns : List Int) (k : Int) (hk : 0 ≤ k) {m : Int} (hm : 0 < m) : ∃ z, g__law_mixed [scr ns, .int k, .int m] = .ok (.int z) ∧ 0 ≤ z ∧ z < m := by
 obtain ⟨j, rfl⟩ := Int.eq_ofNat_of_zero_le hk
 exact mixed_ok ns j hm
theorem len_app (a b : Str) : (a ++ b).length = a.length + b.length := by simp [Str.length, show (a ++ b).cps = a.cps ++ b.cps from rfl]
theorem text_ok (ns : List Int) (at' : Nat) (most : Nat) (hm : most ≤ 1000) : ∃ t, g__law_text [scr ns, .int at', .int most] = .ok (.str t) ∧ Good most t := by
 obtain ⟨z1, q1, h1, h1'⟩ := mixed_ok ns at' (m := 5) (by decide)
 obtain ⟨z2, q2, h2, h2'⟩ := mixN ns ((at' : Int) + 1) (by omega) (m := 1000000000) (by decide)
 obtain ⟨z3, q3, h3, h3'⟩ := mixN ns ((at' : Int) + 2) (by omega) (m := (most : Int) + 1) (by omega)
 have hpow : powR (.int 10) (.int 9) = .ok (.int 1000000000) := by simp [s_pow]
 obtain ⟨sg, hs, hg⟩ : ∃ sg : Str, idxR (.lst [.str "a", .str "ab", .str "ab", .str "abc", .str " ~!&bzAZ09"]) (.int z1) = .ok (.str sg) ∧ (0 < sg.length ∧ sg.length ≤ 20 ∧ ∀ c ∈ sg.cps.toList, okc c) := by
  have : z1 = 0 ∨ z1 = 1 ∨ z1 = 2 ∨ z1 = 3 ∨ z1 = 4 := by omega
  rcases this with rfl | rfl | rfl | rfl | rfl
  ·exact ⟨"a", ix_lst (i := 0) rfl, by decide +kernel⟩
  ·exact ⟨"ab", ix_lst (i := 1) rfl, by decide +kernel⟩
  ·exact ⟨"ab", ix_lst (i := 2) rfl, by decide +kernel⟩
  ·exact ⟨"abc", ix_lst (i := 3) rfl, by decide +kernel⟩
  ·exact ⟨" ~!&bzAZ09", ix_lst (i := 4) rfl, by decide +kernel⟩
 obtain ⟨hg0, hg1, hg2⟩ := hg
 unfold g__law_text
 simp only [s_fn3]
 unfold F__law_text
 have hl : lstR [.str "a", .str "ab", .str "ab", .str "abc", .str " ~!&bzAZ09"] = .ok (.lst [.str "a", .str "ab", .str "ab", .str "abc", .str " ~!&bzAZ09"]) := rfl
 have hr := rng1_ok (j := z3) (by omega)
 have loop : ∃ δ', forO (tgN 6) L__law_text_1 (rngD 0 z3.toNat) [some (.v (scr ns)), some (.v (.int at')), some (.v (.int most)), some (.v (.str sg)), some (.v (.int z2)), some (.v (.str "")), none, none] = .nx δ' ∧
   ∃ x6 x7 t, δ' = [some (.v (scr ns)), some (.v (.int at')), some (.v (.int most)), some (.v (.str sg)), some (.v (.int z2)), some (.v (.str t)), x6, x7] ∧ Good (rngD 0 z3.toNat).length t := by
  refine for_do (fun pre δ => ∃ x6 x7 t, δ = [some (.v (scr ns)), some (.v (.int at')), some (.v (.int most)), some (.v (.str sg)), some (.v (.int z2)), some (.v (.str t)), x6, x7] ∧ Good pre.length t)
   ⟨none, none, "", rfl, Nat.zero_le _, fun c hc => absurd (show c ∈ ([] : List Nat) from hc) (by simp)⟩ ?_
  rintro d p q δ e ⟨x6, x7, t, rfl, ht⟩
  have hd : d ∈ rngD 0 z3.toNat := by rw [e]; simp
  obtain ⟨k, hk, rfl⟩ : ∃ k : Nat, k < z3.toNat ∧ d = .int k := by
   simp [rngD] at hd
   obtain ⟨k, hk, rfl⟩ := hd
   exact ⟨k, by omega, rfl⟩
  have hlen : p.length < z3.toNat := by
   have := congrArg List.length e
   simp [rngD] at this
   omega
  have hk' : k ≤ 1000 := by omega
  obtain ⟨dr, hdr⟩ : ∃ dr, dr = (z2 + 7919 * (k : Int) * (k : Int) + 104729 * (k : Int)) * 48271 % 2147483647 := ⟨_, rfl⟩
  have hd1 : 0 ≤ dr := by rw [hdr]; exact Int.emod_nonneg _ (by decide)
  have hd2 : dr < 2147483647 := by rw [hdr]; exact Int.emod_lt_of_pos _ (by decide)
  have e1 := mul_l (i := 7919) (j := (k : Int)) (by decide)
  have e2 := mul_r (i := 7919 * (k : Int)) (j := (k : Int)) (by omega)
  have e3 := mul_l (i := 104729) (j := (k : Int)) (by decide)
  have e4 := mul_r (i := z2 + 7919 * (k : Int) * (k : Int) + 104729 * (k : Int)) (j := 48271) (by decide)
  have e5 := s_mod (i := (z2 + 7919 * (k : Int) * (k : Int) + 104729 * (k : Int)) * 48271) (j := 2147483647) (by decide)
  rw [← hdr] at e5
  have e6 := mul_l (i := dr) (j := dr + 3) (by omega)
  have e7 := s_mod (i := dr * (dr + 3)) (j := 2147483629) (by decide)
  have e8 := s_fdiv (i := dr * (dr + 3) % 2147483629) (j := 7) (by decide)
  have e9 := s_mod (i := dr * (dr + 3) % 2147483629 / 7) (j := (sg.length : Int)) (by omega)
  obtain ⟨ix, hix⟩ := Int.eq_ofNat_of_zero_le (show 0 ≤ dr * (dr + 3) % 2147483629 / 7 % (sg.length : Int) from Int.emod_nonneg _ (by omega))
  have hix2 : ix < sg.cps.toList.length := by
   have := Int.emod_lt_of_pos (dr * (dr + 3) % 2147483629 / 7) (show (0 : Int) < (sg.length : Int) by omega)
   have hh : sg.cps.toList.length = sg.length := by simp [Str.length]
   omega
  obtain ⟨c, hc⟩ : ∃ c, sg.cps.toList[ix]? = some c := ⟨_, List.getElem?_eq_getElem hix2⟩
  have e10 := ix_str (z := sg) (i := ix) hc
  rw [hix] at e9
  have hs1 : (1000000 : Nat) ≤ sizeLine := by decide
  have ht1 := ht.1
  have hc1 : (chr1 c).length = 1 := rfl
  have e11 := s_adds (i := t) (j := chr1 c) (by rw [hc1]; omega)
  refine ⟨_, _, rfl, .inl (show _ = Out.nx [some (.v (scr ns)), some (.v (.int at')), some (.v (.int most)), some (.v (.str sg)), some (.v (.int z2)), some (.v (.str (t ++ chr1 c))), some (.v (.int k)), some (.v (.int dr))] from ?_), _, _, t ++ chr1 c, rfl, ?_, fun c' hc' => ?_⟩
  ·simp [L__law_text_1, e1, e2, e3, e4, e5, e6, e7, e8, e9, e10, e11]
  ·rw [len_app, List.length_append, hc1]; simp; omega
  ·have : c' ∈ t.cps.toList ++ [c] := by
    have e : (t ++ chr1 c).cps.toList = t.cps.toList ++ [c] := by
     show (t.cps ++ #[c]).toList = _
     simp
    rw [e] at hc'; exact hc'
   rcases List.mem_append.mp this with h | h
   ·exact ht.2 c' h
   ·rw [List.mem_singleton.mp h]; exact hg2 _ (List.mem_of_getElem? hc)
 obtain ⟨δ', eL, x6, x7, t, rfl, ht⟩ := loop
 refine ⟨t, by simp [hl, q1, q2, q3, hs, hpow, hr, eL], ?_, ht.2⟩
 have := ht.1
 simp [rngD] at this
 omega
structure KeyOk (few times many : Int) : Prop where
 f1 : 1 ≤ few
 f2 : few ≤ 999
 t1 : 1 ≤ times
 t2 : times ≤ 999
 m1 : 1 ≤ many
 m2 : many ≤ 99999
noncomputable def keyD (few times many : Int) : D := .tup [.int few, .int times, .int many]
theorem is_within_ok {i lo hi : Int} (h1 : lo ≤ i) (h2 : i ≤ hi) : g_is_within [.int i, .int lo, .int hi] = .ok (.bl true) := by
 simp [g_is_within, F_is_within, g_is_from, F_is_from, g_is_whole, F_is_whole, h1, h2]
theorem check_key_ok {few times many : Int} (h : KeyOk few times many) : g_check_key [keyD few times many] = .ok .non := by
 have e1 := is_within_ok h.f1 h.f2
 have e2 := is_within_ok h.t1 h.t2
 have e3 := is_within_ok h.m1 h.m2
 simp [g_check_key, F_check_key, g_is_key, F_is_key, keyD, e1, e2, e3]
theorem is_sign_ok {c : Nat} (h : okc c) : g_is_sign [.str (chr1 c)] = .ok (.bl true) := by
 obtain ⟨h1, h2, h3⟩ := h
 have e1 : (32 : Int) ≤ c := by omega
 have e2 : (c : Int) ≤ 126 := by omega
 have e3 : ¬ (c : Int) = 37 := by omega
 simp [g_is_sign, F_is_sign, e1, e2, e3]
theorem signs_len (t : Str) : (signsD t).length = t.length := by simp [signsD, Str.length]
theorem is_text_ok {t : Str} (h : Good 2000 t) : g_is_text [.str t] = .ok (.bl true) := by
 have h1 : ¬ ((2000 : Int) < (t.length : Int)) := by have := h.1; omega
 have e1 : compL (fun d => g_is_sign [d]) (fun _ => .ok true) (signsD t) = .ok (t.cps.toList.map fun _ => D.bl true) := comp_list _ (fun _ => D.bl true) fun c hc => is_sign_ok (h.2 c hc)
 have e2 : bigR (signsD t) (.ok (t.cps.toList.map fun _ => D.bl true)) = .ok (.lst (t.cps.toList.map fun _ => D.bl true)) := big_ok (by rw [signs_len]; have := h.1; omega)
 have e3 : allR [.lst (t.cps.toList.map fun _ => D.bl true)] = .ok (.bl true) := by
  unfold allR
  dsimp only
  rw [boolsOf_map (fun _ => true)]
  simp
 simp [g_is_text, F_is_text, h1, e1, e2, e3]
theorem check_text_ok {t : Str} (h : Good 2000 t) : g_check_text [.str t] = .ok .non := by
 simp [g_check_text, F_check_text, is_text_ok h]
theorem Good.mono {n m : Nat} {t : Str} (h : Good n t) (hm : n ≤ m) : Good m t := ⟨Nat.le_trans h.1 hm, h.2⟩
theorem six6 {P : Int → Prop} {x a b c d e f : Int} (h : x = a ∨ x = b ∨ x = c ∨ x = d ∨ x = e ∨ x = f) (h1 : P a) (h2 : P b) (h3 : P c) (h4 : P d) (h5 : P e) (h6 : P f) : P x := by
 rcases h with rfl | rfl | rfl | rfl | rfl | rfl <;> assumption
theorem key_ok (ns : List Int) (at' : Nat) : ∃ few times many, g__law_key [scr ns, .int at'] = .ok (keyD few times many) ∧ KeyOk few times many := by
 obtain ⟨z1, q1, h1, h1'⟩ := mixed_ok ns at' (m := 6) (by decide)
 obtain ⟨z2, q2, h2, h2'⟩ := mixN ns ((at' : Int) + 1) (by omega) (m := 6) (by decide)
 obtain ⟨z3, q3, h3, h3'⟩ := mixN ns ((at' : Int) + 2) (by omega) (m := 6) (by decide)
 have pick : ∀ (a b c d e f : Int) (z : Int), 0 ≤ z → z < 6 → ∃ x, idxR (.lst [.int a, .int b, .int c, .int d, .int e, .int f]) (.int z) = .ok (.int x) ∧ (x = a ∨ x = b ∨ x = c ∨ x = d ∨ x = e ∨ x = f) := by
  intro a b c d e f z hz hz'
  have : z = 0 ∨ z = 1 ∨ z = 2 ∨ z = 3 ∨ z = 4 ∨ z = 5 := by omega
  rcases this with rfl | rfl | rfl | rfl | rfl | rfl
  ·exact ⟨a, ix_lst (i := 0) rfl, by simp⟩
  ·exact ⟨b, ix_lst (i := 1) rfl, by simp⟩
  ·exact ⟨c, ix_lst (i := 2) rfl, by simp⟩
  ·exact ⟨d, ix_lst (i := 3) rfl, by simp⟩
  ·exact ⟨e, ix_lst (i := 4) rfl, by simp⟩
  ·exact ⟨f, ix_lst (i := 5) rfl, by simp⟩
 have six : ∀ a b c d e f : D, lstR [a, b, c, d, e, f] = .ok (.lst [a, b, c, d, e, f]) := fun _ _ _ _ _ _ => rfl
 obtain ⟨x1, e1, c1⟩ := pick 1 2 7 97 997 999 z1 h1 h1'
 obtain ⟨x2, e2, c2⟩ := pick 1 2 3 31 256 999 z2 h2 h2'
 obtain ⟨x3, e3, c3⟩ := pick 1 2 5 101 9973 99999 z3 h3 h3'
 refine ⟨x1, x2, x3, ?_, ?_⟩
 ·simp [g__law_key, F__law_key, six, q1, q2, q3, e1, e2, e3, keyD]
 ·have b1 := six6 (P := fun x => 1 ≤ x ∧ x ≤ 999) c1 (by decide) (by decide) (by decide) (by decide) (by decide) (by decide)
  have b2 := six6 (P := fun x => 1 ≤ x ∧ x ≤ 999) c2 (by decide) (by decide) (by decide) (by decide) (by decide) (by decide)
  have b3 := six6 (P := fun x => 1 ≤ x ∧ x ≤ 99999) c3 (by decide) (by decide) (by decide) (by decide) (by decide) (by decide)
  exact ⟨b1.1, b1.2, b2.1, b2.2, b3.1, b3.2⟩
noncomputable def plainS : List Nat → Int
 | [] => 0
 | c :: r => c + plainS r
noncomputable def leanS : List Nat → Int
 | [] => 0
 | c :: r => ((r.length : Int) + 1) * c + leanS r
noncomputable def horner (times : Int) : Int → List Nat → Int
 | a, [] => a
 | a, c :: r => horner times (a * times + c) r
theorem plainS_snoc (p : List Nat) (c : Nat) : plainS (p ++ [c]) = plainS p + c := by
 induction p with
 | nil => simp [plainS]
 | cons a p ih => simp [plainS, ih]; omega
theorem leanS_snoc (p : List Nat) (c : Nat) : leanS (p ++ [c]) = leanS p + (plainS p + c) := by
 induction p with
 | nil => simp [leanS, plainS]
 | cons a p ih =>
  simp only [List.cons_append, leanS, plainS, ih, List.length_append, List.length_cons, List.length_nil]
  have : ((((p.length + (0 + 1) : Nat) : Int)) + 1) * (a : Int) = ((p.length : Int) + 1) * a + a := by
   rw [show (((p.length + (0 + 1) : Nat) : Int)) + 1 = ((p.length : Int) + 1) + 1 by omega, Int.add_mul]; omega
  omega
theorem horner_snoc (times : Int) (p : List Nat) (c : Nat) : ∀ a, horner times a (p ++ [c]) = horner times a p * times + c := by
 induction p with
 | nil => intro a; rfl
 | cons b p ih => intro a; exact ih _
theorem toList_len (t : Str) : t.cps.toList.length = t.length := by simp [Str.length]
theorem first_sum_ok {few times many : Int} {t : Str} (hk : KeyOk few times many) (h : Good 2000 t) :
  g_first_sum [keyD few times many, .str t] = .ok (.tup [.int (plainS t.cps.toList % few), .int (leanS t.cps.toList % few)]) := by
 have hf : 0 < few := by have := hk.f1; omega
 have loop : ∃ δ', forO (tgN 5) L_first_sum_1 (signsD t) [some (.v (keyD few times many)), some (.v (.str t)), some (.v (.int few)), some (.v (.int 0)), some (.v (.int 0)), none] = .nx δ' ∧
   ∃ x, δ' = [some (.v (keyD few times many)), some (.v (.str t)), some (.v (.int few)), some (.v (.int (plainS t.cps.toList))), some (.v (.int (leanS t.cps.toList))), x] := by
  refine for_map (fun c => D.str (chr1 c)) (fun p δ => ∃ x, δ = [some (.v (keyD few times many)), some (.v (.str t)), some (.v (.int few)), some (.v (.int (plainS p))), some (.v (.int (leanS p))), x]) ⟨none, rfl⟩ ?_
  rintro c p q δ e ⟨x, rfl⟩
  refine ⟨_, _, rfl, .inl (show _ = Out.nx [some (.v (keyD few times many)), some (.v (.str t)), some (.v (.int few)), some (.v (.int (plainS (p ++ [c])))), some (.v (.int (leanS (p ++ [c])))), some (.v (.str (chr1 c)))] from ?_), _, rfl⟩
  rw [plainS_snoc, leanS_snoc]
  simp [L_first_sum_1]
 obtain ⟨δ', eL, x, rfl⟩ := loop
 have ek := check_key_ok hk
 have et := check_text_ok h
 have e0 : idxR (keyD few times many) (.int 0) = .ok (.int few) := by simp [keyD]
 simp [g_first_sum, F_first_sum, ek, et, e0, eL, s_mod hf]
theorem chained_ok {times many : Int} {t : Str} (ht : 0 ≤ times ∧ times ≤ 1000) (hm : 1 ≤ many) :
  g_chained [.int times, .int many, .str t] = .ok (.int (horner times 0 t.cps.toList % many)) := by
 have hm' : 0 < many := by omega
 have loop : ∃ δ', forO (tgN 4) L_chained_1 (signsD t) [some (.v (.int times)), some (.v (.int many)), some (.v (.str t)), some (.v (.int 0)), none] = .nx δ' ∧
   ∃ x, δ' = [some (.v (.int times)), some (.v (.int many)), some (.v (.str t)), some (.v (.int (horner times 0 t.cps.toList % many))), x] := by
  refine for_map (fun c => D.str (chr1 c)) (fun p δ => ∃ x, δ = [some (.v (.int times)), some (.v (.int many)), some (.v (.str t)), some (.v (.int (horner times 0 p % many))), x]) ⟨none, by simp [horner]⟩ ?_
  rintro c p q δ e ⟨x, rfl⟩
  refine ⟨_, _, rfl, .inl (show _ = Out.nx [some (.v (.int times)), some (.v (.int many)), some (.v (.str t)), some (.v (.int (horner times 0 (p ++ [c]) % many))), some (.v (.str (chr1 c)))] from ?_), _, rfl⟩
  have e1 := mul_l (i := times) (j := horner times 0 p % many) (by omega)
  have e2 : (times * (horner times 0 p % many) + c) % many = horner times 0 (p ++ [c]) % many := by
   rw [horner_snoc, Int.add_emod, Int.mul_emod, Int.emod_emod, ← Int.mul_emod, ← Int.add_emod, Int.mul_comm]
  simp [L_chained_1, e1, s_mod hm', e2]
 obtain ⟨δ', eL, x, rfl⟩ := loop
 simp [g_chained, F_chained, eL]
theorem second_sum_ok {few times many : Int} {t : Str} (hk : KeyOk few times many) (h : Good 2000 t) :
  g_second_sum [keyD few times many, .str t] = .ok (.int (horner times 0 t.cps.toList % many)) := by
 have ek := check_key_ok hk
 have et := check_text_ok h
 have ec := chained_ok (times := times) (many := many) (t := t) ⟨by have := hk.t1; omega, by have := hk.t2; omega⟩ hk.m1
 have e1 : idxR (keyD few times many) (.int 1) = .ok (.int times) := by simp [keyD]
 have e2 : idxR (keyD few times many) (.int 2) = .ok (.int many) := by simp [keyD]
 simp [g_second_sum, F_second_sum, ek, et, e1, e2, ec]
theorem law_second_ok {times many : Int} {t : Str} (ht : 0 ≤ times ∧ times ≤ 1000) (hm : 1 ≤ many) :
  g__law_second [.str t, .int times, .int many] = .ok (.int (horner times 0 t.cps.toList % many)) := by
 have hm' : 0 < many := by omega
 have loop : ∃ δ', forO (tgN 4) L__law_second_1 (signsD t) [some (.v (.str t)), some (.v (.int times)), some (.v (.int many)), some (.v (.int 0)), none] = .nx δ' ∧
   ∃ x, δ' = [some (.v (.str t)), some (.v (.int times)), some (.v (.int many)), some (.v (.int (horner times 0 t.cps.toList))), x] := by
  refine for_map (fun c => D.str (chr1 c)) (fun p δ => ∃ x, δ = [some (.v (.str t)), some (.v (.int times)), some (.v (.int many)), some (.v (.int (horner times 0 p))), x]) ⟨none, rfl⟩ ?_
  rintro c p q δ e ⟨x, rfl⟩
  refine ⟨_, _, rfl, .inl (show _ = Out.nx [some (.v (.str t)), some (.v (.int times)), some (.v (.int many)), some (.v (.int (horner times 0 (p ++ [c])))), some (.v (.str (chr1 c)))] from ?_), _, rfl⟩
  rw [horner_snoc]
  have e1 := mul_r (i := horner times 0 p) (j := times) (by omega)
  simp [L__law_second_1, e1]
 obtain ⟨δ', eL, x, rfl⟩ := loop
 simp [g__law_second, F__law_second, eL, s_mod hm']
theorem lean_range (cs : List Nat) : ((List.range cs.length).map fun k : Nat => ((cs.length : Int) - (k : Int)) * ((cs.getD k 0 : Nat) : Int)).sum = leanS cs := by
 induction cs with
 | nil => rfl
 | cons c r ih =>
  rw [List.length_cons, List.range_succ_eq_map, List.map_cons, List.sum_cons, List.map_map]
  have : (List.map ((fun k : Nat => ((((r.length + 1 : Nat) : Int)) - (k : Int)) * (((c :: r).getD k 0 : Nat) : Int)) ∘ Nat.succ) (List.range r.length)) = (List.range r.length).map fun k : Nat => ((r.length : Int) - (k : Int)) * ((r.getD k 0 : Nat) : Int) := by
   apply List.map_congr_left
   intro k _
   simp only [Function.comp, Nat.succ_eq_add_one, List.getD_cons_succ]
   congr 1
   omega
  rw [this, ih]
  simp [leanS]
theorem plain_sum (cs : List Nat) : (cs.map fun c : Nat => (c : Int)).sum = plainS cs := by
 induction cs with
 | nil => rfl
 | cons c r ih => simp [plainS, ih]
theorem sum_ok {α : Type} {xs : List α} (f : α → Int) (h : ∀ x ∈ xs, -(2 ^ 40) ≤ f x ∧ f x ≤ 2 ^ 40) (hl : xs.length ≤ 1000000) : sumR [.lst (xs.map fun x => D.int (f x))] = .ok (.int (xs.map f).sum) := by
 have h1 : ((xs.map f).all inSum && decide ((xs.map f).length ≤ 1000000)) = true := by
  rw [Bool.and_eq_true]
  refine ⟨List.all_eq_true.mpr fun y hy => ?_, decide_eq_true (by rw [List.length_map]; exact hl)⟩
  obtain ⟨x, hx, rfl⟩ := List.mem_map.mp hy
  exact decide_eq_true (h x hx)
 unfold sumR
 dsimp only
 rw [intsOf_map]
 dsimp only
 rw [if_pos h1]
theorem law_first_ok {few times many : Int} {t : Str} (hk : KeyOk few times many) (h : Good 2000 t) :
  g__law_first [keyD few times many, .str t] = .ok (.tup [.int (plainS t.cps.toList % few), .int (leanS t.cps.toList % few)]) := by
 have hf : 0 < few := by have := hk.f1; omega
 have hn := h.1
 have hL := toList_len t
 have e0 : idxR (keyD few times many) (.int 0) = .ok (.int few) := by simp [keyD]
 have c1 : compL (fun d => ordR [d]) (fun _ => .ok true) (signsD t) = .ok (t.cps.toList.map fun c : Nat => D.int (c : Int)) := comp_list _ _ fun c _ => s_ord c
 have b1 := big_ok (ds := signsD t) (es := t.cps.toList.map fun c : Nat => D.int (c : Int)) (by rw [signs_len]; omega)
 have s1 := sum_ok (xs := t.cps.toList) (fun c : Nat => (c : Int)) (fun c hc => by have := h.2 c hc; unfold okc at this; omega) (by omega)
 rw [plain_sum] at s1
 have r1 := rng1_ok (j := (t.length : Int)) (by omega)
 have c2 : compL (fun d => (subR (.int t.length) d >>= fun x => idxR (.str t) d >>= fun y => ordR [y] >>= fun z => mulR x z)) (fun _ => .ok true) (rngD 0 t.length) = .ok ((List.range t.length).map fun k : Nat => D.int (((t.length : Int) - (k : Int)) * ((t.cps.toList.getD k 0 : Nat) : Int))) := by
  refine comp_list (fun k : Nat => D.int (0 + (k : Int))) _ fun k hk => ?_
  have hk : k < t.cps.toList.length := by rw [hL]; exact List.mem_range.mp hk
  have hi := ix_str (z := t) (i := k) (List.getElem?_eq_getElem hk)
  have hd : t.cps.toList.getD k 0 = t.cps.toList[k] := by rw [List.getD_eq_getElem?_getD, List.getElem?_eq_getElem hk]; rfl
  have hm := mul_l (i := (t.length : Int) - (k : Int)) (j := ((t.cps.toList[k] : Nat) : Int)) (by omega)
  rw [hd]
  rw [Int.zero_add, s_sub, ok_bind, hi, ok_bind, s_ord, ok_bind, hm]
 have b2 := big_ok (ds := rngD 0 t.length) (es := (List.range t.length).map fun k : Nat => D.int (((t.length : Int) - (k : Int)) * ((t.cps.toList.getD k 0 : Nat) : Int))) (by simp [rngD]; omega)
 have s2 := sum_ok (xs := List.range t.length) (fun k : Nat => ((t.length : Int) - (k : Int)) * ((t.cps.toList.getD k 0 : Nat) : Int)) (fun k hk => by
  have hk := List.mem_range.mp hk
  have hk' : k < t.cps.toList.length := by rw [hL]; exact hk
  have hd : t.cps.toList.getD k 0 = t.cps.toList[k] := by rw [List.getD_eq_getElem?_getD, List.getElem?_eq_getElem hk']; rfl
  have hc := h.2 _ (List.getElem_mem hk')
  unfold okc at hc
  rw [hd]
  have a1 : (0 : Int) ≤ (t.length : Int) - (k : Int) := by omega
  have a2 : (t.length : Int) - (k : Int) ≤ 2000 := by omega
  have a3 : (0 : Int) ≤ ((t.cps.toList[k] : Nat) : Int) := by omega
  have a4 : ((t.cps.toList[k] : Nat) : Int) ≤ 126 := by omega
  have a5 := Int.mul_le_mul a2 a4 a3 (by omega)
  have a6 := Int.mul_nonneg a1 a3
  constructor
  ·omega
  ·exact Int.le_trans a5 (by decide)) (by simp; omega)
 have hsum := lean_range t.cps.toList
 rw [hL] at hsum
 rw [hsum] at s2
 clear hsum
 generalize ((List.range t.length).map fun k : Nat => D.int (((t.length : Int) - (k : Int)) * ((t.cps.toList.getD k 0 : Nat) : Int))) = es at c2 b2 s2
 simp [g__law_first, F__law_first, c1, b1, s1, r1, c2, b2, s2, e0, s_mod hf]
noncomputable def strOf (l : List Nat) : Str := ⟨l.toArray⟩
theorem codes_strOf (l : List Nat) : (strOf l).cps.toList = l := by simp [strOf]
theorem len_strOf (l : List Nat) : (strOf l).length = l.length := by simp [strOf, Str.length]
theorem strOf_codes (t : Str) : strOf t.cps.toList = t := by simp [strOf]
theorem cutT_any (t : Str) (a b : Nat) : cutT t (some (a : Int)) (some (b : Int)) = strOf ((t.cps.toList.drop a).take (b - a)) := by unfold cutT; rw [cut_any]; rfl
theorem cutT_to (t : Str) (b : Nat) : cutT t none (some (b : Int)) = strOf (t.cps.toList.take b) := by unfold cutT; rw [cut_to]; rfl
theorem cutT_from (t : Str) (a : Nat) : cutT t (some (a : Int)) none = strOf (t.cps.toList.drop a) := by unfold cutT; rw [cut_from]; rfl
theorem good_sub {n : Nat} {t : Str} (h : Good n t) (a m : Nat) : Good n (strOf ((t.cps.toList.drop a).take m)) := by
 refine ⟨?_, fun c hc => ?_⟩
 ·rw [len_strOf, List.length_take, List.length_drop, toList_len]; have := h.1; omega
 ·rw [codes_strOf] at hc; exact h.2 c (List.mem_of_mem_drop (List.mem_of_mem_take hc))
theorem good_take {n : Nat} {t : Str} (h : Good n t) (m : Nat) : Good n (strOf (t.cps.toList.take m)) := by
 have := good_sub h 0 m
 rwa [List.drop_zero] at this
theorem range_mid {N k : Nat} {p q : List Nat} (e : List.range N = p ++ k :: q) : k = p.length ∧ p.length < N := by
 have h1 : (List.range N)[p.length]? = some k := by rw [e]; simp
 obtain ⟨h2, h3⟩ := List.getElem?_eq_some_iff.mp h1
 rw [List.getElem_range] at h3
 rw [List.length_range] at h2
 exact ⟨h3.symm, h2⟩
noncomputable def win (cs : List Nat) (p m : Nat) : List Nat := (cs.drop p).take m
noncomputable def fsum (few : Int) (w : List Nat) : D := .tup [.int (plainS w % few), .int (leanS w % few)]
theorem modadd (x y n : Int) : (x % n + y) % n = (x + y) % n := by rw [Int.add_emod, Int.emod_emod, ← Int.add_emod]
theorem rolled_ok {few times many : Int} (hk : KeyOk few times many) (w : List Nat) (a b : Nat) (hl : w.length < 100000) :
  g_rolled [keyD few times many, fsum few (a :: w), .int ((w.length : Int) + 1), .str (chr1 a), .str (chr1 b)] = .ok (fsum few (w ++ [b])) := by
 have hf : 0 < few := by have := hk.f1; omega
 have ek := check_key_ok hk
 have e0 : idxR (keyD few times many) (.int 0) = .ok (.int few) := by simp [keyD]
 have em := mul_l (i := (w.length : Int) + 1) (j := (a : Int)) (by omega)
 have p1 : (plainS (a :: w) % few - a + b) % few = plainS (w ++ [b]) % few := by
  rw [plainS_snoc, show plainS (a :: w) % few - (a : Int) + b = plainS (a :: w) % few + (b - a) by omega, modadd]
  rw [show plainS (a :: w) + ((b : Int) - a) = plainS w + b by (show (a : Int) + plainS w + (b - a) = plainS w + b); omega]
 have p2 : (leanS (a :: w) % few - ((w.length : Int) + 1) * a + (plainS (a :: w) % few - a + b)) % few = leanS (w ++ [b]) % few := by
  rw [leanS_snoc, show leanS (a :: w) % few - ((w.length : Int) + 1) * a + (plainS (a :: w) % few - a + b) = leanS (a :: w) % few + (plainS (a :: w) % few + (b - a - ((w.length : Int) + 1) * a)) by omega, modadd]
  rw [show leanS (a :: w) + (plainS (a :: w) % few + (b - a - ((w.length : Int) + 1) * a)) = plainS (a :: w) % few + (leanS (a :: w) + (b - a - ((w.length : Int) + 1) * a)) by omega, modadd]
  rw [show plainS (a :: w) + (leanS (a :: w) + ((b : Int) - a - ((w.length : Int) + 1) * a)) = leanS w + (plainS w + b) by (show (a : Int) + plainS w + (((w.length : Int) + 1) * a + leanS w + (b - a - ((w.length : Int) + 1) * a)) = leanS w + (plainS w + b)); omega]
 unfold fsum
 simp [g_rolled, F_rolled, ek, e0, em, s_mod hf, p1, p2]
theorem win_step {cs : List Nat} {p m : Nat} (h : p + (m + 1) < cs.length) : ∃ a b w, cs[p]? = some a ∧ cs[p + (m + 1)]? = some b ∧ w.length = m ∧ win cs p (m + 1) = a :: w ∧ win cs (p + 1) (m + 1) = w ++ [b] := by
 have h1 : p < cs.length := by omega
 refine ⟨cs[p], cs[p + (m + 1)], (cs.drop (p + 1)).take m, List.getElem?_eq_getElem h1, List.getElem?_eq_getElem h, ?_, ?_, ?_⟩
 ·rw [List.length_take, List.length_drop]; omega
 ·unfold win
  rw [List.drop_eq_getElem_cons h1, List.take_succ_cons]
 ·unfold win
  have h2 : m < (cs.drop (p + 1)).length := by rw [List.length_drop]; omega
  rw [List.take_add_one, List.getElem?_eq_getElem h2, List.getElem_drop]
  simp [show p + 1 + m = p + (m + 1) by omega]
theorem check_size_ok {z : Int} (h1 : 1 ≤ z) (h2 : z ≤ 200) : g_check_size [.int z] = .ok .non := by
 simp [g_check_size, F_check_size, is_within_ok h1 h2]
noncomputable def cardD (few times many : Int) (w : List Nat) : D := .tup [fsum few w, .int (horner times 0 w % many)]
theorem card_of_ok {few times many : Int} {t : Str} (hk : KeyOk few times many) (h : Good 2000 t) : g_card_of [keyD few times many, .str t] = .ok (cardD few times many t.cps.toList) := by
 have e1 := first_sum_ok hk h
 have e2 := second_sum_ok hk h
 simp [g_card_of, F_card_of, e1, e2, cardD, fsum]
theorem law_card_ok {few times many : Int} {t : Str} (hk : KeyOk few times many) (h : Good 2000 t) : g__law_card [keyD few times many, .str t] = .ok (cardD few times many t.cps.toList) := by
 have e1 := law_first_ok hk h
 have e2 := law_second_ok (times := times) (many := many) (t := t) ⟨by have := hk.t1; omega, by have := hk.t2; omega⟩ hk.m1
 have i1 : idxR (keyD few times many) (.int 1) = .ok (.int times) := by simp [keyD]
 have i2 : idxR (keyD few times many) (.int 2) = .ok (.int many) := by simp [keyD]
 simp [g__law_card, F__law_card, e1, e2, cardD, fsum, i1, i2]
noncomputable def cardsL (few times many : Int) (cs : List Nat) (size : Nat) : List D := (List.range (cs.length / size)).map fun k => cardD few times many (win cs (k * size) size)
theorem blocks_num (n size : Nat) (h : 1 ≤ size) : rngN 0 ((n : Int) - (size : Int) + 1) (size : Int) = n / size := by
 unfold rngN Builtin.Range.rangeSize
 rw [if_pos (show (size : Int) > 0 by omega)]
 by_cases hs : size ≤ n
 ·rw [if_pos (show (0 : Int) < (n : Int) - (size : Int) + 1 by omega)]
  have e : (n : Int) - (size : Int) + 1 - 0 - 1 = ((n - size : Nat) : Int) := by omega
  rw [e, ← Int.natCast_ediv]
  have e2 : n / size = (n - size) / size + 1 := by rw [← Nat.add_div_right _ (by omega)]; congr 1; omega
  rw [e2]
  exact Int.toNat_natCast ((n - size) / size + 1)
 ·rw [if_neg (show ¬ (0 : Int) < (n : Int) - (size : Int) + 1 by omega)]
  rw [Nat.div_eq_of_lt (by omega)]; rfl
theorem cards_ok {few times many : Int} {t : Str} {size : Nat} (hk : KeyOk few times many) (h : Good 2000 t) (h1 : 1 ≤ size) (h2 : size ≤ 200) :
  g_cards [keyD few times many, .int size, .str t] = .ok (.lst (cardsL few times many t.cps.toList size)) := by
 have hn := h.1
 have hL := toList_len t
 have ek := check_key_ok hk
 have et := check_text_ok h
 have es := check_size_ok (z := (size : Int)) (by omega) (by omega)
 have r := rng3_ok (a := 0) (b := (t.length : Int) - (size : Int) + 1) (c := (size : Int)) (by omega)
 rw [blocks_num _ _ h1] at r
 have hd : t.length / size ≤ t.length := Nat.div_le_self _ _
 have c1 : compL (fun d => partR d >>= fun l => addR d (.int size) >>= fun x => partR x >>= fun hh => g_card_of [keyD few times many, .str (cutT t l hh)]) (fun _ => .ok true) (rngD3 0 (size : Int) (t.length / size)) = .ok (cardsL few times many t.cps.toList size) := by
  unfold cardsL
  rw [hL]
  refine comp_list _ _ fun k hk' => ?_
  have hg := good_sub h (k * size) size
  have ec := card_of_ok hk hg
  rw [codes_strOf] at ec
  have cc := cutT_any t (k * size) (k * size + size)
  rw [show k * size + size - k * size = size by omega] at cc
  rw [show (0 : Int) + (k : Int) * (size : Int) = ((k * size : Nat) : Int) by rw [Int.zero_add]; exact (Int.natCast_mul _ _).symm]
  simp only [s_partR, ok_bind, s_add, s_sliceS]
  rw [show ((k * size : Nat) : Int) + (size : Int) = ((k * size + size : Nat) : Int) by omega, cc]
  exact ec
 have b1 := big_ok (ds := rngD3 0 (size : Int) (t.length / size)) (es := cardsL few times many t.cps.toList size) (by simp [rngD3]; omega)
 simp [g_cards, F_cards, ek, es, et, r, c1, b1]
theorem law_known_ok {few times many : Int} {t : Str} {size : Nat} (hk : KeyOk few times many) (h : Good 2000 t) (h1 : 1 ≤ size) (h2 : size ≤ 200) :
  g__law_known [keyD few times many, .int size, .str t] = .ok (.lst (cardsL few times many t.cps.toList size)) := by
 have hn := h.1
 have hL := toList_len t
 have f1 := s_fdiv (i := (t.length : Int)) (j := (size : Int)) (by omega)
 have hd : t.length / size ≤ t.length := Nat.div_le_self _ _
 obtain ⟨N, hN⟩ : ∃ N, N = t.length / size := ⟨_, rfl⟩
 rw [← Int.natCast_ediv, ← hN] at f1
 rw [← hN] at hd
 have r := rng1_ok (j := (N : Int)) (by omega)
 have c1 : compL (fun d => mulR (.int size) d >>= fun x => partR x >>= fun l => mulR (.int size) d >>= fun x => addR x (.int size) >>= fun x => partR x >>= fun hh => g__law_card [keyD few times many, .str (cutT t l hh)]) (fun _ => .ok true) (rngD 0 N) = .ok (cardsL few times many t.cps.toList size) := by
  unfold cardsL
  rw [hL, ← hN]
  refine comp_list _ _ fun k hk' => ?_
  have hg := good_sub h (k * size) size
  have ec := law_card_ok hk hg
  rw [codes_strOf] at ec
  have cc := cutT_any t (k * size) (k * size + size)
  rw [show k * size + size - k * size = size by omega] at cc
  have em := mul_l (i := (size : Int)) (j := (k : Int)) (by omega)
  rw [show (size : Int) * (k : Int) = ((k * size : Nat) : Int) by rw [Int.natCast_mul, Int.mul_comm]] at em
  rw [show (0 : Int) + (k : Int) = (k : Int) by omega]
  simp only [em, s_partR, ok_bind, s_add, s_sliceS]
  rw [show ((k * size : Nat) : Int) + (size : Int) = ((k * size + size : Nat) : Int) by omega, cc]
  exact ec
 have b1 := big_ok (ds := rngD 0 N) (es := cardsL few times many t.cps.toList size) (by simp [rngD]; omega)
 simp [g__law_known, F__law_known, f1, r, c1, b1]
noncomputable def firstsL (few : Int) (cs : List Nat) (s : Nat) : List D := (List.range (cs.length + 1 - s)).map fun p => fsum few (win cs p s)
theorem rolled_sums_ok {few times many : Int} {t : Str} {s : Nat} (hk : KeyOk few times many) (h : Good 2000 t) (h1 : 1 ≤ s) (h2 : s ≤ 200) :
  g_rolled_sums [keyD few times many, .int s, .str t] = .ok (.lst (firstsL few t.cps.toList s)) := by
 have hL := toList_len t
 have hn := h.1
 by_cases hs : t.length < s
 ·have hs' : (t.length : Int) < (s : Int) := by omega
  have e : firstsL few t.cps.toList s = [] := by
   unfold firstsL
   rw [show t.cps.toList.length + 1 - s = 0 by omega]; rfl
  rw [e]
  simp [g_rolled_sums, F_rolled_sums, hs']
 ·have hs' : ¬ (t.length : Int) < (s : Int) := by omega
  obtain ⟨m, rfl⟩ : ∃ m, s = m + 1 := ⟨s - 1, by omega⟩
  have e1 := first_sum_ok (t := strOf (t.cps.toList.take (m + 1))) hk (good_take h (m + 1))
  rw [codes_strOf] at e1
  have e1 : g_first_sum [keyD few times many, .str (strOf (t.cps.toList.take (m + 1)))] = .ok (fsum few (win t.cps.toList 0 (m + 1))) := e1
  have c1 := cutT_to t (m + 1)
  have r1 := rng1_ok (j := (t.length : Int) - ((m + 1 : Nat) : Int)) (by omega)
  have hN : ((t.length : Int) - ((m + 1 : Nat) : Int)).toNat = t.length - (m + 1) := by omega
  rw [hN] at r1
  have loop : ∃ δ', forO (tgN 5) L_rolled_sums_1 (rngD 0 (t.length - (m + 1))) [some (.v (keyD few times many)), some (.v (.int ((m + 1 : Nat) : Int))), some (.v (.str t)), some (.v (fsum few (win t.cps.toList 0 (m + 1)))), some (.own [fsum few (win t.cps.toList 0 (m + 1))]), none] = .nx δ' ∧
    ∃ x y, δ' = [some (.v (keyD few times many)), some (.v (.int ((m + 1 : Nat) : Int))), some (.v (.str t)), x, some (.own (firstsL few t.cps.toList (m + 1))), y] := by
   have := for_map (tg := tgN 5) (F := L_rolled_sums_1) (fun k : Nat => D.int (0 + (k : Int))) (fun p δ => ∃ y, δ = [some (.v (keyD few times many)), some (.v (.int ((m + 1 : Nat) : Int))), some (.v (.str t)), some (.v (fsum few (win t.cps.toList p.length (m + 1)))), some (.own ((List.range (p.length + 1)).map fun q => fsum few (win t.cps.toList q (m + 1)))), y])
    (xs := List.range (t.length - (m + 1))) (δ := [some (.v (keyD few times many)), some (.v (.int ((m + 1 : Nat) : Int))), some (.v (.str t)), some (.v (fsum few (win t.cps.toList 0 (m + 1)))), some (.own [fsum few (win t.cps.toList 0 (m + 1))]), none]) ⟨none, rfl⟩ ?_
   ·obtain ⟨δ', e, y, rfl⟩ := this
    refine ⟨_, e, some (.v (fsum few (win t.cps.toList (t.length - (m + 1)) (m + 1)))), y, ?_⟩
    unfold firstsL
    rw [List.length_range, show t.length - (m + 1) + 1 = t.cps.toList.length + 1 - (m + 1) by omega]
   ·rintro k p q δ e ⟨y, rfl⟩
    obtain ⟨rfl, hk2⟩ := range_mid e
    obtain ⟨a, b, w, ha, hb, hw, hw1, hw2⟩ := win_step (cs := t.cps.toList) (p := p.length) (m := m) (by rw [hL]; omega)
    have i1 := ix_str (z := t) ha
    have i2 := ix_str (z := t) hb
    rw [show ((p.length + (m + 1) : Nat) : Int) = (p.length : Int) + ((m + 1 : Nat) : Int) by omega] at i2
    have er := rolled_ok hk w a b (by omega)
    rw [hw, show (m : Int) + 1 = ((m + 1 : Nat) : Int) by omega, ← hw1, ← hw2] at er
    have am := s_appM (ds := (List.range (p.length + 1)).map fun q => fsum few (win t.cps.toList q (m + 1))) (d := fsum few (win t.cps.toList (p.length + 1) (m + 1))) (by rw [List.length_map, List.length_range]; omega)
    have el : ((List.range (p.length + 1)).map fun q => fsum few (win t.cps.toList q (m + 1))) ++ [fsum few (win t.cps.toList (p.length + 1) (m + 1))] = (List.range ((p ++ [p.length]).length + 1)).map fun q => fsum few (win t.cps.toList q (m + 1)) := by
     rw [List.length_append, List.length_singleton, List.range_succ (n := p.length + 1), List.map_append]; rfl
    rw [el] at am
    generalize ((List.range (p.length + 1)).map fun q => fsum few (win t.cps.toList q (m + 1))) = L1 at am ⊢
    have hlen : (p ++ [p.length]).length = p.length + 1 := by simp
    refine ⟨_, _, rfl, .inl (show _ = Out.nx [some (.v (keyD few times many)), some (.v (.int ((m + 1 : Nat) : Int))), some (.v (.str t)), some (.v (fsum few (win t.cps.toList (p ++ [p.length]).length (m + 1)))), some (.own ((List.range ((p ++ [p.length]).length + 1)).map fun q => fsum few (win t.cps.toList q (m + 1)))), some (.v (.int (0 + (p.length : Int))))] from ?_), _, rfl⟩
    generalize ((List.range ((p ++ [p.length]).length + 1)).map fun q => fsum few (win t.cps.toList q (m + 1))) = L2 at am ⊢
    rw [hlen]
    generalize hS : ((m + 1 : Nat) : Int) = S at i2 er ⊢
    simp [L_rolled_sums_1, i1, i2, er, am]
  obtain ⟨δ', eL, x, y, rfl⟩ := loop
  generalize hS : ((m + 1 : Nat) : Int) = S at hs' e1 c1 r1 eL ⊢
  simp [g_rolled_sums, F_rolled_sums, hs', e1, c1, r1, eL]
inductive Pc where
 | cp (p m : Nat) | sg (w : List Nat)
noncomputable def pcD : Pc → D
 | .cp p m => .tup [.str "copy", .int p, .int m]
 | .sg w => .tup [.str "signs", .str (strOf w)]
noncomputable def PcG : Pc → Prop
 | .cp p m => 1 ≤ m
 | .sg w => 1 ≤ w.length ∧ w.length ≤ 2000 ∧ ∀ c ∈ w, okc c
noncomputable def letD (ps : List Pc) : D := .lst (ps.map pcD)
theorem ne_sc : (Str.ofString "signs" == Str.ofString "copy") = false := by decide +kernel
theorem ne_cs : (Str.ofString "copy" == Str.ofString "signs") = false := by decide +kernel
theorem is_copy_cp (p m : Nat) : g_is_copy [pcD (.cp p m)] = .ok (.bl true) := by
 simp [g_is_copy, F_is_copy, pcD]
theorem is_copy_sg (w : List Nat) : g_is_copy [pcD (.sg w)] = .ok (.bl false) := by
 simp [g_is_copy, F_is_copy, pcD, ne_sc]
theorem is_from_ok {i lo : Int} (h : lo ≤ i) : g_is_from [.int i, .int lo] = .ok (.bl true) := by
 simp [g_is_from, F_is_from, g_is_whole, F_is_whole, h]
theorem good_strOf {w : List Nat} {n : Nat} (h1 : w.length ≤ n) (h2 : ∀ c ∈ w, okc c) : Good n (strOf w) := ⟨by rw [len_strOf]; exact h1, fun c hc => h2 c (by rwa [codes_strOf] at hc)⟩
theorem is_piece_ok {x : Pc} (h : PcG x) : g_is_piece [pcD x] = .ok (.bl true) := by
 cases x with
 | cp p m =>
  have h : 1 ≤ m := h
  have e0 := is_copy_cp p m
  have e1 := is_from_ok (i := (p : Int)) (lo := 0) (by omega)
  have e2 := is_from_ok (i := (m : Int)) (lo := 1) (by omega)
  unfold pcD at e0 ⊢
  simp [g_is_piece, F_is_piece, e0, e1, e2]
 | sg w =>
  obtain ⟨h1, h2, h3⟩ := h
  have e0 : g_is_copy [.tup [.str "signs", .str (strOf w)]] = .ok (.bl false) := is_copy_sg w
  have e1 := is_text_ok (good_strOf h2 h3)
  have e2 : 0 < (strOf w).length := by rw [len_strOf]; omega
  show g_is_piece [.tup [.str "signs", .str (strOf w)]] = _
  generalize strOf w = s at e0 e1 e2 ⊢
  simp [g_is_piece, F_is_piece, e0, e1, e2]
theorem is_letter_ok {ps : List Pc} (hl : ps.length ≤ 2000) (h : ∀ x ∈ ps, PcG x) : g_is_letter [letD ps] = .ok (.bl true) := by
 have h1 : ¬ ((2000 : Int) < (ps.length : Int)) := by omega
 have e1 : compL (fun d => g_is_piece [d]) (fun _ => .ok true) (ps.map pcD) = .ok (ps.map fun _ => D.bl true) := comp_list pcD (fun _ => D.bl true) fun x hx => is_piece_ok (h x hx)
 have e2 : bigR (ps.map pcD) (.ok (ps.map fun _ => D.bl true)) = .ok (.lst (ps.map fun _ => D.bl true)) := big_ok (by rw [List.length_map]; omega)
 have e3 : allR [.lst (ps.map fun _ => D.bl true)] = .ok (.bl true) := by
  unfold allR
  dsimp only
  rw [boolsOf_map (fun _ => true)]
  simp
 have e4 : (ps.map pcD).length = ps.length := List.length_map ..
 generalize (ps.map fun _ => D.bl true) = LB at e1 e2 e3
 unfold letD
 generalize ps.map pcD = LP at e1 e2 e4 ⊢
 simp [g_is_letter, F_is_letter, e4, h1, e1, e2, e3]
theorem check_letter_ok {ps : List Pc} (hl : ps.length ≤ 2000) (h : ∀ x ∈ ps, PcG x) : g_check_letter [letD ps] = .ok .non := by
 simp [g_check_letter, F_check_letter, is_letter_ok hl h]
theorem pcD_dep (x : Pc) : dep (pcD x) ≤ 1 := by cases x <;> simp [pcD]
theorem pcD_lay (x : Pc) : lay (pcD x) = true := by cases x <;> simp [pcD]
theorem letD_lay (ps : List Pc) : lay (letD ps) = true := by unfold letD; rw [lay_lst]; exact layL_map pcD_lay ps
noncomputable def addS (L : List Pc) (T : List (List Nat)) : List Pc := if T = [] then L else L ++ [.sg T.flatten]
noncomputable def addC (L : List Pc) (a m : Nat) : List Pc := match L.getLast? with
 | some (.cp b k) => if b + k = a then L.dropLast ++ [.cp b (k + m)] else L ++ [.cp a m]
 | _ => L ++ [.cp a m]
noncomputable def stepJ (s : List Pc × List (List Nat)) : Pc → List Pc × List (List Nat)
 | .sg w => (s.1, s.2 ++ [w])
 | .cp a m => (addC (addS s.1 s.2) a m, [])
noncomputable def joinedP (ps : List Pc) : List Pc := addS (ps.foldl stepJ ([], [])).1 (ps.foldl stepJ ([], [])).2
noncomputable def txtD (T : List (List Nat)) : List D := T.map fun w => D.str (strOf w)
theorem catS_strOf (T : List (List Nat)) : catS (T.map strOf) = strOf T.flatten := by
 unfold catS strOf
 rw [List.map_map]
 simp [Function.comp_def]
theorem add_signs_ok (L : List Pc) (T : List (List Nat)) (hL : L.length ≤ 100000) (hT : T.flatten.length ≤ 1000000) : g_add_signs (L.map pcD) [.lst (txtD T)] = .ok ((addS L T).map pcD) := by
 by_cases h : T = []
 ·subst h
  simp [g_add_signs, F_add_signs, addS, txtD]
 ·have hp : (0 : Int) < ((txtD T).length : Int) := by
   unfold txtD
   rw [List.length_map]
   have := List.length_pos_iff.mpr h
   omega
  have hj := s_join (xs := T) (f := strOf) (by
   rw [List.map_map]
   have e : T.map ((fun x : Str => x.length) ∘ strOf) = T.map List.length := List.map_congr_left fun w _ => len_strOf w
   rw [e, ← List.length_flatten]; exact hT)
  rw [catS_strOf] at hj
  have hj : joinR (Str.ofString "") [.lst (txtD T)] = .ok (.str (strOf T.flatten)) := hj
  have am := s_appM (ds := L.map pcD) (d := pcD (.sg T.flatten)) (by rw [List.length_map]; omega)
  have el : L.map pcD ++ [pcD (.sg T.flatten)] = (addS L T).map pcD := by unfold addS; rw [if_neg h, List.map_append]; rfl
  rw [el] at am
  have am : appM (L.map pcD) [.tup [.str "signs", .str (strOf T.flatten)]] = .ok ((addS L T).map pcD) := am
  generalize (addS L T).map pcD = L2 at am ⊢
  generalize L.map pcD = L1 at am ⊢
  generalize txtD T = TD at hp hj ⊢
  generalize strOf T.flatten = S at hj am
  have hp' : 0 < TD.length := by omega
  simp [g_add_signs, F_add_signs, hp', hj, am]
theorem atI_m1 (L : List D) (d : D) : idxR (.lst (L ++ [d])) (.int (-1)) = .ok d := by
 show (match atI (L ++ [d]) (-1) with | some d => Rs.ok d | none => .bad) = _
 rw [atI_last]
theorem setM_last (L : List D) (d e : D) : setM (L ++ [d]) (.int (-1)) e = .ok (L ++ [e]) := by
 unfold setM
 dsimp only
 have : ixN (L ++ [d]).length (-1) = some L.length := by
  unfold ixN
  rw [if_neg (by omega), if_pos (by simp; omega)]
  congr 1
  simp
  omega
 rw [this]
 simp
theorem goes_on_cc (b k a m : Nat) : g_goes_on [pcD (.cp b k), pcD (.cp a m)] = .ok (.bl (decide (b + k = a))) := by
 have e0 := is_copy_cp b k
 have e : ((b : Int) + (k : Int) == (a : Int)) = decide (b + k = a) := by
  by_cases h : b + k = a
  ·rw [decide_eq_true h]; simp; omega
  ·rw [decide_eq_false h]; simp; omega
 unfold pcD at e0 ⊢
 simp [g_goes_on, F_goes_on, e0, e]
theorem goes_on_sc (w : List Nat) (d : D) : g_goes_on [pcD (.sg w), d] = .ok (.bl false) := by
 have e0 := is_copy_sg w
 simp [g_goes_on, F_goes_on, e0]
theorem add_copy_ok (L : List Pc) (a m : Nat) (hL : L.length ≤ 100000) : g_add_copy (L.map pcD) [pcD (.cp a m)] = .ok ((addC L a m).map pcD) := by
 have am := s_appM (ds := L.map pcD) (d := pcD (.cp a m)) (by rw [List.length_map]; omega)
 have am' : appM (L.map pcD) [pcD (.cp a m)] = .ok ((L ++ [Pc.cp a m]).map pcD) := by rw [am, List.map_append]; rfl
 cases h : L.getLast? with
 | none =>
  have hn : L = [] := List.getLast?_eq_none_iff.mp h
  subst hn
  have e : addC [] a m = [.cp a m] := rfl
  rw [e]
  have am'' : appM [] [pcD (.cp a m)] = .ok [pcD (.cp a m)] := am'
  simp [g_add_copy, F_add_copy, am'']
 | some x =>
  obtain ⟨L0, rfl⟩ := List.getLast?_eq_some_iff.mp h
  have hix := atI_m1 (L0.map pcD) (pcD x)
  have hmp : (L0 ++ [x]).map pcD = L0.map pcD ++ [pcD x] := by rw [List.map_append]; rfl
  have hp : (0 : Int) < ((L0.map pcD ++ [pcD x]).length : Int) := by rw [List.length_append, List.length_singleton]; omega
  rw [hmp] at am' ⊢
  unfold addC
  rw [h]
  cases x with
  | sg w =>
   dsimp only
   have hg := goes_on_sc w (pcD (.cp a m))
   generalize ((L0 ++ [Pc.sg w]) ++ [Pc.cp a m]).map pcD = L2 at am' ⊢
   generalize L0.map pcD ++ [pcD (.sg w)] = L1 at hix hp am' ⊢
   generalize pcD (.cp a m) = pd at hg am' ⊢
   have hp' : 0 < L1.length := by omega
   simp [g_add_copy, F_add_copy, hp', hix, hg, am']
  | cp b k =>
   dsimp only
   have hg := goes_on_cc b k a m
   by_cases hbk : b + k = a
   ·rw [if_pos hbk]
    rw [decide_eq_true hbk] at hg
    have hs := setM_last (L0.map pcD) (pcD (.cp b k)) (pcD (.cp b (k + m)))
    have hd : (L0 ++ [Pc.cp b k]).dropLast ++ [.cp b (k + m)] = L0 ++ [.cp b (k + m)] := by rw [List.dropLast_concat]
    rw [hd, show (L0 ++ [Pc.cp b (k + m)]).map pcD = L0.map pcD ++ [pcD (.cp b (k + m))] by rw [List.map_append]; rfl]
    have hk : pcD (.cp b (k + m)) = .tup [.str "copy", .int b, .int ((k : Int) + (m : Int))] := by
     show D.tup [.str "copy", .int b, .int ((k + m : Nat) : Int)] = _
     rw [Int.natCast_add]
    rw [hk] at hs ⊢
    have i1 : idxR (pcD (.cp b k)) (.int 1) = .ok (.int b) := by simp [pcD]
    have i2 : idxR (pcD (.cp b k)) (.int 2) = .ok (.int k) := by simp [pcD]
    have i3 : idxR (pcD (.cp a m)) (.int 2) = .ok (.int m) := by simp [pcD]
    generalize L0.map pcD ++ [D.tup [.str "copy", .int b, .int ((k : Int) + (m : Int))]] = L2 at hs ⊢
    generalize L0.map pcD ++ [pcD (.cp b k)] = L1 at hix hp hs ⊢
    generalize pcD (.cp a m) = pd at hg i3 ⊢
    generalize pcD (.cp b k) = pb at hix hg i1 i2
    have hp' : 0 < L1.length := by omega
    simp [g_add_copy, F_add_copy, hp', hix, hg, i1, i2, i3, hs]
   ·rw [if_neg hbk]
    rw [decide_eq_false hbk] at hg
    generalize ((L0 ++ [Pc.cp b k]) ++ [Pc.cp a m]).map pcD = L2 at am' ⊢
    generalize L0.map pcD ++ [pcD (.cp b k)] = L1 at hix hp am' ⊢
    generalize pcD (.cp a m) = pd at hg am' ⊢
    have hp' : 0 < L1.length := by omega
    simp [g_add_copy, F_add_copy, hp', hix, hg, am']
theorem addS_len (L : List Pc) (T : List (List Nat)) : (addS L T).length ≤ L.length + 1 := by
 unfold addS
 split <;> simp
theorem addC_len (L : List Pc) (a m : Nat) : (addC L a m).length ≤ L.length + 1 := by
 unfold addC
 split
 ·split
  ·rw [List.length_append, List.length_dropLast, List.length_singleton]; omega
  ·simp
 ·simp
noncomputable def sgLen : Pc → Nat
 | .sg w => w.length
 | _ => 0
noncomputable def sgSum (ps : List Pc) : Nat := (ps.map sgLen).sum
theorem fold_len : ∀ (ps : List Pc) (s : List Pc × List (List Nat)), (ps.foldl stepJ s).1.length ≤ s.1.length + 2 * ps.length ∧ (ps.foldl stepJ s).2.flatten.length ≤ s.2.flatten.length + sgSum ps ∧ (ps.foldl stepJ s).2.length ≤ s.2.length + ps.length
 | [], s => ⟨Nat.le_refl _, Nat.le_refl _, Nat.le_refl _⟩
 | .sg w :: ps, s => by
  have h := fold_len ps (s.1, s.2 ++ [w])
  have e : (Pc.sg w :: ps).foldl stepJ s = ps.foldl stepJ (s.1, s.2 ++ [w]) := rfl
  have e2 : sgSum (Pc.sg w :: ps) = w.length + sgSum ps := by simp [sgSum, sgLen]
  rw [e, e2]
  dsimp only at h
  rw [List.flatten_append, List.length_append, List.length_append] at h
  simp only [List.flatten_cons, List.flatten_nil, List.append_nil, List.length_cons, List.length_nil] at h ⊢
  omega
 | .cp a m :: ps, s => by
  have h := fold_len ps (addC (addS s.1 s.2) a m, [])
  have e : (Pc.cp a m :: ps).foldl stepJ s = ps.foldl stepJ (addC (addS s.1 s.2) a m, []) := rfl
  have e2 : sgSum (Pc.cp a m :: ps) = sgSum ps := by simp [sgSum, sgLen]
  rw [e, e2]
  have h1 := addS_len s.1 s.2
  have h2 := addC_len (addS s.1 s.2) a m
  simp only [List.flatten_nil, List.length_nil, List.length_cons] at h ⊢
  omega
theorem fold_len0 (ps : List Pc) : (ps.foldl stepJ ([], [])).1.length ≤ 2 * ps.length ∧ (ps.foldl stepJ ([], [])).2.flatten.length ≤ sgSum ps ∧ (ps.foldl stepJ ([], [])).2.length ≤ ps.length := by
 have h := fold_len ps ([], [])
 simp only [List.flatten_nil, List.length_nil] at h
 omega
theorem joined_ok (ps : List Pc) (hl : ps.length ≤ 20000) (hs : sgSum ps ≤ 1000000) : g_joined [letD ps] = .ok (letD (joinedP ps)) := by
 have loop : ∃ δ', forO (tgN 3) L_joined_1 (ps.map pcD) [some (.v (letD ps)), some (.own []), some (.own []), none] = .nx δ' ∧
   ∃ x, δ' = [some (.v (letD ps)), some (.own ((ps.foldl stepJ ([], [])).1.map pcD)), some (.own (txtD (ps.foldl stepJ ([], [])).2)), x] := by
  refine for_map pcD (fun p δ => ∃ x, δ = [some (.v (letD ps)), some (.own ((p.foldl stepJ ([], [])).1.map pcD)), some (.own (txtD (p.foldl stepJ ([], [])).2)), x]) ⟨none, rfl⟩ ?_
  rintro x p q δ e ⟨y, rfl⟩
  have hb := fold_len0 p
  have hpl : p.length < ps.length := by rw [e]; simp
  have hps : sgSum p ≤ sgSum ps := by rw [e]; simp [sgSum]
  rw [List.foldl_append]
  generalize p.foldl stepJ ([], []) = s at hb ⊢
  obtain ⟨L, T⟩ := s
  dsimp only at hb ⊢
  cases x with
  | sg w =>
   have e0 := is_copy_sg w
   have i1 : idxR (pcD (.sg w)) (.int 1) = .ok (.str (strOf w)) := by simp [pcD]
   have am := s_appM (ds := txtD T) (d := .str (strOf w)) (by
    unfold txtD
    rw [List.length_map]
    omega)
   have el : txtD T ++ [.str (strOf w)] = txtD (T ++ [w]) := by unfold txtD; rw [List.map_append]; rfl
   rw [el] at am
   refine ⟨_, _, rfl, .inr (show _ = Out.ct [some (.v (letD ps)), some (.own (L.map pcD)), some (.own (txtD (T ++ [w]))), some (.v (pcD (.sg w)))] from ?_), _, rfl⟩
   generalize txtD (T ++ [w]) = T2 at am ⊢
   generalize txtD T = T1 at am ⊢
   generalize pcD (.sg w) = pd at e0 i1 ⊢
   simp [L_joined_1, e0, i1, am]
  | cp a m =>
   have e0 := is_copy_cp a m
   have e1 := add_signs_ok L T (by omega) (by omega)
   have hal := addS_len L T
   have e2 := add_copy_ok (addS L T) a m (by omega)
   refine ⟨_, _, rfl, .inl (show _ = Out.nx [some (.v (letD ps)), some (.own ((addC (addS L T) a m).map pcD)), some (.own []), some (.v (pcD (.cp a m)))] from ?_), _, rfl⟩
   generalize (addC (addS L T) a m).map pcD = L3 at e2 ⊢
   generalize (addS L T).map pcD = L2 at e1 e2
   generalize L.map pcD = L1 at e1 ⊢
   generalize txtD T = T1 at e1 ⊢
   generalize pcD (.cp a m) = pd at e0 e2 ⊢
   simp [L_joined_1, e0, e1, e2]
 obtain ⟨δ', eL, x, rfl⟩ := loop
 have hb := fold_len0 ps
 have e1 := add_signs_ok (ps.foldl stepJ ([], [])).1 (ps.foldl stepJ ([], [])).2 (by omega) (by omega)
 have hj : (addS (ps.foldl stepJ ([], [])).1 (ps.foldl stepJ ([], [])).2) = joinedP ps := rfl
 rw [hj] at e1
 generalize (ps.foldl stepJ ([], [])).1.map pcD = L1 at eL e1
 generalize txtD (ps.foldl stepJ ([], [])).2 = T1 at eL e1
 have hit : itR (letD ps) = .ok (ps.map pcD) := rfl
 have hL : letD (joinedP ps) = .lst ((joinedP ps).map pcD) := rfl
 rw [hL]
 generalize (joinedP ps).map pcD = L2 at e1 ⊢
 generalize letD ps = LD at eL hit ⊢
 generalize ps.map pcD = PD at eL hit
 simp [g_joined, F_joined, hit, eL, e1]
theorem plain_ok (ps : List Pc) (hl : ps.length ≤ 2000) (h : ∀ x ∈ ps, PcG x) (hs : sgSum ps ≤ 1000000) : g_plain [letD ps] = .ok (letD (joinedP ps)) := by
 have e1 := check_letter_ok hl h
 have e2 := joined_ok ps (by omega) hs
 simp [g_plain, F_plain, e1, e2]
inductive Mk where
 | s (c : Nat) | p (i : Nat)
noncomputable def mkD : Mk → D
 | .s c => .str (chr1 c)
 | .p i => .int i
noncomputable def marksOf : Pc → List Mk
 | .cp a m => (List.range m).map fun k => .p (a + k)
 | .sg w => w.map .s
noncomputable def marks (ps : List Pc) : List Mk := ps.flatMap marksOf
noncomputable def goesOn : Mk → Mk → Bool
 | .s _, .s _ => true
 | .p i, .p j => decide (j = i + 1)
 | _, _ => false
noncomputable def appL (gs : List (List Mk)) (x : Mk) : List (List Mk) := match gs.getLast? with
 | some l => gs.dropLast ++ [l ++ [x]]
 | none => gs ++ [[x]]
noncomputable def grp : Option Mk → List (List Mk) → List Mk → List (List Mk)
 | _, gs, [] => gs
 | none, gs, x :: r => grp (some x) (gs ++ [[x]]) r
 | some y, gs, x :: r => if goesOn y x = true then grp (some x) (appL gs x) r else grp (some x) (gs ++ [[x]]) r
noncomputable def lastMk (y : Option Mk) (xs : List Mk) : Option Mk := match xs.getLast? with
 | some x => some x
 | none => y
theorem lastMk_cons (y : Option Mk) (x : Mk) (r : List Mk) : lastMk y (x :: r) = lastMk (some x) r := by
 unfold lastMk
 cases r with
 | nil => rfl
 | cons a r =>
  rw [List.getLast?_cons_cons]
  cases h : (a :: r).getLast? with
  | none => simp at h
  | some z => rfl
theorem grp_append : ∀ (xs : List Mk) (y : Option Mk) (gs : List (List Mk)) (ys : List Mk), grp y gs (xs ++ ys) = grp (lastMk y xs) (grp y gs xs) ys
 | [], y, gs, ys => by
  show grp y gs ys = grp (lastMk y []) (grp y gs []) ys
  have : grp y gs [] = gs := by cases y <;> rfl
  rw [this]; rfl
 | x :: xs, none, gs, ys => by
  show grp (some x) (gs ++ [[x]]) (xs ++ ys) = _
  rw [grp_append xs, lastMk_cons]; rfl
 | x :: xs, some y, gs, ys => by
  rw [lastMk_cons]
  show (if goesOn y x = true then grp (some x) (appL gs x) (xs ++ ys) else grp (some x) (gs ++ [[x]]) (xs ++ ys)) = grp (lastMk (some x) xs) (if goesOn y x = true then grp (some x) (appL gs x) xs else grp (some x) (gs ++ [[x]]) xs) ys
  split
  ·exact grp_append xs _ _ _
  ·exact grp_append xs _ _ _
theorem appL_snoc (gs : List (List Mk)) (g : List Mk) (x : Mk) : appL (gs ++ [g]) x = gs ++ [g ++ [x]] := by
 unfold appL
 rw [List.getLast?_concat, List.dropLast_concat]
noncomputable def ChainM : Mk → List Mk → Prop
 | _, [] => True
 | y, x :: r => goesOn y x = true ∧ ChainM x r
theorem grp_run : ∀ (xs : List Mk) (y : Mk) (gs : List (List Mk)) (g : List Mk), ChainM y xs → grp (some y) (gs ++ [g]) xs = gs ++ [g ++ xs]
 | [], y, gs, g, _ => by rw [List.append_nil]; rfl
 | x :: xs, y, gs, g, h => by
  show (if goesOn y x = true then grp (some x) (appL (gs ++ [g]) x) xs else _) = _
  rw [if_pos h.1, appL_snoc, grp_run xs x gs (g ++ [x]) h.2, List.append_assoc]; rfl
theorem chain_s : ∀ (w : List Nat) (c : Nat), ChainM (.s c) (w.map .s)
 | [], _ => trivial
 | d :: w, c => ⟨rfl, chain_s w d⟩
theorem chain_p : ∀ (m a : Nat), ChainM (.p a) ((List.range m).map fun k => Mk.p (a + 1 + k))
 | 0, _ => trivial
 | m + 1, a => by
  rw [List.range_succ_eq_map, List.map_cons, List.map_map]
  refine ⟨by simp [goesOn], ?_⟩
  have := chain_p m (a + 1)
  have e : List.map ((fun k => Mk.p (a + 1 + k)) ∘ Nat.succ) (List.range m) = List.map (fun k => Mk.p (a + 1 + 1 + k)) (List.range m) := by
   apply List.map_congr_left
   intro k _
   simp only [Function.comp, Nat.succ_eq_add_one]
   congr 1
   omega
  rw [e]; exact this
theorem marks_cp (a m : Nat) : marksOf (.cp a (m + 1)) = .p a :: (List.range m).map fun k => Mk.p (a + 1 + k) := by
 show (List.range (m + 1)).map (fun k => Mk.p (a + k)) = _
 rw [List.range_succ_eq_map, List.map_cons, List.map_map]
 congr 1
 apply List.map_congr_left
 intro k _
 simp only [Function.comp, Nat.succ_eq_add_one]
 congr 1
 omega
theorem marks_cp_add (b k m : Nat) : marksOf (.cp b (k + m)) = marksOf (.cp b k) ++ marksOf (.cp (b + k) m) := by
 show (List.range (k + m)).map (fun j => Mk.p (b + j)) = (List.range k).map (fun j => Mk.p (b + j)) ++ (List.range m).map (fun j => Mk.p (b + k + j))
 rw [List.range_add, List.map_append, List.map_map]
 congr 1
 apply List.map_congr_left
 intro j _
 simp only [Function.comp]
 congr 1
 omega
theorem last_cp (b k : Nat) : (marksOf (.cp b (k + 1))).getLast? = some (.p (b + k)) := by
 show ((List.range (k + 1)).map (fun j => Mk.p (b + j))).getLast? = _
 rw [List.range_succ, List.map_append]
 simp
noncomputable def PcV : Pc → Prop
 | .cp _ m => 1 ≤ m
 | .sg w => w ≠ []
noncomputable def stG (s : List Pc × List (List Nat)) : List (List Mk) := (addS s.1 s.2).map marksOf
structure StI (s : List Pc × List (List Nat)) : Prop where
 t : ∀ w ∈ s.2, w ≠ []
 l : s.1 = [] ∨ ∃ L0 b k, s.1 = L0 ++ [.cp b (k + 1)]
theorem flat_ne {T : List (List Nat)} (h : ∀ w ∈ T, w ≠ []) (hT : T ≠ []) : T.flatten ≠ [] := by
 cases T with
 | nil => exact absurd rfl hT
 | cons w T =>
  intro e
  rw [List.flatten_cons] at e
  exact h w (List.mem_cons_self ..) (List.append_eq_nil_iff.mp e).1
noncomputable def stL (s : List Pc × List (List Nat)) : Option Mk := (stG s).flatten.getLast?
theorem stL_T {L : List Pc} {T : List (List Nat)} (h : ∀ w ∈ T, w ≠ []) (hT : T ≠ []) : ∃ c, stL (L, T) = some (.s c) := by
 have hf := flat_ne h hT
 unfold stL stG addS
 dsimp only
 rw [if_neg hT, List.map_append, List.flatten_append]
 obtain ⟨c, hc⟩ : ∃ c, T.flatten.getLast? = some c := by
  cases e : T.flatten.getLast? with
  | none => exact absurd (List.getLast?_eq_none_iff.mp e) hf
  | some c => exact ⟨c, rfl⟩
 obtain ⟨w0, hw⟩ := List.getLast?_eq_some_iff.mp hc
 refine ⟨c, ?_⟩
 simp only [List.map_cons, List.map_nil, List.flatten_cons, List.flatten_nil, List.append_nil]
 show (_ ++ T.flatten.map Mk.s).getLast? = _
 rw [hw, List.map_append, ← List.append_assoc]
 simp
theorem stL_L (L0 : List Pc) (b k : Nat) : stL (L0 ++ [.cp b (k + 1)], []) = some (.p (b + k)) := by
 unfold stL stG addS
 dsimp only
 rw [if_pos rfl, List.map_append, List.flatten_append]
 simp only [List.map_cons, List.map_nil, List.flatten_cons, List.flatten_nil, List.append_nil]
 rw [List.getLast?_append, last_cp]
 rfl
theorem step_grp {s : List Pc × List (List Nat)} (I : StI s) {x : Pc} (hx : PcV x) : grp (stL s) (stG s) (marksOf x) = stG (stepJ s x) ∧ StI (stepJ s x) := by
 obtain ⟨L, T⟩ := s
 obtain ⟨hT, hL⟩ := I
 dsimp only at hT hL
 cases x with
 | sg w =>
  have hw : w ≠ [] := hx
  obtain ⟨c, w', rfl⟩ := List.exists_cons_of_ne_nil hw
  refine ⟨?_, ⟨fun v hv => ?_, hL⟩⟩
  ·by_cases hTn : T = []
   ·subst hTn
    have e : stG (stepJ (L, []) (.sg (c :: w'))) = L.map marksOf ++ [(c :: w').map Mk.s] := by
     show (addS L ([] ++ [c :: w'])).map marksOf = _
     unfold addS
     rw [if_neg (by simp), List.map_append]
     simp [marksOf]
    rw [e]
    have e2 : stG (L, []) = L.map marksOf := rfl
    rw [e2]
    have hrun := grp_run (w'.map Mk.s) (.s c) (L.map marksOf) [.s c] (chain_s w' c)
    show grp (stL (L, [])) (L.map marksOf) (.s c :: w'.map Mk.s) = _
    rcases hL with rfl | ⟨L0, b, k, rfl⟩
    ·exact hrun
    ·rw [stL_L]
     show (if goesOn (.p (b + k)) (.s c) = true then _ else grp (some (.s c)) _ _) = _
     rw [if_neg (by simp [goesOn])]
     exact hrun
   ·obtain ⟨c0, hc0⟩ := stL_T (L := L) hT hTn
    rw [hc0]
    have e1 : stG (L, T) = L.map marksOf ++ [T.flatten.map Mk.s] := by
     unfold stG addS
     dsimp only
     rw [if_neg hTn, List.map_append]; rfl
    have e2 : stG (stepJ (L, T) (.sg (c :: w'))) = L.map marksOf ++ [T.flatten.map Mk.s ++ (c :: w').map Mk.s] := by
     show (addS L (T ++ [c :: w'])).map marksOf = _
     unfold addS
     rw [if_neg (by simp), List.map_append]
     simp [marksOf]
    rw [e1, e2]
    exact grp_run ((c :: w').map Mk.s) (.s c0) _ _ ⟨rfl, chain_s w' c⟩
  ·rcases List.mem_append.mp hv with h | h
   ·exact hT v h
   ·rw [List.mem_singleton.mp h]; exact hw
 | cp a m =>
  have hm : 1 ≤ m := hx
  obtain ⟨m', rfl⟩ : ∃ m', m = m' + 1 := ⟨m - 1, by omega⟩
  have hrun : ∀ gs : List (List Mk), grp (some (.p a)) (gs ++ [[.p a]]) ((List.range m').map fun k => Mk.p (a + 1 + k)) = gs ++ [marksOf (.cp a (m' + 1))] := fun gs => by
   rw [grp_run _ _ _ _ (chain_p m' a), marks_cp]; rfl
  have hSt : stG (stepJ (L, T) (.cp a (m' + 1))) = (addC (addS L T) a (m' + 1)).map marksOf := rfl
  rw [hSt, marks_cp]
  by_cases hTn : T = []
  ·subst hTn
   have eA : addS L [] = L := rfl
   have e2 : stG (L, []) = L.map marksOf := rfl
   rw [e2, eA]
   rcases hL with rfl | ⟨L0, b, k, rfl⟩
   ·refine ⟨?_, ⟨fun v hv => (by simp [stepJ] at hv), .inr ⟨[], a, m', rfl⟩⟩⟩
    show grp none _ _ = _
    exact hrun []
   ·have hC : addC (L0 ++ [.cp b (k + 1)]) a (m' + 1) = if b + (k + 1) = a then L0 ++ [.cp b (k + 1 + (m' + 1))] else L0 ++ [.cp b (k + 1)] ++ [.cp a (m' + 1)] := by
     unfold addC
     rw [List.getLast?_concat]
     dsimp only
     rw [List.dropLast_concat]
    rw [stL_L]
    show (if goesOn (.p (b + k)) (.p a) = true then grp (some (.p a)) (appL _ _) _ else grp (some (.p a)) _ _) = _ ∧ _
    by_cases hba : b + (k + 1) = a
    ·rw [if_pos (by simp [goesOn]; omega), hC, if_pos hba]
     refine ⟨?_, ⟨fun v hv => (by simp [stepJ] at hv), ?_⟩⟩
     ·rw [List.map_append, List.map_append]
      simp only [List.map_cons, List.map_nil]
      rw [appL_snoc, grp_run _ _ _ _ (chain_p m' a), marks_cp_add b (k + 1) (m' + 1), hba, marks_cp a m']
      simp
     ·refine .inr ⟨L0, b, k + (m' + 1), ?_⟩
      show addC (addS (L0 ++ [.cp b (k + 1)]) []) a (m' + 1) = _
      rw [show addS (L0 ++ [Pc.cp b (k + 1)]) [] = L0 ++ [.cp b (k + 1)] from rfl, hC, if_pos hba]
      congr 2
      congr 1
      omega
    ·rw [if_neg (by simp [goesOn]; omega), hC, if_neg hba]
     refine ⟨?_, ⟨fun v hv => (by simp [stepJ] at hv), ?_⟩⟩
     ·rw [hrun, List.map_append (l₁ := L0 ++ [Pc.cp b (k + 1)])]; rfl
     ·refine .inr ⟨L0 ++ [.cp b (k + 1)], a, m', ?_⟩
      show addC (addS (L0 ++ [.cp b (k + 1)]) []) a (m' + 1) = _
      rw [show addS (L0 ++ [Pc.cp b (k + 1)]) [] = L0 ++ [.cp b (k + 1)] from rfl, hC, if_neg hba]
  ·obtain ⟨c0, hc0⟩ := stL_T (L := L) hT hTn
   have eA : addS L T = L ++ [.sg T.flatten] := if_neg hTn
   have hC : addC (L ++ [.sg T.flatten]) a (m' + 1) = L ++ [.sg T.flatten] ++ [.cp a (m' + 1)] := by
    unfold addC
    rw [List.getLast?_concat]
   have e1 : stG (L, T) = (L ++ [Pc.sg T.flatten]).map marksOf := by unfold stG; rw [eA]
   rw [hc0, e1, eA, hC]
   refine ⟨?_, ⟨fun v hv => (by simp [stepJ] at hv), .inr ⟨L ++ [.sg T.flatten], a, m', ?_⟩⟩⟩
   ·show (if goesOn (.s c0) (.p a) = true then _ else grp (some (.p a)) _ _) = _
    rw [if_neg (by simp [goesOn]), hrun, List.map_append (l₁ := L ++ [Pc.sg T.flatten])]; rfl
   ·show addC (addS L T) a (m' + 1) = _
    rw [eA, hC]
theorem lastMk_stL {s : List Pc × List (List Nat)} (I : StI s) {x : Pc} (hx : PcV x) : lastMk (stL s) (marksOf x) = stL (stepJ s x) := by
 have h1 : (marksOf x).getLast? ≠ none := by
  intro e
  have := List.getLast?_eq_none_iff.mp e
  cases x with
  | cp a m =>
   have hm : 1 ≤ m := hx
   obtain ⟨m', rfl⟩ : ∃ m', m = m' + 1 := ⟨m - 1, by omega⟩
   rw [marks_cp] at this; cases this
  | sg w => exact hx (List.map_eq_nil_iff.mp this)
 obtain ⟨h2, h3⟩ := step_grp I hx
 have hfl : ∀ (xs : List Mk) (y : Option Mk) (gs : List (List Mk)), (grp y gs xs).flatten = gs.flatten ++ xs := by
  intro xs
  induction xs with
  | nil => intro y gs; cases y <;> (show gs.flatten = _; rw [List.append_nil])
  | cons x xs ih =>
   intro y gs
   have ea : (appL gs x).flatten = gs.flatten ++ [x] := by
    unfold appL
    cases e : gs.getLast? with
    | none => simp
    | some l =>
     obtain ⟨g0, rfl⟩ := List.getLast?_eq_some_iff.mp e
     simp
   cases y with
   | none =>
    show (grp (some x) (gs ++ [[x]]) xs).flatten = _
    rw [ih]; simp
   | some y =>
    show (if goesOn y x = true then grp (some x) (appL gs x) xs else grp (some x) (gs ++ [[x]]) xs).flatten = _
    split
    ·rw [ih, ea]; simp
    ·rw [ih]; simp
 have h4 : (stG (stepJ s x)).flatten = (stG s).flatten ++ marksOf x := by rw [← h2, hfl]
 unfold stL
 rw [h4, List.getLast?_append]
 unfold lastMk
 cases e : (marksOf x).getLast? with
 | none => exact absurd e h1
 | some z => rfl
theorem grp_flat (xs : List Mk) : ∀ (y : Option Mk) (gs : List (List Mk)), (grp y gs xs).flatten = gs.flatten ++ xs := by
 induction xs with
 | nil => intro y gs; cases y <;> (show gs.flatten = _; rw [List.append_nil])
 | cons x xs ih =>
  intro y gs
  have ea : (appL gs x).flatten = gs.flatten ++ [x] := by
   unfold appL
   cases e : gs.getLast? with
   | none => simp
   | some l =>
    obtain ⟨g0, rfl⟩ := List.getLast?_eq_some_iff.mp e
    simp
  cases y with
  | none =>
   show (grp (some x) (gs ++ [[x]]) xs).flatten = _
   rw [ih]; simp
  | some y =>
   show (if goesOn y x = true then grp (some x) (appL gs x) xs else grp (some x) (gs ++ [[x]]) xs).flatten = _
   split
   ·rw [ih, ea]; simp
   ·rw [ih]; simp
theorem groups_fold : ∀ (ps : List Pc) (s : List Pc × List (List Nat)), StI s → (∀ x ∈ ps, PcV x) → grp (stL s) (stG s) (marks ps) = stG (ps.foldl stepJ s) ∧ StI (ps.foldl stepJ s)
 | [], s, I, _ => ⟨by show grp _ _ [] = _; cases stL s <;> rfl, I⟩
 | x :: ps, s, I, h => by
  have hx := h x (List.mem_cons_self ..)
  obtain ⟨h1, h2⟩ := step_grp I hx
  have ih := groups_fold ps (stepJ s x) h2 fun y hy => h y (List.mem_cons_of_mem _ hy)
  have e : marks (x :: ps) = marksOf x ++ marks ps := by simp [marks]
  rw [e, grp_append, lastMk_stL I hx, h1]
  exact ih
theorem groups_joined {ps : List Pc} (h : ∀ x ∈ ps, PcV x) : grp none [] (marks ps) = (joinedP ps).map marksOf :=
 (groups_fold ps ([], []) ⟨fun w hw => (by simp at hw), .inl rfl⟩ h).1
theorem marks_joined {ps : List Pc} (h : ∀ x ∈ ps, PcV x) : marks (joinedP ps) = marks ps := by
 have := grp_flat (marks ps) none []
 rw [groups_joined h] at this
 simpa [marks, List.flatMap] using this
theorem law_goes_on_ok (x y : Mk) : g__law_goes_on [mkD x, mkD y] = .ok (.bl (goesOn x y)) := by
 have i1 : isiN "int" "str" = false := by decide
 cases x with
 | s c => cases y with
  | s d => simp [g__law_goes_on, F__law_goes_on, mkD, goesOn]
  | p j => simp [g__law_goes_on, F__law_goes_on, mkD, goesOn, i1]
 | p i => cases y with
  | s d => simp [g__law_goes_on, F__law_goes_on, mkD, goesOn, i1]
  | p j =>
   have e : ((j : Int) == (i : Int) + 1) = decide (j = i + 1) := by
    by_cases h : j = i + 1
    ·rw [decide_eq_true h]; simp; omega
    ·rw [decide_eq_false h]; simp; omega
   simp [g__law_goes_on, F__law_goes_on, mkD, goesOn, i1, e]
theorem appLast_ok {gs : List (List Mk)} {x : Mk} (hne : gs ≠ []) (hl : ∀ g ∈ gs, g.length ≤ 100000) : appLast (gs.map fun g => g.map mkD) (mkD x) = some ((appL gs x).map fun g => g.map mkD) := by
 obtain ⟨g, hg⟩ : ∃ g, gs.getLast? = some g := by
  cases e : gs.getLast? with
  | none => exact absurd (List.getLast?_eq_none_iff.mp e) hne
  | some g => exact ⟨g, rfl⟩
 obtain ⟨g0, rfl⟩ := List.getLast?_eq_some_iff.mp hg
 have hgl := hl g (by simp)
 rw [appL_snoc]
 unfold appLast
 rw [List.map_append, List.map_cons, List.map_nil, List.getLast?_concat]
 dsimp only
 rw [if_pos (by rw [List.length_map]; omega), List.dropLast_concat]
 simp
theorem grpO_ok (row : List Mk) (hrow : row.length ≤ 100000) : ∀ (suf pre : List Mk) (gs : List (List Mk)) (x0 : Option Sl), row = pre ++ suf → gs.length ≤ pre.length → (∀ g ∈ gs, g.length ≤ pre.length) → (pre ≠ [] → gs ≠ []) →
  ∃ x, grpO 2 (andT (cmpT gtR (varD 2) (cD (.int 0))) (valT (appF g__law_goes_on (aC (bin2 idxR (varD 0) (bin2 subR (varD 2) (cD (.int 1)))) (aC (bin2 idxR (varD 0) (varD 2)) a0))))) (bin2 idxR (varD 0) (varD 2))
   ((List.range' pre.length suf.length).map fun k : Nat => D.int (0 + (k : Int))) [some (.v (.lst (row.map mkD))), none, x0, none, none] (gs.map fun g => g.map mkD) =
   .ok ([some (.v (.lst (row.map mkD))), none, x, none, none], (grp pre.getLast? gs suf).map fun g => g.map mkD)
 | [], pre, gs, x0, _, _, _, _ => ⟨x0, by
   show Rs.ok _ = _
   have : grp pre.getLast? gs [] = gs := by cases pre.getLast? <;> rfl
   rw [this]⟩
 | y :: suf, pre, gs, x0, he, h1, h2, h3 => by
  have hpl : pre.length < 100000 := by rw [he] at hrow; simp at hrow; omega
  have hi : idxR (.lst (row.map mkD)) (.int (pre.length : Int)) = .ok (mkD y) := ix_lst (by rw [he]; simp)
  have efe : (bin2 idxR (varD 0) (varD 2)) [some (.v (.lst (row.map mkD))), none, some (.v (.int (0 + (pre.length : Int)))), none, none] = .ok (mkD y) := by
   generalize row.map mkD = R at hi ⊢
   simp [hi]
  have hnext : ∀ (gs' : List (List Mk)), gs'.length ≤ gs.length + 1 → (∀ g ∈ gs', g.length ≤ pre.length + 1) → gs' ≠ [] → ∃ x, grpO 2 (andT (cmpT gtR (varD 2) (cD (.int 0))) (valT (appF g__law_goes_on (aC (bin2 idxR (varD 0) (bin2 subR (varD 2) (cD (.int 1)))) (aC (bin2 idxR (varD 0) (varD 2)) a0))))) (bin2 idxR (varD 0) (varD 2))
   ((List.range' (pre.length + 1) suf.length).map fun k : Nat => D.int (0 + (k : Int))) [some (.v (.lst (row.map mkD))), none, some (.v (.int (0 + (pre.length : Int)))), none, none] (gs'.map fun g => g.map mkD) =
   .ok ([some (.v (.lst (row.map mkD))), none, x, none, none], (grp (some y) gs' suf).map fun g => g.map mkD) := fun gs' a1 a2 a3 => by
   have := grpO_ok row hrow suf (pre ++ [y]) gs' (some (.v (.int (0 + (pre.length : Int))))) (by rw [he]; simp) (by rw [List.length_append, List.length_singleton]; omega) (fun g hg => by rw [List.length_append, List.length_singleton]; exact a2 g hg) fun _ => a3
   rw [List.length_append, List.length_singleton, List.getLast?_concat] at this
   exact this
  have hpush : ∃ x, grpO 2 (andT (cmpT gtR (varD 2) (cD (.int 0))) (valT (appF g__law_goes_on (aC (bin2 idxR (varD 0) (bin2 subR (varD 2) (cD (.int 1)))) (aC (bin2 idxR (varD 0) (varD 2)) a0))))) (bin2 idxR (varD 0) (varD 2))
   ((List.range' (pre.length + 1) suf.length).map fun k : Nat => D.int (0 + (k : Int))) [some (.v (.lst (row.map mkD))), none, some (.v (.int (0 + (pre.length : Int)))), none, none] ((gs.map fun g => g.map mkD) ++ [[mkD y]]) =
   .ok ([some (.v (.lst (row.map mkD))), none, x, none, none], (grp (some y) (gs ++ [[y]]) suf).map fun g => g.map mkD) := by
   have := hnext (gs ++ [[y]]) (by simp) (fun g hg => by
    rcases List.mem_append.mp hg with z | z
    ·have := h2 g z; omega
    ·rw [List.mem_singleton.mp z]; simp) (by simp)
   rw [List.map_append] at this
   exact this
  rw [List.length_cons, List.range'_succ, List.map_cons]
  unfold grpO
  have hsetx : List.set [some (Sl.v (.lst (row.map mkD))), none, x0, none, none] 2 (some (.v (.int (0 + (pre.length : Int))))) = [some (.v (.lst (row.map mkD))), none, some (.v (.int (0 + (pre.length : Int)))), none, none] := rfl
  rw [hsetx]
  cases hp : pre.getLast? with
  | none =>
   have hpn : pre = [] := List.getLast?_eq_none_iff.mp hp
   have egt : (andT (cmpT gtR (varD 2) (cD (.int 0))) (valT (appF g__law_goes_on (aC (bin2 idxR (varD 0) (bin2 subR (varD 2) (cD (.int 1)))) (aC (bin2 idxR (varD 0) (varD 2)) a0))))) [some (.v (.lst (row.map mkD))), none, some (.v (.int (0 + (pre.length : Int)))), none, none] = .ok false := by
    rw [hpn]; simp
   rw [egt]
   dsimp only
   rw [efe]
   dsimp only
   rw [if_pos (by rw [List.length_map]; omega)]
   exact hpush
  | some z =>
   obtain ⟨pre0, rfl⟩ := List.getLast?_eq_some_iff.mp hp
   have hi2 : idxR (.lst (row.map mkD)) (.int (((pre0 ++ [z]).length : Int) - 1)) = .ok (mkD z) := by
    have : (((pre0 ++ [z]).length : Int) - 1) = ((pre0.length : Nat) : Int) := by rw [List.length_append, List.length_singleton]; omega
    rw [this]
    exact ix_lst (by rw [he]; simp)
   have hg := law_goes_on_ok z y
   have hgt : (0 : Int) < ((pre0 ++ [z]).length : Int) := by rw [List.length_append, List.length_singleton]; omega
   have egt : (andT (cmpT gtR (varD 2) (cD (.int 0))) (valT (appF g__law_goes_on (aC (bin2 idxR (varD 0) (bin2 subR (varD 2) (cD (.int 1)))) (aC (bin2 idxR (varD 0) (varD 2)) a0))))) [some (.v (.lst (row.map mkD))), none, some (.v (.int (0 + ((pre0 ++ [z]).length : Int)))), none, none] = .ok (goesOn z y) := by
    generalize row.map mkD = R at hi hi2 ⊢
    generalize ((pre0 ++ [z]).length : Int) = PL at hi hi2 hgt ⊢
    simp [hi, hi2, hg, hgt]
   rw [egt]
   show ∃ x, _ = Rs.ok (_, (if goesOn z y = true then grp (some y) (appL gs y) suf else grp (some y) (gs ++ [[y]]) suf).map fun g => g.map mkD)
   cases hgo : goesOn z y with
   | true =>
    dsimp only
    rw [efe]
    dsimp only
    have hne := h3 (by simp)
    rw [appLast_ok hne (fun g hg => by have := h2 g hg; omega)]
    dsimp only
    rw [if_pos rfl]
    refine hnext (appL gs y) ?_ ?_ ?_
    ·obtain ⟨g, hg⟩ : ∃ g, gs.getLast? = some g := by
      cases e : gs.getLast? with
      | none => exact absurd (List.getLast?_eq_none_iff.mp e) hne
      | some g => exact ⟨g, rfl⟩
     obtain ⟨g0, rfl⟩ := List.getLast?_eq_some_iff.mp hg
     rw [appL_snoc]; simp
    ·intro g' hg'
     obtain ⟨g, hg⟩ : ∃ g, gs.getLast? = some g := by
      cases e : gs.getLast? with
      | none => exact absurd (List.getLast?_eq_none_iff.mp e) hne
      | some g => exact ⟨g, rfl⟩
     obtain ⟨g0, rfl⟩ := List.getLast?_eq_some_iff.mp hg
     rw [appL_snoc] at hg'
     rcases List.mem_append.mp hg' with w | w
     ·have := h2 g' (List.mem_append_left _ w); omega
     ·rw [List.mem_singleton.mp w]
      have := h2 g (by simp)
      rw [List.length_append, List.length_singleton]; omega
    ·unfold appL
     split <;> simp
   | false =>
    dsimp only
    rw [efe]
    dsimp only
    rw [if_pos (by rw [List.length_map]; omega)]
    simpa using hpush
theorem mem_le_sum {l : List Nat} {x : Nat} (h : x ∈ l) : x ≤ l.sum := by
 induction l with
 | nil => simp at h
 | cons a l ih =>
  rw [List.sum_cons]
  rcases List.mem_cons.mp h with z | z
  ·omega
  ·have := ih z; omega
theorem sum_ones {α : Type} (l : List α) : (l.map fun _ => 1).sum = l.length := by
 induction l with
 | nil => rfl
 | cons a l ih => rw [List.map_cons, List.sum_cons, ih, List.length_cons]; omega
noncomputable def mkDs (x : Pc) : List D := (marksOf x).map mkD
theorem mkDs_sg (w : List Nat) : mkDs (.sg w) = w.map fun c => D.str (chr1 c) := by
 unfold mkDs
 show (w.map Mk.s).map mkD = _
 rw [List.map_map]; rfl
theorem catS_chr (w : List Nat) : catS (w.map chr1) = strOf w := by
 unfold catS strOf
 rw [List.map_map]
 congr 1
 induction w with
 | nil => rfl
 | cons c w ih =>
  simp only [List.map_cons, List.flatten_cons, Function.comp] at ih ⊢
  have : (chr1 c).cps.toList = [c] := rfl
  rw [this]
  have ih' := congrArg Array.toList ih
  simp at ih'
  simp
  exact ih'
theorem grpS_ok {k g : Nat} {f : FA} {gt : FT} {fe : FE} {δ : DS} {ds : List D} {r : DS × List (List D)} (h1 : f δ = .ok ds) (h2 : δ[g]? = some (some (.own []))) (h3 : noOwn (δ.set g none) = true) (h4 : grpO k gt fe ds (δ.set g none) [] = .ok r) :
  grpS k g f gt fe δ = .nx (r.1.set g (some (.v (.lst (r.2.map D.lst))))) := by
 unfold grpS
 rw [h1]
 dsimp only
 rw [h2]
 dsimp only
 rw [if_pos h3, h4]
theorem of_marks_ok (row : List Mk) (qs : List Pc) (hrow : row.length ≤ 100000) (hq : ∀ x ∈ qs, PcV x) (hg : grp none [] row = qs.map marksOf) :
  g__law_of_marks [.lst (row.map mkD)] = .ok (letD qs) := by
 have r1 := rng1_ok (j := (row.length : Int)) (by omega)
 rw [Int.toNat_natCast] at r1
 obtain ⟨x, hgo⟩ := grpO_ok row hrow row [] [] none rfl (Nat.le_refl _) (fun g hg => (by simp at hg)) fun h => absurd rfl h
 have hr : rngD 0 row.length = (List.range' ([] : List Mk).length row.length).map fun k : Nat => D.int (0 + (k : Int)) := by
  unfold rngD
  rw [List.range_eq_range']; rfl
 rw [← hr] at hgo
 have hg' : grp ([] : List Mk).getLast? [] row = qs.map marksOf := hg
 rw [hg', List.map_map] at hgo
 have hmm : qs.map ((fun g : List Mk => g.map mkD) ∘ marksOf) = qs.map mkDs := rfl
 rw [hmm] at hgo
 have hql : qs.length ≤ row.length := by
  have := grp_flat row none []
  rw [hg] at this
  have h2 := congrArg List.length this
  simp only [List.flatten_nil, List.nil_append, List.length_flatten] at h2
  have h3 : ∀ (qs : List Pc), (∀ x ∈ qs, PcV x) → qs.length ≤ ((qs.map marksOf).map List.length).sum := by
   intro qs
   induction qs with
   | nil => intro _; simp
   | cons x qs ih =>
    intro h
    have := ih fun y hy => h y (List.mem_cons_of_mem _ hy)
    have hx := h x (List.mem_cons_self ..)
    have h4 : 1 ≤ (marksOf x).length := by
     cases x with
     | cp a m => show 1 ≤ ((List.range m).map _).length; rw [List.length_map, List.length_range]; exact hx
     | sg w => show 1 ≤ (w.map Mk.s).length; rw [List.length_map]; exact List.length_pos_iff.mpr hx
    simp only [List.map_cons, List.sum_cons, List.length_cons]
    omega
  have := h3 qs hq
  omega
 have loop : ∃ δ', forO (tgN 4) L__law_of_marks_1 (qs.map fun q => D.lst (mkDs q)) [some (.v (.lst (row.map mkD))), some (.v (.lst ((qs.map mkDs).map D.lst))), x, some (.own []), none] = .nx δ' ∧
   ∃ y, δ' = [some (.v (.lst (row.map mkD))), some (.v (.lst ((qs.map mkDs).map D.lst))), x, some (.own (qs.map pcD)), y] := by
  refine for_map (fun q => D.lst (mkDs q)) (fun p δ => ∃ y, δ = [some (.v (.lst (row.map mkD))), some (.v (.lst ((qs.map mkDs).map D.lst))), x, some (.own (p.map pcD)), y]) ⟨none, rfl⟩ ?_
  rintro q p r δ e ⟨y, rfl⟩
  have hq' := hq q (by rw [e]; simp)
  have hpl : p.length < qs.length := by rw [e]; simp
  have am := s_appM (ds := p.map pcD) (d := pcD q) (by rw [List.length_map]; omega)
  rw [show p.map pcD ++ [pcD q] = (p ++ [q]).map pcD by rw [List.map_append]; rfl] at am
  generalize hR : D.lst (row.map mkD) = RD
  generalize hS : D.lst ((qs.map mkDs).map D.lst) = SD
  refine ⟨_, _, rfl, .inl (show _ = Out.nx [some (.v RD), some (.v SD), x, some (.own ((p ++ [q]).map pcD)), some (.v (.lst (mkDs q)))] from ?_), _, rfl⟩
  generalize (p ++ [q]).map pcD = L2 at am ⊢
  generalize p.map pcD = L1 at am ⊢
  cases q with
  | sg w =>
   obtain ⟨c, w', rfl⟩ := List.exists_cons_of_ne_nil (show w ≠ [] from hq')
   have h0 : idxR (.lst (mkDs (.sg (c :: w')))) (.int 0) = .ok (.str (chr1 c)) := ix_lst (i := 0) (by rw [mkDs_sg]; rfl)
   have hw : (c :: w').length ≤ 100000 := by
    have hm : marksOf (.sg (c :: w')) ∈ qs.map marksOf := List.mem_map_of_mem (by rw [e]; simp)
    have h5 := grp_flat row none []
    rw [hg] at h5
    simp only [List.flatten_nil, List.nil_append] at h5
    have h6 : (marksOf (.sg (c :: w'))).length ≤ (qs.map marksOf).flatten.length := by
     rw [List.length_flatten]
     exact mem_le_sum (List.mem_map_of_mem hm)
    rw [h5] at h6
    have h7 : (marksOf (.sg (c :: w'))).length = (c :: w').length := List.length_map ..
    omega
   have hj := s_join (xs := c :: w') (f := chr1) (by
    rw [List.map_map]
    have e : (c :: w').map ((fun x : Str => x.length) ∘ chr1) = (c :: w').map fun _ => 1 := rfl
    rw [e, sum_ones]
    omega)
   rw [catS_chr] at hj
   have hj : joinR (Str.ofString "") [.lst (mkDs (.sg (c :: w')))] = .ok (.str (strOf (c :: w'))) := by rw [mkDs_sg]; exact hj
   have am : appM L1 [.tup [.str "signs", .str (strOf (c :: w'))]] = .ok L2 := am
   generalize mkDs (.sg (c :: w')) = MD at h0 hj ⊢
   generalize strOf (c :: w') = SS at hj am
   simp [L__law_of_marks_1, h0, hj, am]
  | cp a m =>
   have hm : 1 ≤ m := hq'
   obtain ⟨m', rfl⟩ : ∃ m', m = m' + 1 := ⟨m - 1, by omega⟩
   have h0 : idxR (.lst (mkDs (.cp a (m' + 1)))) (.int 0) = .ok (.int a) := ix_lst (i := 0) (by unfold mkDs; rw [marks_cp]; rfl)
   have hl : (mkDs (.cp a (m' + 1))).length = m' + 1 := by
    unfold mkDs
    rw [List.length_map]
    show ((List.range (m' + 1)).map _).length = _
    rw [List.length_map, List.length_range]
   have i1 : isiN "int" "str" = false := by decide
   have am : appM L1 [.tup [.str "copy", .int a, .int ((m' + 1 : Nat) : Int)]] = .ok L2 := am
   generalize mkDs (.cp a (m' + 1)) = MD at h0 hl ⊢
   have am2 : appM L1 [.tup [.str "copy", .int a, .int (MD.length : Int)]] = .ok L2 := by rw [hl]; exact am
   simp [L__law_of_marks_1, h0, am2, i1]
 obtain ⟨δ', eL, y, rfl⟩ := loop
 have hit : itR (.lst ((qs.map mkDs).map D.lst)) = .ok (qs.map fun q => D.lst (mkDs q)) := by
  rw [List.map_map]; rfl
 have hlen : (row.map mkD).length = row.length := List.length_map ..
 have hL : letD qs = .lst (qs.map pcD) := rfl
 rw [hL]
 generalize qs.map pcD = QD at eL ⊢
 generalize (qs.map fun q => D.lst (mkDs q)) = QM at eL hit
 generalize row.map mkD = RD at hgo eL hlen ⊢
 rw [← hlen] at r1 hgo
 have hgS : grpS 2 1 (rng1 (aC (appF lenR (aC (varD 0) a0)) a0)) (andT (cmpT gtR (varD 2) (cD (.int 0))) (valT (appF g__law_goes_on (aC (bin2 idxR (varD 0) (bin2 subR (varD 2) (cD (.int 1)))) (aC (bin2 idxR (varD 0) (varD 2)) a0))))) (bin2 idxR (varD 0) (varD 2)) [some (.v (.lst RD)), some (.own []), none, none, none] =
   .nx [some (.v (.lst RD)), some (.v (.lst ((qs.map mkDs).map D.lst))), x, none, none] := by
  have ef : rng1 (aC (appF lenR (aC (varD 0) a0)) a0) [some (.v (.lst RD)), some (.own []), none, none, none] = .ok (rngD 0 RD.length) := by simp [r1]
  have hset : List.set [some (Sl.v (.lst RD)), some (.own []), none, none, none] 1 none = [some (.v (.lst RD)), none, none, none, none] := rfl
  have hgo' := hgo
  rw [show (List.map (fun g : List Mk => g.map mkD) []) = ([] : List (List D)) from rfl, ← hset] at hgo'
  exact grpS_ok ef rfl (by rw [hset]; rfl) hgo'
 simp only [g__law_of_marks, s_fn1]
 unfold F__law_of_marks
 generalize (qs.map mkDs).map D.lst = QL at eL hit hgS
 generalize hGT : (grpS 2 1 (rng1 (aC (appF lenR (aC (varD 0) a0)) a0)) (andT (cmpT gtR (varD 2) (cD (.int 0))) (valT (appF g__law_goes_on (aC (bin2 idxR (varD 0) (bin2 subR (varD 2) (cD (.int 1)))) (aC (bin2 idxR (varD 0) (varD 2)) a0))))) (bin2 idxR (varD 0) (varD 2))) = GS at hgS ⊢
 simp [hGT, hgS, hit, eL]
theorem law_marks_ok (ps : List Pc) (hl : (marks ps).length ≤ 100000) (hb : ∀ x ∈ ps, match x with | .cp a m => a + m ≤ 1000000 | .sg _ => True) : g__law_marks [letD ps] = .ok (.lst ((marks ps).map mkD)) := by
 have loop : ∃ δ', forO (tgN 2) L__law_marks_1 (ps.map pcD) [some (.v (letD ps)), some (.own []), none] = .nx δ' ∧
   ∃ y, δ' = [some (.v (letD ps)), some (.own ((marks ps).map mkD)), y] := by
  refine for_map pcD (fun p δ => ∃ y, δ = [some (.v (letD ps)), some (.own ((marks p).map mkD)), y]) ⟨none, rfl⟩ ?_
  rintro q p r δ e ⟨y, rfl⟩
  have hbq := hb q (by rw [e]; simp)
  have hmk : marks (p ++ [q]) = marks p ++ marksOf q := by simp [marks]
  have hml : (marks p).length + (marksOf q).length ≤ 100000 := by
   have : (marks ps).length = (marks p).length + (marksOf q).length + (marks r).length := by rw [e]; simp [marks]; omega
   omega
  have ex := s_extM (ds := (marks p).map mkD) (es := mkDs q) (by unfold mkDs; rw [List.length_map, List.length_map]; omega)
  rw [show (marks p).map mkD ++ mkDs q = (marks (p ++ [q])).map mkD by rw [hmk, List.map_append]; rfl] at ex
  generalize hLD : letD ps = LD
  refine ⟨_, _, rfl, .inl (show _ = Out.nx [some (.v LD), some (.own ((marks (p ++ [q])).map mkD)), some (.v (pcD q))] from ?_), _, rfl⟩
  generalize (marks (p ++ [q])).map mkD = L2 at ex ⊢
  generalize (marks p).map mkD = L1 at ex ⊢
  cases q with
  | sg w =>
   have i0 : idxR (pcD (.sg w)) (.int 0) = .ok (.str "signs") := by simp [pcD]
   have i1 : idxR (pcD (.sg w)) (.int 1) = .ok (.str (strOf w)) := by simp [pcD]
   have hs : signsD (strOf w) = mkDs (.sg w) := by rw [mkDs_sg]; unfold signsD; rw [codes_strOf]
   generalize pcD (.sg w) = pd at i0 i1 ⊢
   simp [L__law_marks_1, i0, i1, hs, ex]
  | cp a m =>
   have i0 : idxR (pcD (.cp a m)) (.int 0) = .ok (.str "copy") := by simp [pcD]
   have i1 : idxR (pcD (.cp a m)) (.int 1) = .ok (.int a) := by simp [pcD]
   have i2 : idxR (pcD (.cp a m)) (.int 2) = .ok (.int m) := by simp [pcD]
   have hbq : a + m ≤ 1000000 := hbq
   have hr := lrng_ok (i := (a : Int)) (j := (a : Int) + (m : Int)) (by omega) (by omega) (by omega)
   have hrd : rngD (a : Int) ((a : Int) + (m : Int) - (a : Int)).toNat = mkDs (.cp a m) := by
    rw [show ((a : Int) + (m : Int) - (a : Int)).toNat = m by omega]
    unfold rngD mkDs
    show _ = ((List.range m).map _).map mkD
    rw [List.map_map]
    apply List.map_congr_left
    intro k _
    show D.int _ = D.int _
    congr 1
   rw [hrd] at hr
   generalize pcD (.cp a m) = pd at i0 i1 i2 ⊢
   simp [L__law_marks_1, i0, i1, i2, hr, ex, ne_cs]
 obtain ⟨δ', eL, y, rfl⟩ := loop
 have hit : itR (letD ps) = .ok (ps.map pcD) := rfl
 generalize (marks ps).map mkD = MD at eL ⊢
 generalize letD ps = LD at eL hit ⊢
 generalize ps.map pcD = PD at eL hit
 simp [g__law_marks, F__law_marks, hit, eL]
noncomputable def madeP (cs : List Nat) : Pc → List Nat
 | .cp a m => (cs.drop a).take m
 | .sg w => w
noncomputable def PcIn (n : Nat) : Pc → Prop
 | .cp a m => a + m ≤ n
 | .sg _ => True
noncomputable def madeL (cs : List Nat) (ps : List Pc) : List Nat := (ps.map (madeP cs)).flatten
theorem made_by_piece_ok {e : Str} {x : Pc} (h : PcIn e.length x) : g_made_by_piece [.str e, pcD x] = .ok (.str (strOf (madeP e.cps.toList x))) := by
 cases x with
 | sg w =>
  have e0 := is_copy_sg w
  have i1 : idxR (pcD (.sg w)) (.int 1) = .ok (.str (strOf w)) := by simp [pcD]
  show _ = Rs.ok (D.str (strOf w))
  generalize pcD (.sg w) = pd at e0 i1 ⊢
  simp [g_made_by_piece, F_made_by_piece, e0, i1]
 | cp a m =>
  have h : a + m ≤ e.length := h
  have e0 := is_copy_cp a m
  have i1 : idxR (pcD (.cp a m)) (.int 1) = .ok (.int a) := by simp [pcD]
  have i2 : idxR (pcD (.cp a m)) (.int 2) = .ok (.int m) := by simp [pcD]
  have cc := cutT_any e a (a + m)
  rw [show a + m - a = m by omega, Int.natCast_add] at cc
  have hle : ¬ (e.length : Int) < (a : Int) + (m : Int) := by omega
  show _ = Rs.ok (D.str (strOf ((e.cps.toList.drop a).take m)))
  generalize pcD (.cp a m) = pd at e0 i1 i2 ⊢
  simp [g_made_by_piece, F_made_by_piece, e0, i1, i2, hle, cc]
theorem mended_ok {e : Str} {ps : List Pc} (he : Good 2000 e) (hl : ps.length ≤ 2000) (h : ∀ x ∈ ps, PcG x) (hi : ∀ x ∈ ps, PcIn e.length x) (hm : (madeL e.cps.toList ps).length ≤ 1000000) :
  g_mended [.str e, letD ps] = .ok (.str (strOf (madeL e.cps.toList ps))) := by
 have e1 := check_text_ok he
 have e2 := check_letter_ok hl h
 have c1 : compL (fun d => g_made_by_piece [.str e, d]) (fun _ => .ok true) (ps.map pcD) = .ok (ps.map fun x => D.str (strOf (madeP e.cps.toList x))) := comp_list pcD _ fun x hx => made_by_piece_ok (hi x hx)
 have b1 := big_ok (ds := ps.map pcD) (es := ps.map fun x => D.str (strOf (madeP e.cps.toList x))) (by rw [List.length_map]; omega)
 have hj := s_join (xs := ps.map (madeP e.cps.toList)) (f := strOf) (by
  rw [List.map_map]
  have e : (ps.map (madeP e.cps.toList)).map ((fun x : Str => x.length) ∘ strOf) = (ps.map (madeP e.cps.toList)).map List.length := List.map_congr_left fun w _ => len_strOf w
  rw [e, ← List.length_flatten]; exact hm)
 rw [catS_strOf, List.map_map] at hj
 have hj : joinR (Str.ofString "") [.lst (ps.map fun x => D.str (strOf (madeP e.cps.toList x)))] = .ok (.str (strOf (madeL e.cps.toList ps))) := hj
 generalize (ps.map fun x => D.str (strOf (madeP e.cps.toList x))) = ML at c1 b1 hj
 generalize strOf (madeL e.cps.toList ps) = MS at hj ⊢
 unfold letD at e2 ⊢
 generalize ps.map pcD = PD at e2 c1 b1 ⊢
 simp [g_mended, F_mended, e1, e2, c1, b1, hj]
noncomputable def mkVal (cs : List Nat) : Mk → Nat
 | .s c => c
 | .p i => cs.getD i 0
theorem made_marks {cs : List Nat} {x : Pc} (h : PcIn cs.length x) : madeP cs x = (marksOf x).map (mkVal cs) := by
 cases x with
 | sg w =>
  show w = (w.map Mk.s).map (mkVal cs)
  rw [List.map_map]
  have : (mkVal cs ∘ Mk.s) = id := rfl
  rw [this, List.map_id]
 | cp a m =>
  have h : a + m ≤ cs.length := h
  show (cs.drop a).take m = ((List.range m).map fun k => Mk.p (a + k)).map (mkVal cs)
  rw [List.map_map]
  apply List.ext_getElem?
  intro i
  rw [List.getElem?_map]
  by_cases hi : i < m
  ·rw [List.getElem?_take_of_lt hi, List.getElem?_drop, List.getElem?_range hi, List.getElem?_eq_getElem (by omega)]
   show some _ = some (cs.getD (a + i) 0)
   rw [List.getD_eq_getElem?_getD, List.getElem?_eq_getElem (by omega)]; rfl
  ·rw [List.getElem?_eq_none (by rw [List.length_take]; omega), List.getElem?_eq_none (by rw [List.length_range]; omega)]; rfl
theorem made_all {cs : List Nat} {ps : List Pc} (h : ∀ x ∈ ps, PcIn cs.length x) : madeL cs ps = (marks ps).map (mkVal cs) := by
 unfold madeL marks
 rw [List.map_flatMap, List.flatMap]
 congr 1
 exact List.map_congr_left fun x hx => made_marks (h x hx)
noncomputable def isS : Mk → Bool
 | .s _ => true
 | _ => false
theorem sg_count (ps : List Pc) : sgSum ps = ((marks ps).filter isS).length := by
 unfold sgSum marks
 induction ps with
 | nil => rfl
 | cons x ps ih =>
  rw [List.map_cons, List.sum_cons, List.flatMap_cons, List.filter_append, List.length_append, ih]
  congr 1
  cases x with
  | cp a m =>
   show 0 = (((List.range m).map fun k => Mk.p (a + k)).filter isS).length
   rw [List.filter_eq_nil_iff.mpr fun y hy => by
    obtain ⟨k, _, rfl⟩ := List.mem_map.mp hy
    simp [isS]]
   rfl
  | sg w =>
   show w.length = ((w.map Mk.s).filter isS).length
   rw [List.filter_eq_self.mpr fun y hy => by
    obtain ⟨k, _, rfl⟩ := List.mem_map.mp hy
    rfl, List.length_map]
theorem mem_addC {L : List Pc} {a m : Nat} {x : Pc} (h : x ∈ addC L a m) (P : Pc → Prop) (hL : ∀ y ∈ L, P y) (h1 : P (.cp a m)) (h2 : ∀ b k, P (.cp b k) → P (.cp b (k + m))) : P x := by
 unfold addC at h
 split at h
 ·rename_i b k hl
  obtain ⟨L0, rfl⟩ := List.getLast?_eq_some_iff.mp hl
  split at h
  ·rw [List.dropLast_concat] at h
   rcases List.mem_append.mp h with z | z
   ·exact hL x (List.mem_append_left _ z)
   ·rw [List.mem_singleton.mp z]; exact h2 b k (hL _ (by simp))
  ·rcases List.mem_append.mp h with z | z
   ·exact hL x z
   ·rw [List.mem_singleton.mp z]; exact h1
 ·rcases List.mem_append.mp h with z | z
  ·exact hL x z
  ·rw [List.mem_singleton.mp z]; exact h1
noncomputable def PcW : Pc → Prop
 | .cp _ m => 1 ≤ m
 | .sg w => w ≠ [] ∧ ∀ c ∈ w, okc c
theorem mem_addS {L : List Pc} {T : List (List Nat)} {x : Pc} (h : x ∈ addS L T) (hL : ∀ y ∈ L, PcW y) (hT : ∀ w ∈ T, w ≠ [] ∧ ∀ c ∈ w, okc c) : PcW x := by
 unfold addS at h
 split at h
 ·exact hL x h
 ·rename_i hn
  rcases List.mem_append.mp h with z | z
  ·exact hL x z
  ·rw [List.mem_singleton.mp z]
   refine ⟨flat_ne (fun w hw => (hT w hw).1) hn, fun c hc => ?_⟩
   obtain ⟨w, hw, hcw⟩ := List.mem_flatten.mp hc
   exact (hT w hw).2 c hcw
theorem fold_ok : ∀ (ps : List Pc) (s : List Pc × List (List Nat)), (∀ x ∈ s.1, PcW x) → (∀ w ∈ s.2, w ≠ [] ∧ ∀ c ∈ w, okc c) → (∀ x ∈ ps, PcW x) → (∀ x ∈ (ps.foldl stepJ s).1, PcW x) ∧ ∀ w ∈ (ps.foldl stepJ s).2, w ≠ [] ∧ ∀ c ∈ w, okc c
 | [], s, h1, h2, _ => ⟨h1, h2⟩
 | .sg w :: ps, s, h1, h2, h3 => by
  have hw : PcW (.sg w) := h3 _ (List.mem_cons_self ..)
  exact fold_ok ps (s.1, s.2 ++ [w]) h1 (fun v hv => by
   rcases List.mem_append.mp hv with z | z
   ·exact h2 v z
   ·rw [List.mem_singleton.mp z]; exact hw) fun y hy => h3 y (List.mem_cons_of_mem _ hy)
 | .cp a m :: ps, s, h1, h2, h3 => by
  have hw : PcW (.cp a m) := h3 _ (List.mem_cons_self ..)
  refine fold_ok ps (addC (addS s.1 s.2) a m, []) (fun x hx => ?_) (fun v hv => by simp at hv) fun y hy => h3 y (List.mem_cons_of_mem _ hy)
  exact mem_addC hx PcW (fun y hy => mem_addS hy h1 h2) hw fun b k hk => by
   have : 1 ≤ k := hk
   show 1 ≤ k + m
   omega
theorem joined_W {ps : List Pc} (h : ∀ x ∈ ps, PcW x) : ∀ x ∈ joinedP ps, PcW x := fun x hx => by
 obtain ⟨h1, h2⟩ := fold_ok ps ([], []) (fun y hy => by simp at hy) (fun y hy => by simp at hy) h
 exact mem_addS hx h1 h2
theorem PcW.v {x : Pc} (h : PcW x) : PcV x := by
 cases x with
 | cp a m => exact h
 | sg w => exact h.1
theorem PcG.w {x : Pc} (h : PcG x) : PcW x := by
 cases x with
 | cp a m => exact h
 | sg w => exact ⟨List.length_pos_iff.mp h.1, h.2.2⟩
theorem joined_G {ps : List Pc} (h : ∀ x ∈ ps, PcG x) (hs : sgSum ps ≤ 2000) : ∀ x ∈ joinedP ps, PcG x := fun x hx => by
 have hw := joined_W (fun y hy => (h y hy).w) x hx
 cases x with
 | cp a m => exact hw
 | sg w =>
  refine ⟨List.length_pos_iff.mpr hw.1, ?_, hw.2⟩
  have e : sgSum (joinedP ps) = sgSum ps := by rw [sg_count, sg_count, marks_joined fun y hy => (h y hy).w.v]
  have : sgLen (.sg w) ≤ sgSum (joinedP ps) := mem_le_sum (List.mem_map_of_mem hx)
  have : w.length ≤ sgSum (joinedP ps) := this
  omega
theorem joined_In {ps : List Pc} {n : Nat} (h : ∀ x ∈ ps, PcV x) (hi : ∀ x ∈ ps, PcIn n x) : ∀ x ∈ joinedP ps, PcV x → PcIn n x := fun x hx hv => by
 cases x with
 | sg w => trivial
 | cp a m =>
  have hm : 1 ≤ m := hv
  have h1 : Mk.p (a + (m - 1)) ∈ marks (joinedP ps) := List.mem_flatMap.mpr ⟨_, hx, List.mem_map.mpr ⟨m - 1, List.mem_range.mpr (by omega), rfl⟩⟩
  rw [marks_joined h] at h1
  obtain ⟨y, hy, h2⟩ := List.mem_flatMap.mp h1
  cases y with
  | sg w =>
   obtain ⟨c, _, hc⟩ := List.mem_map.mp h2
   cases hc
  | cp b k =>
   obtain ⟨j, hj, hjj⟩ := List.mem_map.mp h2
   have := List.mem_range.mp hj
   have hjj : b + j = a + (m - 1) := by injection hjj
   have hb : b + k ≤ n := hi _ hy
   show a + m ≤ n
   omega
noncomputable def LP (n : Nat) : Pc → Prop
 | .cp a m => 1 ≤ m ∧ a + m ≤ n
 | .sg w => 1 ≤ w.length ∧ w.length ≤ 4 ∧ ∀ c ∈ w, okc c
theorem LP.g {n : Nat} {x : Pc} (h : LP n x) : PcG x := by
 cases x with
 | cp a m => exact h.1
 | sg w => exact ⟨h.1, by have := h.2.1; omega, h.2.2⟩
noncomputable def Mat (e n : List Nat) (p k m : Nat) : Prop := k + m ≤ e.length ∧ p + m ≤ n.length ∧ ∀ j, j < m → e[k + j]? = n[p + j]?
noncomputable def Long (e n : List Nat) (p : Nat) : Option (Nat × Nat) → Prop
 | none => ∀ k, ¬ Mat e n p k 1
 | some (b, m) => 1 ≤ m ∧ Mat e n p b m ∧ (∀ k, k < b → ¬ Mat e n p k m) ∧ ∀ k, ¬ Mat e n p k (m + 1)
inductive Greedy (e n : List Nat) : Nat → List Pc → Prop
 | nil {p : Nat} : p = n.length → Greedy e n p []
 | sg {p c : Nat} {r : List Pc} : n[p]? = some c → Long e n p none → Greedy e n (p + 1) r → Greedy e n p (.sg [c] :: r)
 | cp {p b m : Nat} {r : List Pc} : p < n.length → Long e n p (some (b, m)) → Greedy e n (p + m) r → Greedy e n p (.cp b m :: r)
theorem joinedP_len (ps : List Pc) : (joinedP ps).length ≤ 2 * ps.length + 1 := by
 unfold joinedP
 have := addS_len (ps.foldl stepJ ([], [])).1 (ps.foldl stepJ ([], [])).2
 have := fold_len0 ps
 omega
theorem app_codes (a b : Str) : (a ++ b).cps.toList = a.cps.toList ++ b.cps.toList := by
 show (a.cps ++ b.cps).toList = _
 simp
theorem good_app {n m : Nat} {a b : Str} (ha : Good n a) (hb : Good m b) : Good (n + m) (a ++ b) := by
 refine ⟨by rw [len_app]; have := ha.1; have := hb.1; omega, fun c hc => ?_⟩
 rw [app_codes] at hc
 rcases List.mem_append.mp hc with h | h
 ·exact ha.2 c h
 ·exact hb.2 c h
theorem law_newer_ok (ns : List Int) (at' : Nat) (e : Str) (hat : at' ≤ 1000) (he : Good 1000 e) : ∃ n, g__law_newer [scr ns, .int at', .str e] = .ok (.str n) ∧ Good 56 n := by
 obtain ⟨z, ez, z0, z1⟩ := mixed_ok ns at' (m := 4) (by decide)
 have r1 := rng1_ok (j := 1 + z) (by omega)
 have loop : ∃ δ', forO (tgN 4) L__law_newer_1 (rngD 0 (1 + z).toNat) [some (.v (scr ns)), some (.v (.int at')), some (.v (.str e)), some (.v (.str (Str.ofString ""))), none, none, none] = .nx δ' ∧
   ∃ t, (∃ x4 x5 x6, δ' = [some (.v (scr ns)), some (.v (.int at')), some (.v (.str e)), some (.v (.str t)), x4, x5, x6]) ∧ Good (14 * (List.range (1 + z).toNat).length) t := by
  refine for_map (fun k : Nat => D.int (0 + (k : Int))) (fun p δ => ∃ t, (∃ x4 x5 x6, δ = [some (.v (scr ns)), some (.v (.int at')), some (.v (.str e)), some (.v (.str t)), x4, x5, x6]) ∧ Good (14 * p.length) t)
   ⟨Str.ofString "", ⟨none, none, none, rfl⟩, by decide, fun c hc => by
    have h0 : (Str.ofString "").cps.toList = [] := by decide +kernel
    rw [h0] at hc; simp at hc⟩ ?_
  rintro k p q δ e0 ⟨t, ⟨x4, x5, x6, rfl⟩, ht⟩
  obtain ⟨rfl, hk2⟩ := range_mid e0
  have hkb : p.length ≤ 4 := by omega
  rw [show (0 : Int) + (p.length : Int) = (p.length : Int) by omega]
  have m4 := mul_l (i := 4) (j := (p.length : Int)) (by decide)
  obtain ⟨pl, hplc⟩ : ∃ pl : Nat, pl = at' + 1 + 4 * p.length := ⟨_, rfl⟩
  have hpi : (at' : Int) + 1 + 4 * (p.length : Int) = (pl : Int) := by omega
  obtain ⟨y, ey, y0, y1⟩ := mixed_ok ns pl (m := 3) (by decide)
  have hms := million
  have ht1 := ht.1
  have hl14 : 14 * (p ++ [p.length]).length = 14 * p.length + 14 := by simp; omega
  rw [hl14]
  by_cases hy : y = 0
  ·subst hy
   obtain ⟨u, eu, hu⟩ := text_ok ns (pl + 1) 4 (by decide)
   have hu1 := hu.1
   have ad := s_adds (i := t) (j := u) (by omega)
   refine ⟨_, _, rfl, .inl (show _ = Out.nx [some (.v (scr ns)), some (.v (.int at')), some (.v (.str e)), some (.v (.str (t ++ u))), some (.v (.int (p.length : Int))), some (.v (.int pl)), x6] from ?_), t ++ u, ⟨_, _, _, rfl⟩, (good_app ht hu).mono (by omega)⟩
   simp at eu
   generalize scr ns = S at ey eu ⊢
   simp [L__law_newer_1, m4, hpi, ey, eu, ad]
  ·obtain ⟨f, ef, f0, f1⟩ := mixed_ok ns (pl + 1) (m := (e.length : Int) + 1) (by omega)
   obtain ⟨g, eg, g0, g1⟩ := mixed_ok ns (pl + 2) (m := 14) (by decide)
   obtain ⟨fN, rfl⟩ : ∃ fN : Nat, f = fN := ⟨f.toNat, by omega⟩
   obtain ⟨gN, rfl⟩ : ∃ gN : Nat, g = gN := ⟨g.toNat, by omega⟩
   have cc := cutT_any e fN (fN + gN)
   rw [show fN + gN - fN = gN by omega, Int.natCast_add] at cc
   have hsub : Good 14 (strOf ((e.cps.toList.drop fN).take gN)) := by
    have := good_sub he fN gN
    refine ⟨?_, this.2⟩
    rw [len_strOf, List.length_take]; omega
   have hs1 := hsub.1
   have ad := s_adds (i := t) (j := strOf ((e.cps.toList.drop fN).take gN)) (by omega)
   refine ⟨_, _, rfl, .inl (show _ = Out.nx [some (.v (scr ns)), some (.v (.int at')), some (.v (.str e)), some (.v (.str (t ++ strOf ((e.cps.toList.drop fN).take gN)))), some (.v (.int (p.length : Int))), some (.v (.int pl)), some (.v (.int fN))] from ?_), _, ⟨_, _, _, rfl⟩, (good_app ht hsub).mono (by omega)⟩
   simp at ef eg
   generalize strOf ((e.cps.toList.drop fN).take gN) = SS at cc ad ⊢
   generalize scr ns = S at ey ef eg ⊢
   simp [L__law_newer_1, m4, hpi, ey, hy, ef, eg, cc, ad]
 obtain ⟨δ', eL, t, ⟨x4, x5, x6, rfl⟩, ht⟩ := loop
 refine ⟨t, ?_, ht.mono (by simp; omega)⟩
 generalize scr ns = S at ez eL ⊢
 generalize rngD 0 (1 + z).toNat = RD at r1 eL
 simp [g__law_newer, F__law_newer, ez, r1, eL]
theorem madeL_app (cs : List Nat) (a b : List Pc) : madeL cs (a ++ b) = madeL cs a ++ madeL cs b := by simp [madeL]
theorem madeL_one (cs : List Nat) (x : Pc) : madeL cs [x] = madeP cs x := by simp [madeL]
theorem strOf_cat (a b : List Nat) : strOf a ++ strOf b = strOf (a ++ b) := by
 show (⟨a.toArray ++ b.toArray⟩ : Str) = ⟨_⟩
 simp
theorem law_made_step {e : Str} {x : Pc} {done : List Nat} (h : PcIn e.length x) (hl : (done ++ madeP e.cps.toList x).length ≤ 1000000) (LD : D) (y : Option Sl) :
  L__law_made_1 [some (.v (.str e)), some (.v LD), some (.v (.str (strOf done))), some (.v (pcD x))] = .nx [some (.v (.str e)), some (.v LD), some (.v (.str (strOf (done ++ madeP e.cps.toList x)))), some (.v (pcD x))] := by
 have hms := million
 rw [List.length_append] at hl
 cases x with
 | sg w =>
  have i0 : idxR (pcD (.sg w)) (.int 0) = .ok (.str "signs") := by simp [pcD]
  have i1 : idxR (pcD (.sg w)) (.int 1) = .ok (.str (strOf w)) := by simp [pcD]
  have hl : done.length + w.length ≤ 1000000 := hl
  have ad := s_adds (i := strOf done) (j := strOf w) (by rw [len_strOf, len_strOf]; omega)
  rw [strOf_cat] at ad
  show _ = Out.nx [_, _, some (.v (.str (strOf (done ++ w)))), _]
  generalize pcD (.sg w) = pd at i0 i1 ⊢
  generalize strOf (done ++ w) = S2 at ad ⊢
  generalize strOf w = SW at ad i1
  generalize strOf done = SD at ad ⊢
  simp [L__law_made_1, i0, i1, ad]
 | cp a m =>
  have h : a + m ≤ e.length := h
  have i0 : idxR (pcD (.cp a m)) (.int 0) = .ok (.str "copy") := by simp [pcD]
  have i1 : idxR (pcD (.cp a m)) (.int 1) = .ok (.int a) := by simp [pcD]
  have i2 : idxR (pcD (.cp a m)) (.int 2) = .ok (.int m) := by simp [pcD]
  have cc := cutT_any e a (a + m)
  rw [show a + m - a = m by omega, Int.natCast_add] at cc
  have hle : ¬ (e.length : Int) < (a : Int) + (m : Int) := by omega
  have hl : done.length + ((e.cps.toList.drop a).take m).length ≤ 1000000 := hl
  have ad := s_adds (i := strOf done) (j := strOf ((e.cps.toList.drop a).take m)) (by rw [len_strOf, len_strOf]; omega)
  rw [strOf_cat] at ad
  show _ = Out.nx [_, _, some (.v (.str (strOf (done ++ (e.cps.toList.drop a).take m)))), _]
  generalize pcD (.cp a m) = pd at i0 i1 i2 ⊢
  generalize strOf (done ++ (e.cps.toList.drop a).take m) = S2 at ad ⊢
  generalize strOf ((e.cps.toList.drop a).take m) = SW at ad cc
  generalize strOf done = SD at ad ⊢
  simp [L__law_made_1, i0, i1, i2, hle, cc, ad, ne_cs]
theorem law_made_ok {e : Str} {ps : List Pc} (hi : ∀ x ∈ ps, PcIn e.length x) (hm : (madeL e.cps.toList ps).length ≤ 1000000) : g__law_made [.str e, letD ps] = .ok (.str (strOf (madeL e.cps.toList ps))) := by
 have loop : ∃ δ', forO (tgN 3) L__law_made_1 (ps.map pcD) [some (.v (.str e)), some (.v (letD ps)), some (.v (.str (strOf []))), none] = .nx δ' ∧
   ∃ x, δ' = [some (.v (.str e)), some (.v (letD ps)), some (.v (.str (strOf (madeL e.cps.toList ps)))), x] := by
  refine for_map pcD (fun p δ => ∃ x, δ = [some (.v (.str e)), some (.v (letD ps)), some (.v (.str (strOf (madeL e.cps.toList p)))), x]) ⟨none, rfl⟩ ?_
  rintro x p q δ e0 ⟨y, rfl⟩
  have hx : x ∈ ps := by rw [e0]; simp
  have hb : (madeL e.cps.toList p ++ madeP e.cps.toList x).length ≤ 1000000 := by
   rw [e0, madeL_app] at hm
   have : madeL e.cps.toList (x :: q) = madeP e.cps.toList x ++ madeL e.cps.toList q := by simp [madeL]
   rw [this] at hm
   simp at hm ⊢
   omega
  have st := law_made_step (hi x hx) hb (letD ps) y
  rw [madeL_app, madeL_one]
  exact ⟨_, _, rfl, .inl st, _, rfl⟩
 obtain ⟨δ', eL, x, rfl⟩ := loop
 have hit : itR (letD ps) = .ok (ps.map pcD) := rfl
 have h0 : (Str.ofString "") = strOf [] := rfl
 generalize strOf (madeL e.cps.toList ps) = S2 at eL ⊢
 generalize letD ps = LD at eL hit ⊢
 generalize ps.map pcD = PD at eL hit
 simp [g__law_made, F__law_made, hit, h0, eL]
noncomputable abbrev Cd := Int × Int × Int
noncomputable def cdD (c : Cd) : D := .tup [.tup [.int c.1, .int c.2.1], .int c.2.2]
noncomputable def cdK (c : Cd) : List Key := [.inl c.1, .inl c.2.1]
theorem cdK_iff (a b : Cd) : cdK a = cdK b ↔ a.1 = b.1 ∧ a.2.1 = b.2.1 := by
 unfold cdK
 constructor
 ·intro h
  injection h with h1 h2
  injection h2 with h2 _
  exact ⟨Sum.inl.inj h1, Sum.inl.inj h2⟩
 ·rintro ⟨h1, h2⟩; rw [h1, h2]
theorem cd_iff (a b : Cd) : a = b ↔ cdK a = cdK b ∧ a.2.2 = b.2.2 := by
 rw [cdK_iff]
 obtain ⟨a1, a2, a3⟩ := a
 obtain ⟨b1, b2, b3⟩ := b
 simp [and_assoc]
theorem idxK_snoc {κ : Type} [DecidableEq κ] (k j : κ) : ∀ ks : List κ, idxK (ks ++ [k]) j = match idxK ks j with | some n => some n | none => if k = j then some ks.length else none
 | [] => by simp [idxK]
 | a :: ks => by
  show (if a = j then some 0 else (idxK (ks ++ [k]) j).map (· + 1)) = match (if a = j then some 0 else (idxK ks j).map (· + 1)) with | some n => some n | none => if k = j then some (a :: ks).length else none
  by_cases e : a = j
  ·rw [if_pos e, if_pos e]
  ·rw [if_neg e, if_neg e, idxK_snoc k j ks]
   cases idxK ks j with
   | some n => rfl
   | none =>
    by_cases h : k = j
    ·simp [h]
    ·simp [h]
theorem idxK_get {κ : Type} [DecidableEq κ] : ∀ {ks : List κ} {j : κ} {n : Nat}, idxK ks j = some n → ks[n]? = some j
 | [], j, n, h => by cases h
 | a :: ks, j, n, h => by
  unfold idxK at h
  split at h
  ·rename_i e; cases h; simp [e]
  ·obtain ⟨m, e, rfl⟩ := Option.map_eq_some_iff.mp h
   simpa using idxK_get e
theorem idxK_none {κ : Type} [DecidableEq κ] : ∀ {ks : List κ} {j : κ}, idxK ks j = none → j ∉ ks
 | [], j, h => by simp
 | a :: ks, j, h => by
  unfold idxK at h
  split at h
  ·cases h
  ·rename_i e
   have h := Option.map_eq_none_iff.mp h
   simp only [List.mem_cons, not_or]
   exact ⟨fun z => e z.symm, idxK_none h⟩
noncomputable def look (ks : List (List Key)) (cs : List Ch) (k : List Key) : Option Ch := (idxK ks k).bind fun n => cs[n]?
structure EB (cds : List Cd) (ks : List (List Key)) (cs : List Ch) : Prop where
 len : ks.length = cs.length
 le : ks.length ≤ cds.length
 cl : ∀ c ∈ cs, c.1.length = c.2.length ∧ c.1.length ≤ cds.length
 val : ∀ c : Cd, ((look ks cs (cdK c)).bind fun z => valD z.1 z.2 (.inl c.2.2)) = (idxK cds c).map fun n => D.int (n : Int)
theorem EB.nil : EB [] [] [] := ⟨rfl, Nat.le_refl _, (fun _ h => nomatch h), fun _ => rfl⟩
theorem vD_snoc {κ : Type} [DecidableEq κ] (k j : κ) (d : D) {ks : List κ} {ds : List D} (h : ks.length = ds.length) : valD (ks ++ [k]) (ds ++ [d]) j = match valD ks ds j with | some x => some x | none => if k = j then some d else none := by
 rw [valD_idx (by simp [h]), valD_idx h, idxK_snoc]
 cases q : idxK ks j with
 | some n =>
  have hn := idxK_lt q
  show (ds ++ [d])[n]? = match ds[n]? with | some x => some x | none => if k = j then some d else none
  rw [List.getElem?_append_left (by omega), List.getElem?_eq_getElem (show n < ds.length by omega)]
 | none =>
  by_cases e : k = j
  ·simp [e, h]
  ·simp [e]
theorem addCh_val (ch : Ch) (h : ch.1.length = ch.2.length) (k : Key) (v : D) (j : Key) : valD (addCh ch k v).1 (addCh ch k v).2 j = match valD ch.1 ch.2 j with | some x => some x | none => if k = j then some v else none := by
 unfold addCh
 cases q : valD ch.1 ch.2 k with
 | some d =>
  dsimp only
  cases q2 : valD ch.1 ch.2 j with
  | some x => rfl
  | none =>
   by_cases e : k = j
   ·subst e; rw [q] at q2; cases q2
   ·simp [e]
 | none => exact vD_snoc k j v h
theorem EB.step {cds : List Cd} {ks : List (List Key)} {cs : List Ch} (h : EB cds ks cs) (c : Cd) (hl : cds.length ≤ 100000) :
  ∃ r, erl1 ks cs (cdK c) (.inl c.2.2) (.int (cds.length : Int)) = some r ∧ EB (cds ++ [c]) r.1 r.2 := by
 have hle := h.le
 have hlen := h.len
 unfold erl1
 have fin : ∀ (ks' : List (List Key)) (cs' : List Ch), ks'.length = cs'.length → ks'.length ≤ cds.length + 1 → (∀ c ∈ cs', c.1.length = c.2.length ∧ c.1.length ≤ cds.length + 1) →
   (∀ k, k ≠ cdK c → look ks' cs' k = look ks cs k) → (∃ ch', look ks' cs' (cdK c) = some ch' ∧ ∀ j, valD ch'.1 ch'.2 j = match ((look ks cs (cdK c)).bind fun z => valD z.1 z.2 j) with | some x => some x | none => if (Sum.inl c.2.2 : Key) = j then some (.int (cds.length : Int)) else none) → EB (cds ++ [c]) ks' cs' := by
  intro ks' cs' a1 a2 a3 a4 ⟨ch', a5, a6⟩
  refine ⟨a1, by simpa using a2, fun z hz => by simpa using a3 z hz, fun d => ?_⟩
  have hd := h.val d
  rw [idxK_snoc]
  by_cases e : cdK d = cdK c
  ·rw [e, a5]
   show valD ch'.1 ch'.2 (.inl d.2.2) = _
   rw [e] at hd
   rw [a6, hd]
   cases q : idxK cds d with
   | some n => rfl
   | none =>
    by_cases e2 : c.2.2 = d.2.2
    ·have : c = d := (cd_iff c d).mpr ⟨e.symm, e2⟩
     subst this; simp
    ·have n1 : ¬ c = d := fun z => e2 (by rw [z])
     have n2 : ¬ (Sum.inl c.2.2 : Key) = Sum.inl d.2.2 := fun z => e2 (Sum.inl.inj z)
     simp [n1, n2]
  ·rw [a4 _ e, hd]
   have n1 : ¬ c = d := fun z => e (by rw [z])
   cases idxK cds d with
   | some n => rfl
   | none => simp [n1]
 cases q : idxK ks (cdK c) with
 | some j =>
  have hj := idxK_lt q
  have hjc : j < cs.length := by omega
  have hcj : cs[j]? = some cs[j] := List.getElem?_eq_getElem hjc
  obtain ⟨c1, c2⟩ := h.cl cs[j] (List.getElem_mem hjc)
  have lk : look ks cs (cdK c) = some cs[j] := by unfold look; rw [q]; exact hcj
  dsimp only
  rw [hcj]
  dsimp only
  rw [if_pos (by omega)]
  refine ⟨_, rfl, fin ks _ (by simpa using hlen) (by omega) (fun z hz => ?_) (fun k hk => ?_) ⟨addCh cs[j] (.inl c.2.2) (.int (cds.length : Int)), ?_, fun j' => ?_⟩⟩
  ·rcases List.mem_or_eq_of_mem_set hz with w | w
   ·have := h.cl z w; omega
   ·rw [w]
    unfold addCh
    split
    ·omega
    ·simp; omega
  ·unfold look
   cases q2 : idxK ks k with
   | none => rfl
   | some i =>
    have hi : j ≠ i := fun z => by
     subst z
     have g1 := idxK_get q
     have g2 := idxK_get q2
     rw [g1] at g2
     exact hk (Option.some.inj g2).symm
    show (cs.set j _)[i]? = cs[i]?
    rw [List.getElem?_set_ne hi]
  ·unfold look
   rw [q]
   show (cs.set j _)[j]? = _
   rw [List.getElem?_set]; simp only [if_true]; rw [if_pos hjc]
  ·rw [lk]
   exact addCh_val cs[j] c1 _ _ j'
 | none =>
  have lk : look ks cs (cdK c) = none := by unfold look; rw [q]; rfl
  refine ⟨_, rfl, fin _ _ (by simp [hlen]) (by simp; omega) (fun z hz => ?_) (fun k hk => ?_) ⟨([.inl c.2.2], [.int (cds.length : Int)]), ?_, fun j' => ?_⟩⟩
  ·rcases List.mem_append.mp hz with w | w
   ·have := h.cl z w; omega
   ·rw [List.mem_singleton.mp w]; simp
  ·unfold look
   rw [idxK_snoc]
   cases q2 : idxK ks k with
   | none => rw [if_neg (Ne.symm hk)]; rfl
   | some i =>
    have := idxK_lt q2
    show (cs ++ _)[i]? = cs[i]?
    rw [List.getElem?_append_left (by omega)]
  ·unfold look
   rw [idxK_snoc, q]
   dsimp only
   rw [if_pos rfl]
   show (cs ++ _)[ks.length]? = _
   rw [hlen]; simp
  ·rw [lk]
   show valD [_] [_] j' = _
   simp [valD]
theorem earl_loop (TD : D) : ∀ (suf pre : List Cd) (ks : List (List Key)) (cs : List Ch) (x2 x3 : Option Sl), EB pre ks cs → pre.length + suf.length ≤ 100000 → ∃ ks' cs' y2 y3,
  erlO 2 3 (bin2 idxR (varD 3) (cD (.int 0))) (bin2 idxR (varD 3) (cD (.int 1))) (varD 2) (((suf.map cdD).zipIdx pre.length).map fun x => .tup [.int x.2, x.1]) [some (.v TD), none, x2, x3, none] ks cs = .ok ([some (.v TD), none, y2, y3, none], ks', cs') ∧ EB (pre ++ suf) ks' cs'
 | [], pre, ks, cs, x2, x3, h, hl => ⟨ks, cs, x2, x3, rfl, by rw [List.append_nil]; exact h⟩
 | c :: suf, pre, ks, cs, x2, x3, h, hl => by
  have hl2 : pre.length + (suf.length + 1) ≤ 100000 := by simpa using hl
  obtain ⟨r, e1, h1⟩ := h.step c (by omega)
  obtain ⟨ks', cs', y2, y3, e2, h2⟩ := earl_loop TD suf (pre ++ [c]) r.1 r.2 (some (.v (.int (pre.length : Int)))) (some (.v (cdD c))) h1 (by simp; omega)
  refine ⟨ks', cs', y2, y3, ?_, by simpa using h2⟩
  rw [List.map_cons, List.zipIdx_cons, List.map_cons]
  rw [show (pre ++ [c]).length = pre.length + 1 by simp] at e2
  unfold erlO
  have i0 : idxR (cdD c) (.int 0) = .ok (.tup [.int c.1, .int c.2.1]) := by simp [cdD]
  have i1 : idxR (cdD c) (.int 1) = .ok (.int c.2.2) := by simp [cdD]
  have kd : M.keyD (.int c.2.2) = some (.inl c.2.2) := rfl
  have kt : keyT (.tup [.int c.1, .int c.2.1]) = some (cdK c) := rfl
  have hkl : ks.length < 1000000 := by have := h.le; omega
  simp [i0, i1, kd, kt, hkl, e1]
  exact e2
theorem earliest_ok (cds : List Cd) (hl : cds.length ≤ 100000) : ∃ ks cs, g_earliest_blocks [.lst (cds.map cdD)] = .ok (.dtt ks (cs.map chD)) ∧ EB cds ks cs := by
 obtain ⟨ks, cs, y2, y3, e, h⟩ := earl_loop (.lst (cds.map cdD)) cds [] [] [] none none EB.nil (by simpa using hl)
 refine ⟨ks, cs, ?_, by simpa using h⟩
 have e : erlO 2 3 (bin2 idxR (varD 3) (cD (.int 0))) (bin2 idxR (varD 3) (cD (.int 1))) (varD 2) (enumD (cds.map cdD)) [some (.v (.lst (cds.map cdD))), none, none, none, none] [] [] = .ok ([some (.v (.lst (cds.map cdD))), none, y2, y3, none], ks, cs) := e
 have es : erlS 1 4 2 3 (enumF (varD 0)) (bin2 idxR (varD 3) (cD (.int 0))) (bin2 idxR (varD 3) (cD (.int 1))) (varD 2) [some (.v (.lst (cds.map cdD))), some (.ow (.t []) []), none, none, none] = .nx [some (.v (.lst (cds.map cdD))), some (.v (.dtt ks (cs.map chD))), y2, y3, none] := by
  unfold erlS
  have e0 : enumF (varD 0) [some (.v (.lst (cds.map cdD))), some (.ow (.t []) []), none, none, none] = .ok (enumD (cds.map cdD)) := by simp
  rw [e0]
  dsimp only
  rw [if_pos ⟨rfl, by simp⟩]
  dsimp only [List.set]
  rw [e]
  rfl
 generalize cds.map cdD = TD at es
 simp [g_earliest_blocks, F_earliest_blocks, es]
theorem cd_eq (a b : Cd) : eqR (cdD a) (cdD b) = .ok (.bl (decide (a = b))) := by
 rw [eq_l (by simp [cdD]) (by simp [cdD]) (by simp [cdD])]
 obtain ⟨a1, a2, a3⟩ := a
 obtain ⟨b1, b2, b3⟩ := b
 have : eqB (cdD (a1, a2, a3)) (cdD (b1, b2, b3)) = decide ((a1, a2, a3) = (b1, b2, b3)) := by
  rw [Bool.eq_iff_iff]
  simp [cdD, and_assoc]
 rw [this]
theorem is_card_ok {c : Cd} (h : 0 ≤ c.1 ∧ 0 ≤ c.2.1 ∧ 0 ≤ c.2.2) : g_is_card [cdD c] = .ok (.bl true) := by
 obtain ⟨a, b, z⟩ := c
 have e1 := is_from_ok (i := a) (lo := 0) h.1
 have e2 := is_from_ok (i := b) (lo := 0) h.2.1
 have e3 := is_from_ok (i := z) (lo := 0) h.2.2
 simp [cdD, g_is_card, F_is_card, e1, e2, e3]
theorem check_cards_ok {cds : List Cd} (hl : cds.length ≤ 100000) (h : ∀ c ∈ cds, 0 ≤ c.1 ∧ 0 ≤ c.2.1 ∧ 0 ≤ c.2.2) : g_check_cards [.lst (cds.map cdD)] = .ok .non := by
 have e1 : compL (fun d => g_is_card [d]) (fun _ => .ok true) (cds.map cdD) = .ok (cds.map fun _ => D.bl true) := comp_list cdD (fun _ => D.bl true) fun x hx => is_card_ok (h x hx)
 have e2 : bigR (cds.map cdD) (.ok (cds.map fun _ => D.bl true)) = .ok (.lst (cds.map fun _ => D.bl true)) := big_ok (by rw [List.length_map]; omega)
 have e3 : allR [.lst (cds.map fun _ => D.bl true)] = .ok (.bl true) := by
  unfold allR
  dsimp only
  rw [boolsOf_map (fun _ => true)]
  simp
 generalize (cds.map fun _ => D.bl true) = LB at e1 e2 e3
 generalize cds.map cdD = LP at e1 e2 ⊢
 simp [g_check_cards, F_check_cards, e1, e2, e3]
noncomputable def fit (told : List Cd) (aw : Option Nat) (c : Cd) : Option Nat := match aw with
 | some a => if told[a]? = some c then some a else idxK told c
 | none => idxK told c
noncomputable def optD : Option Nat → D
 | none => .non
 | some a => .int (a : Int)
theorem valD_look {ks : List (List Key)} {cs : List Ch} (h : ks.length = cs.length) (k : List Key) : valD ks (cs.map chD) k = (look ks cs k).map chD := by
 rw [valD_idx (by simpa using h)]
 unfold look
 cases idxK ks k with
 | none => rfl
 | some n => simp
theorem fitting_ok {cds : List Cd} {ks : List (List Key)} {cs : List Ch} (h : EB cds ks cs) (aw : Option Nat) (c : Cd) {ch : Ch} (hk : look ks cs (cdK c) = some ch) :
  g_fitting_block [.lst (cds.map cdD), .dtt ks (cs.map chD), optD aw, cdD c] = .ok (optD (fit cds aw c)) := by
 have dx : dixTR (.dtt ks (cs.map chD)) (.tup [.int c.1, .int c.2.1]) = .ok (chD ch) := by
  unfold dixTR
  dsimp only
  rw [show keyT (.tup [.int c.1, .int c.2.1]) = some (cdK c) from rfl]
  dsimp only
  rw [valD_look h.len, hk]; rfl
 have gt : getS (chD ch) (.ok (.int c.2.2)) = .ok (optD (idxK cds c)) := by
  have := h.val c
  rw [hk] at this
  have this : valD ch.1 ch.2 (.inl c.2.2) = (idxK cds c).map fun n => D.int (n : Int) := this
  show Rs.ok ((valD ch.1 ch.2 (.inl c.2.2)).getD .non) = _
  rw [this]
  cases idxK cds c <;> rfl
 have i0 : idxR (cdD c) (.int 0) = .ok (.tup [.int c.1, .int c.2.1]) := by simp [cdD]
 have i1 : idxR (cdD c) (.int 1) = .ok (.int c.2.2) := by simp [cdD]
 have hlen : (cds.map cdD).length = cds.length := List.length_map ..
 cases aw with
 | none =>
  show g_fitting_block [_, _, .non, _] = Rs.ok (optD (idxK cds c))
  generalize optD (idxK cds c) = OD at gt ⊢
  generalize cds.map cdD = TD
  generalize D.dtt ks (cs.map chD) = ED at dx ⊢
  generalize chD ch = CD at dx gt
  generalize cdD c = cd at i0 i1 ⊢
  simp [g_fitting_block, F_fitting_block, i0, i1, dx, gt]
 | some a =>
  show g_fitting_block [_, _, .int (a : Int), _] = Rs.ok (optD (if cds[a]? = some c then some a else idxK cds c))
  by_cases ha : a < cds.length
  ·have ia : idxR (.lst (cds.map cdD)) (.int (a : Int)) = .ok (cdD cds[a]) := ix_lst (by rw [List.getElem?_map, List.getElem?_eq_getElem ha]; rfl)
   have hq := cd_eq cds[a] c
   have hlt : (a : Int) < ((cds.map cdD).length : Int) := by rw [hlen]; omega
   rw [List.getElem?_eq_getElem ha]
   by_cases he : cds[a] = c
   ·rw [decide_eq_true he] at hq
    rw [if_pos (by rw [he])]
    show _ = Rs.ok (D.int (a : Int))
    generalize cds.map cdD = TD at ia hlt ⊢
    generalize D.dtt ks (cs.map chD) = ED
    generalize cdD cds[a] = ca at ia hq
    generalize cdD c = cd at hq ⊢
    simp [g_fitting_block, F_fitting_block, hlt, ia, hq]
   ·rw [decide_eq_false he] at hq
    rw [if_neg (by simpa using he)]
    generalize optD (idxK cds c) = OD at gt ⊢
    generalize cds.map cdD = TD at ia hlt ⊢
    generalize D.dtt ks (cs.map chD) = ED at dx ⊢
    generalize chD ch = CD at dx gt
    generalize cdD cds[a] = ca at ia hq
    generalize cdD c = cd at hq i0 i1 ⊢
    simp [g_fitting_block, F_fitting_block, hlt, ia, hq, i0, i1, dx, gt]
  ·have hlt : ¬ (a : Int) < ((cds.map cdD).length : Int) := by rw [hlen]; omega
   rw [List.getElem?_eq_none (by omega), if_neg (by simp)]
   generalize optD (idxK cds c) = OD at gt ⊢
   generalize cds.map cdD = TD at hlt ⊢
   generalize D.dtt ks (cs.map chD) = ED at dx ⊢
   generalize chD ch = CD at dx gt
   generalize cdD c = cd at i0 i1 ⊢
   simp [g_fitting_block, F_fitting_block, hlt, i0, i1, dx, gt]
theorem fit_at {told : List Cd} {aw : Option Nat} {c : Cd} {b : Nat} (h : fit told aw c = some b) : told[b]? = some c := by
 unfold fit at h
 split at h
 ·split at h
  ·rename_i e; cases h; exact e
  ·exact idxK_get h
 ·exact idxK_get h
theorem fit_lt {told : List Cd} {aw : Option Nat} {c : Cd} {b : Nat} (h : fit told aw c = some b) : b < told.length := (List.getElem?_eq_some_iff.mp (fit_at h)).1
theorem fit_none {told : List Cd} {aw : Option Nat} {c : Cd} : fit told aw c = none ↔ idxK told c = none := by
 constructor
 ·intro h
  cases q : idxK told c with
  | none => rfl
  | some n =>
   unfold fit at h
   split at h
   ·split at h
    ·cases h
    ·rw [q] at h; cases h
   ·rw [q] at h; cases h
 ·intro h
  cases q : fit told aw c with
  | none => rfl
  | some b => exact absurd (List.mem_of_getElem? (fit_at q)) (idxK_none h)
noncomputable def cardN (few times many : Int) (w : List Nat) : Cd := (plainS w % few, leanS w % few, horner times 0 w % many)
noncomputable def runP (told : List Cd) (s : Nat) (cs : List Nat) (f : List Nat → Cd) (p : Nat) (aw : Option Nat) : List Pc :=
 if h : p < cs.length then
  match (if p + (s + 1) ≤ cs.length then fit told aw (f (win cs p (s + 1))) else none) with
  | some b => .cp (b * (s + 1)) (s + 1) :: runP told s cs f (p + (s + 1)) (some (b + 1))
  | none => .sg [cs[p]] :: runP told s cs f (p + 1) none
 else []
termination_by cs.length - p
section
variable {told : List Cd} {s : Nat} {cs : List Nat} {f : List Nat → Cd}
theorem runP_end {p : Nat} {aw : Option Nat} (h : ¬ p < cs.length) : runP told s cs f p aw = [] := by rw [runP, dif_neg h]
theorem runP_cp {p : Nat} {aw : Option Nat} {b : Nat} (h : p + (s + 1) ≤ cs.length) (e : fit told aw (f (win cs p (s + 1))) = some b) : runP told s cs f p aw = .cp (b * (s + 1)) (s + 1) :: runP told s cs f (p + (s + 1)) (some (b + 1)) := by
 rw [runP, dif_pos (by omega), if_pos h, e]
theorem runP_sg {p : Nat} {aw : Option Nat} {c : Nat} (h : cs[p]? = some c) (e : (if p + (s + 1) ≤ cs.length then fit told aw (f (win cs p (s + 1))) else none) = none) : runP told s cs f p aw = .sg [c] :: runP told s cs f (p + 1) none := by
 obtain ⟨h1, h2⟩ := List.getElem?_eq_some_iff.mp h
 rw [runP, dif_pos h1, e]
 dsimp only
 rw [h2]
theorem runP_tail : ∀ (k p : Nat) (aw : Option Nat), cs.length - p ≤ k → cs.length < p + (s + 1) → runP told s cs f p aw = (cs.drop p).map fun c => .sg [c]
 | 0, p, aw, hk, h => by
  rw [runP_end (by omega), List.drop_eq_nil_of_le (by omega)]; rfl
 | k + 1, p, aw, hk, h => by
  by_cases hp : p < cs.length
  ·rw [runP_sg (List.getElem?_eq_getElem hp) (if_neg (by omega)), List.drop_eq_getElem_cons hp, List.map_cons, runP_tail k (p + 1) none (by omega) (by omega)]
  ·rw [runP_end hp, List.drop_eq_nil_of_le (by omega)]; rfl
theorem runP_facts (hs : s ≤ 1000) (ht : told.length ≤ 500) (hok : ∀ c ∈ cs, okc c) : ∀ (k p : Nat) (aw : Option Nat), cs.length - p ≤ k → p ≤ cs.length →
  (marks (runP told s cs f p aw)).length = cs.length - p ∧ (runP told s cs f p aw).length ≤ cs.length - p ∧ sgSum (runP told s cs f p aw) ≤ cs.length - p ∧ ∀ x ∈ runP told s cs f p aw, PcG x ∧ match x with | .cp a m => a + m ≤ 1000000 | .sg _ => True
 | 0, p, aw, hk, hp => by
  rw [runP_end (by omega)]
  refine ⟨by simp [marks]; omega, by simp, by simp [sgSum], fun x hx => by simp at hx⟩
 | k + 1, p, aw, hk, hp => by
  by_cases hlt : p < cs.length
  ·cases q : (if p + (s + 1) ≤ cs.length then fit told aw (f (win cs p (s + 1))) else none) with
   | none =>
    have hc := List.getElem?_eq_getElem hlt
    obtain ⟨a1, a2, a3, a4⟩ := runP_facts hs ht hok k (p + 1) none (by omega) (by omega)
    rw [runP_sg hc q]
    have hokc := hok cs[p] (List.getElem_mem hlt)
    refine ⟨by simp only [marks, List.flatMap_cons, List.length_append, marksOf, List.length_map, List.length_singleton] at a1 ⊢; omega, by rw [List.length_cons]; omega, ?_, fun x hx => ?_⟩
    ·simp only [sgSum, List.map_cons, List.sum_cons, sgLen, List.length_singleton] at a3 ⊢; omega
    ·rcases List.mem_cons.mp hx with rfl | hx
     ·exact ⟨⟨by simp, by simp, fun c hc => by rw [List.mem_singleton.mp hc]; exact hokc⟩, trivial⟩
     ·exact a4 x hx
   | some b =>
    have hle : p + (s + 1) ≤ cs.length := by
     by_cases h : p + (s + 1) ≤ cs.length
     ·exact h
     ·rw [if_neg h] at q; cases q
    rw [if_pos hle] at q
    obtain ⟨a1, a2, a3, a4⟩ := runP_facts hs ht hok k (p + (s + 1)) (some (b + 1)) (by omega) hle
    rw [runP_cp hle q]
    have hb := fit_lt q
    have hbs : b * (s + 1) ≤ 500 * 1001 := Nat.mul_le_mul (by omega) (by omega)
    refine ⟨by simp only [marks, List.flatMap_cons, List.length_append, marksOf, List.length_map, List.length_range] at a1 ⊢; omega, by rw [List.length_cons]; omega, ?_, fun x hx => ?_⟩
    ·simp only [sgSum, List.map_cons, List.sum_cons, sgLen] at a3 ⊢; omega
    ·rcases List.mem_cons.mp hx with rfl | hx
     ·exact ⟨by show 1 ≤ s + 1; omega, by show b * (s + 1) + (s + 1) ≤ 1000000; omega⟩
     ·exact a4 x hx
  ·rw [runP_end hlt]
   refine ⟨by simp [marks]; omega, by simp, by simp [sgSum], fun x hx => by simp at hx⟩
end
theorem firsts_at {few : Int} {cs : List Nat} {s p : Nat} (h : p + s ≤ cs.length) : (firstsL few cs s)[p]? = some (fsum few (win cs p s)) := by
 unfold firstsL
 rw [List.getElem?_map, List.getElem?_range (by omega)]
 rfl
theorem found_by_ok {few times many : Int} {n : Str} {s : Nat} {cds : List Cd} (hk : KeyOk few times many) (hn : Good 2000 n) (hs : s + 1 ≤ 200) (hl : cds.length ≤ 500) (hc : ∀ c ∈ cds, 0 ≤ c.1 ∧ 0 ≤ c.2.1 ∧ 0 ≤ c.2.2) :
  g_found_by [keyD few times many, .int ((s + 1 : Nat) : Int), .lst (cds.map cdD), .str n] = .ok (letD (joinedP (runP cds s n.cps.toList (cardN few times many) 0 none))) := by
 have hnl : n.cps.toList.length = n.length := toList_len n
 have hn1 := hn.1
 have ek := check_key_ok hk
 have es := check_size_ok (z := ((s + 1 : Nat) : Int)) (by omega) (by omega)
 have ec := check_cards_ok (by omega) hc
 have et := check_text_ok hn
 have er := rolled_sums_ok (s := s + 1) hk hn (by omega) hs
 obtain ⟨ks, chs, ee, hE⟩ := earliest_ok cds (by omega)
 have hFl : (firstsL few n.cps.toList (s + 1)).length = n.length + 1 - (s + 1) := by unfold firstsL; simp [hnl]
 obtain ⟨R, hR⟩ : ∃ R, R = runP cds s n.cps.toList (cardN few times many) 0 none := ⟨_, rfl⟩
 obtain ⟨r1, r2, r3, r4⟩ := runP_facts (told := cds) (s := s) (cs := n.cps.toList) (f := cardN few times many) (by omega) hl hn.2 _ 0 none (Nat.le_refl _) (Nat.zero_le _)
 rw [← hR] at r1 r2 r3 r4 ⊢
 have pk := plain_ok R (by omega) (fun x hx => (r4 x hx).1) (by omega)
 have loop : ∃ δ', whileO C_found_by_1 L_found_by_1 5000 [some (.v (keyD few times many)), some (.v (.int ((s + 1 : Nat) : Int))), some (.v (.lst (cds.map cdD))), some (.v (.str n)), some (.v (.lst (firstsL few n.cps.toList (s + 1)))), some (.v (.dtt ks (chs.map chD))), some (.own []), some (.v (.int 0)), some (.v .non), none, none] = .nx δ' ∧
   ∃ x7 x8 x9 x10, δ' = [some (.v (keyD few times many)), some (.v (.int ((s + 1 : Nat) : Int))), some (.v (.lst (cds.map cdD))), some (.v (.str n)), some (.v (.lst (firstsL few n.cps.toList (s + 1)))), some (.v (.dtt ks (chs.map chD))), some (.own (R.map pcD)), some (.v x7), some (.v x8), x9, x10] ∧ share [x9, x10] = [x9, x10] := by
  refine while_do (fun δ => ∃ (ps : List Pc) (p : Nat) (aw : Option Nat) (x9 x10 : Option Sl), δ = [some (.v (keyD few times many)), some (.v (.int ((s + 1 : Nat) : Int))), some (.v (.lst (cds.map cdD))), some (.v (.str n)), some (.v (.lst (firstsL few n.cps.toList (s + 1)))), some (.v (.dtt ks (chs.map chD))), some (.own (ps.map pcD)), some (.v (.int p)), some (.v (optD aw)), x9, x10] ∧ p ≤ n.length ∧ ps.length ≤ p ∧ share [x9, x10] = [x9, x10] ∧
    ps ++ runP cds s n.cps.toList (cardN few times many) p aw = R)
   (fun δ => match δ with | [_, _, _, _, _, _, _, some (.v (.int p)), _, _, _] => ((n.length : Int) - p).toNat | _ => 0) _ ?_ 5000 _ ⟨[], 0, none, none, none, rfl, Nat.zero_le _, Nat.le_refl _, rfl, by rw [hR]; rfl⟩ ?_
  ·rintro δ ⟨ps, p, aw, x9, x10, rfl, g1, g2, g4, g3⟩
   by_cases hlt : p < n.length
   ·have hlt' : p < n.cps.toList.length := by omega
    have hC : C_found_by_1 [some (.v (keyD few times many)), some (.v (.int ((s + 1 : Nat) : Int))), some (.v (.lst (cds.map cdD))), some (.v (.str n)), some (.v (.lst (firstsL few n.cps.toList (s + 1)))), some (.v (.dtt ks (chs.map chD))), some (.own (ps.map pcD)), some (.v (.int p)), some (.v (optD aw)), x9, x10] = .ok true := by
     generalize D.int ((s + 1 : Nat) : Int) = SD
     simp [C_found_by_1, hlt]
    have x1 := ix_str (z := n) (List.getElem?_eq_getElem hlt')
    have hsg := List.getElem?_eq_getElem hlt'
    generalize n.cps.toList[p] = c at x1 hsg
    have g4' : share [x10] = [x10] := by
     have := congrArg List.tail g4
     simpa [share] using this
    have am := s_appM (ds := ps.map pcD) (d := pcD (.sg [c])) (by rw [List.length_map]; omega)
    rw [show ps.map pcD ++ [pcD (.sg [c])] = (ps ++ [Pc.sg [c]]).map pcD by rw [List.map_append]; rfl] at am
    have am : appM (ps.map pcD) [.tup [.str "signs", .str (chr1 c)]] = .ok ((ps ++ [Pc.sg [c]]).map pcD) := am
    have one : ∀ x10' : Option Sl, share [x10'] = [x10'] → (if p + (s + 1) ≤ n.cps.toList.length then fit cds aw (cardN few times many (win n.cps.toList p (s + 1))) else none) = none →
      L_found_by_1 [some (.v (keyD few times many)), some (.v (.int ((s + 1 : Nat) : Int))), some (.v (.lst (cds.map cdD))), some (.v (.str n)), some (.v (.lst (firstsL few n.cps.toList (s + 1)))), some (.v (.dtt ks (chs.map chD))), some (.own (ps.map pcD)), some (.v (.int p)), some (.v (optD aw)), x9, x10] = .nx [some (.v (keyD few times many)), some (.v (.int ((s + 1 : Nat) : Int))), some (.v (.lst (cds.map cdD))), some (.v (.str n)), some (.v (.lst (firstsL few n.cps.toList (s + 1)))), some (.v (.dtt ks (chs.map chD))), some (.own ((ps ++ [Pc.sg [c]]).map pcD)), some (.v (.int ((p : Int) + 1))), some (.v .non), some (.v .non), x10'] →
      ∃ δ', (L_found_by_1 [some (.v (keyD few times many)), some (.v (.int ((s + 1 : Nat) : Int))), some (.v (.lst (cds.map cdD))), some (.v (.str n)), some (.v (.lst (firstsL few n.cps.toList (s + 1)))), some (.v (.dtt ks (chs.map chD))), some (.own (ps.map pcD)), some (.v (.int p)), some (.v (optD aw)), x9, x10] = .nx δ' ∨ L_found_by_1 [some (.v (keyD few times many)), some (.v (.int ((s + 1 : Nat) : Int))), some (.v (.lst (cds.map cdD))), some (.v (.str n)), some (.v (.lst (firstsL few n.cps.toList (s + 1)))), some (.v (.dtt ks (chs.map chD))), some (.own (ps.map pcD)), some (.v (.int p)), some (.v (optD aw)), x9, x10] = .ct δ') ∧
       (∃ (ps : List Pc) (p : Nat) (aw : Option Nat) (x9 x10 : Option Sl), δ' = [some (.v (keyD few times many)), some (.v (.int ((s + 1 : Nat) : Int))), some (.v (.lst (cds.map cdD))), some (.v (.str n)), some (.v (.lst (firstsL few n.cps.toList (s + 1)))), some (.v (.dtt ks (chs.map chD))), some (.own (ps.map pcD)), some (.v (.int p)), some (.v (optD aw)), x9, x10] ∧ p ≤ n.length ∧ ps.length ≤ p ∧ share [x9, x10] = [x9, x10] ∧
        ps ++ runP cds s n.cps.toList (cardN few times many) p aw = R) ∧
       (match δ' with | [_, _, _, _, _, _, _, some (.v (.int p)), _, _, _] => ((n.length : Int) - p).toNat | _ => 0) < ((n.length : Int) - (p : Int)).toNat := by
     intro x10' hx hf hL
     refine ⟨_, .inl hL, ⟨ps ++ [.sg [c]], p + 1, none, some (.v .non), x10', rfl, hlt, ?_, by rw [s_shareV, hx], ?_⟩, ?_⟩
     ·rw [List.length_append, List.length_singleton]; omega
     ·rw [List.append_assoc, ← g3, runP_sg hsg hf]; rfl
     ·show ((n.length : Int) - ((p : Int) + 1)).toNat < _
      omega
    refine .inr (.inl ⟨hC, ?_⟩)
    by_cases hin : p + (s + 1) ≤ n.length
    ·have hin' : p + (s + 1) ≤ n.cps.toList.length := by omega
     have hf : (p : Int) < ((firstsL few n.cps.toList (s + 1)).length : Int) := by rw [hFl]; omega
     have i4 := ix_lst (i := p) (firsts_at (few := few) hin')
     have i4 : idxR (.lst (firstsL few n.cps.toList (s + 1))) (.int (p : Int)) = .ok (fsum few (win n.cps.toList p (s + 1))) := i4
     have hW := good_sub hn p (s + 1)
     have e2 := second_sum_ok hk hW
     rw [codes_strOf] at e2
     have cc := cutT_any n p (p + (s + 1))
     rw [show p + (s + 1) - p = s + 1 by omega] at cc
     have cc : cutT n (some (p : Int)) (some ((p : Int) + ((s + 1 : Nat) : Int))) = strOf (win n.cps.toList p (s + 1)) := cc
     have e2 : g_second_sum [keyD few times many, .str (strOf (win n.cps.toList p (s + 1)))] = .ok (.int (horner times 0 (win n.cps.toList p (s + 1)) % many)) := e2
     have it : inTR (fsum few (win n.cps.toList p (s + 1))) (.dtt ks (chs.map chD)) = .ok (.bl (look ks chs (cdK (cardN few times many (win n.cps.toList p (s + 1))))).isSome) := by
      have : inTR (fsum few (win n.cps.toList p (s + 1))) (.dtt ks (chs.map chD)) = .ok (.bl (valD ks (chs.map chD) (cdK (cardN few times many (win n.cps.toList p (s + 1))))).isSome) := rfl
      rw [this, valD_look hE.len, Option.isSome_map]
     have tp : tupR [fsum few (win n.cps.toList p (s + 1)), .int (horner times 0 (win n.cps.toList p (s + 1)) % many)] = .ok (cdD (cardN few times many (win n.cps.toList p (s + 1)))) := rfl
     have hval := hE.val (cardN few times many (win n.cps.toList p (s + 1)))
     rw [if_pos hin'] at one
     cases ql : look ks chs (cdK (cardN few times many (win n.cps.toList p (s + 1)))) with
     | none =>
      rw [ql] at hval it
      have hno : fit cds aw (cardN few times many (win n.cps.toList p (s + 1))) = none := fit_none.mpr (by
       cases q : idxK cds (cardN few times many (win n.cps.toList p (s + 1))) with
       | none => rfl
       | some b => rw [q] at hval; cases hval)
      have it : inTR (fsum few (win n.cps.toList p (s + 1))) (.dtt ks (chs.map chD)) = .ok (.bl false) := it
      refine one x10 g4' hno ?_
      generalize (ps ++ [Pc.sg [c]]).map pcD = L2 at am ⊢
      generalize ps.map pcD = L1 at am ⊢
      generalize firstsL few n.cps.toList (s + 1) = FD at hf i4 ⊢
      generalize fsum few (win n.cps.toList p (s + 1)) = fs at i4 it
      generalize D.dtt ks (chs.map chD) = ED at it ⊢
      generalize cds.map cdD = TD
      generalize keyD few times many = KD
      generalize optD aw = AD
      generalize ((s + 1 : Nat) : Int) = SI
      simp [L_found_by_1, hf, i4, it, x1, am]
     | some ch =>
      rw [ql] at it
      have it : inTR (fsum few (win n.cps.toList p (s + 1))) (.dtt ks (chs.map chD)) = .ok (.bl true) := it
      have fb := fitting_ok hE aw _ ql
      cases qf : fit cds aw (cardN few times many (win n.cps.toList p (s + 1))) with
      | none =>
       rw [qf] at fb
       have fb : g_fitting_block [.lst (cds.map cdD), .dtt ks (chs.map chD), optD aw, cdD (cardN few times many (win n.cps.toList p (s + 1)))] = .ok .non := fb
       refine one (some (.v (cdD (cardN few times many (win n.cps.toList p (s + 1)))))) rfl qf ?_
       generalize (ps ++ [Pc.sg [c]]).map pcD = L2 at am ⊢
       generalize ps.map pcD = L1 at am ⊢
       generalize firstsL few n.cps.toList (s + 1) = FD at hf i4 ⊢
       generalize cdD (cardN few times many (win n.cps.toList p (s + 1))) = CD at tp fb ⊢
       generalize fsum few (win n.cps.toList p (s + 1)) = fs at i4 it tp
       generalize horner times 0 (win n.cps.toList p (s + 1)) % many = hh at e2 tp
       generalize strOf (win n.cps.toList p (s + 1)) = W at cc e2
       generalize D.dtt ks (chs.map chD) = ED at it fb ⊢
       generalize cds.map cdD = TD at fb ⊢
       generalize keyD few times many = KD at e2 ⊢
       generalize optD aw = AD at fb ⊢
       generalize ((s + 1 : Nat) : Int) = SI at cc ⊢
       simp [L_found_by_1, hf, i4, it, x1, am, cc, e2, tp, fb]
      | some b =>
       rw [qf] at fb
       have fb : g_fitting_block [.lst (cds.map cdD), .dtt ks (chs.map chD), optD aw, cdD (cardN few times many (win n.cps.toList p (s + 1)))] = .ok (.int (b : Int)) := fb
       have hb := fit_lt qf
       have ml := mul_l (i := (b : Int)) (j := ((s + 1 : Nat) : Int)) (by omega)
       have am2 := s_appM (ds := ps.map pcD) (d := pcD (.cp (b * (s + 1)) (s + 1))) (by rw [List.length_map]; omega)
       rw [show ps.map pcD ++ [pcD (.cp (b * (s + 1)) (s + 1))] = (ps ++ [Pc.cp (b * (s + 1)) (s + 1)]).map pcD by rw [List.map_append]; rfl] at am2
       have am2 : appM (ps.map pcD) [.tup [.str "copy", .int ((b : Int) * ((s + 1 : Nat) : Int)), .int ((s + 1 : Nat) : Int)]] = .ok ((ps ++ [Pc.cp (b * (s + 1)) (s + 1)]).map pcD) := by
        rw [← Int.natCast_mul]; exact am2
       refine ⟨[some (.v (keyD few times many)), some (.v (.int ((s + 1 : Nat) : Int))), some (.v (.lst (cds.map cdD))), some (.v (.str n)), some (.v (.lst (firstsL few n.cps.toList (s + 1)))), some (.v (.dtt ks (chs.map chD))), some (.own ((ps ++ [Pc.cp (b * (s + 1)) (s + 1)]).map pcD)), some (.v (.int ((p : Int) + ((s + 1 : Nat) : Int)))), some (.v (.int ((b : Int) + 1))), some (.v (.int (b : Int))), some (.v (cdD (cardN few times many (win n.cps.toList p (s + 1)))))], .inl ?_,
        ⟨ps ++ [.cp (b * (s + 1)) (s + 1)], p + (s + 1), some (b + 1), _, _, rfl, hin, ?_, rfl, ?_⟩, ?_⟩
       ·generalize (ps ++ [Pc.cp (b * (s + 1)) (s + 1)]).map pcD = L2 at am2 ⊢
        generalize ps.map pcD = L1 at am2 ⊢
        generalize firstsL few n.cps.toList (s + 1) = FD at hf i4 ⊢
        generalize cdD (cardN few times many (win n.cps.toList p (s + 1))) = CD at tp fb ⊢
        generalize fsum few (win n.cps.toList p (s + 1)) = fs at i4 it tp
        generalize horner times 0 (win n.cps.toList p (s + 1)) % many = hh at e2 tp
        generalize strOf (win n.cps.toList p (s + 1)) = W at cc e2
        generalize D.dtt ks (chs.map chD) = ED at it fb ⊢
        generalize cds.map cdD = TD at fb ⊢
        generalize keyD few times many = KD at e2 ⊢
        generalize optD aw = AD at fb ⊢
        generalize ((s + 1 : Nat) : Int) = SI at cc ml am2 ⊢
        simp [L_found_by_1, hf, i4, it, am2, cc, e2, tp, fb, ml]
       ·rw [List.length_append, List.length_singleton]; omega
       ·rw [List.append_assoc, ← g3, runP_cp hin' qf]; rfl
       ·show ((n.length : Int) - ((p : Int) + ((s + 1 : Nat) : Int))).toNat < ((n.length : Int) - (p : Int)).toNat
        omega
    ·have hf : ¬ (p : Int) < ((firstsL few n.cps.toList (s + 1)).length : Int) := by rw [hFl]; omega
     refine one x10 g4' (if_neg (by omega)) ?_
     generalize (ps ++ [Pc.sg [c]]).map pcD = L2 at am ⊢
     generalize ps.map pcD = L1 at am ⊢
     generalize firstsL few n.cps.toList (s + 1) = FD at hf ⊢
     generalize D.dtt ks (chs.map chD) = ED
     generalize cds.map cdD = TD
     generalize keyD few times many = KD
     generalize optD aw = AD
     generalize ((s + 1 : Nat) : Int) = SI
     simp [L_found_by_1, hf, x1, am]
   ·refine .inl ⟨?_, .int (p : Int), optD aw, x9, x10, ?_, g4⟩
    ·generalize D.int ((s + 1 : Nat) : Int) = SD
     simp [C_found_by_1, hlt]
    ·rw [runP_end (by omega), List.append_nil] at g3
     rw [g3]
  ·show ((n.length : Int) - 0).toNat < 5000
   omega
 obtain ⟨δ', eL, x7, x8, x9, x10, rfl, hx⟩ := loop
 have pk : g_plain [.lst (R.map pcD)] = .ok (letD (joinedP R)) := pk
 generalize R.map pcD = RL at eL pk
 generalize letD (joinedP R) = QD at pk ⊢
 generalize firstsL few n.cps.toList (s + 1) = FD at er eL
 generalize D.dtt ks (chs.map chD) = ED at ee eL
 generalize cds.map cdD = TD at ec ee eL ⊢
 generalize keyD few times many = KD at ek er eL ⊢
 generalize ((s + 1 : Nat) : Int) = SI at es er eL ⊢
 simp [g_found_by, F_found_by, ek, es, ec, et, er, ee, eL, hx, pk]
theorem comp_fl {α : Type} {elt : D → Rs D} {tst : D → Rs Bool} (f g : α → D) (t : α → Bool) {xs : List α} (h1 : ∀ x ∈ xs, tst (f x) = .ok (t x)) (h2 : ∀ x ∈ xs, elt (f x) = .ok (g x)) : compL elt tst (xs.map f) = .ok ((xs.filter t).map g) := by
 induction xs with
 | nil => rfl
 | cons x xs ih =>
  have ih := ih (fun y hy => h1 y (List.mem_cons_of_mem _ hy)) fun y hy => h2 y (List.mem_cons_of_mem _ hy)
  rw [List.map_cons]
  unfold compL
  rw [h1 x (List.mem_cons_self ..), h2 x (List.mem_cons_self ..), List.filter_cons]
  cases ht : t x with
  | true => rw [ih]; rfl
  | false => exact ih
noncomputable def blk (cds : List Cd) (c : Cd) : List Nat := (List.range cds.length).filter fun k => decide (cds[k]? = some c)
theorem blk_mem {cds : List Cd} {c : Cd} {k : Nat} : k ∈ blk cds c ↔ cds[k]? = some c := by
 unfold blk
 rw [List.mem_filter, List.mem_range]
 constructor
 ·intro h; simpa using h.2
 ·intro h; exact ⟨(List.getElem?_eq_some_iff.mp h).1, by simpa using h⟩
theorem idxK_min {κ : Type} [DecidableEq κ] : ∀ {ks : List κ} {j : κ} {n : Nat}, idxK ks j = some n → ∀ i, i < n → ks[i]? ≠ some j
 | [], j, n, h => by cases h
 | a :: ks, j, n, h => by
  unfold idxK at h
  split at h
  ·cases h; intro i hi; omega
  ·rename_i e
   obtain ⟨m, q, rfl⟩ := Option.map_eq_some_iff.mp h
   intro i hi
   cases i with
   | zero => simpa using e
   | succ i => simpa using idxK_min q i (by omega)
theorem blk_nil {cds : List Cd} {c : Cd} (h : idxK cds c = none) : blk cds c = [] := by
 cases q : blk cds c with
 | nil => rfl
 | cons k r =>
  have : k ∈ blk cds c := by rw [q]; exact List.mem_cons_self ..
  exact absurd (List.mem_of_getElem? (blk_mem.mp this)) (idxK_none h)
theorem blk_head {cds : List Cd} {c : Cd} {b : Nat} (h : idxK cds c = some b) : (blk cds c)[0]? = some b := by
 rw [← List.head?_eq_getElem?]
 unfold blk
 rw [List.head?_filter, List.find?_range_eq_some]
 refine ⟨by simpa using idxK_get h, by simpa using idxK_lt h, fun j hj => ?_⟩
 simpa using idxK_min h j hj
theorem law_fitting_ok (cds : List Cd) (c : Cd) (hl : cds.length ≤ 100000) : g__law_fitting [.lst (cds.map cdD), cdD c] = .ok (.lst ((blk cds c).map fun k : Nat => D.int (k : Int))) := by
 have r1 := rng1_ok (j := (cds.length : Int)) (by omega)
 rw [Int.toNat_natCast] at r1
 have hlen : (cds.map cdD).length = cds.length := List.length_map ..
 have e1 : rng1 (aC (appF lenR (aC (varD 0) a0)) a0) [some (.v (.lst (cds.map cdD))), some (.v (cdD c))] = .ok (rngD 0 cds.length) := by
  rw [← hlen] at r1 ⊢
  generalize cds.map cdD = TD at r1 ⊢
  generalize rngD 0 TD.length = RD at r1 ⊢
  simp [r1]
 have c1 : compF [("_law_stretch", 1), ("_law_known_here", 0)] (rng1 (aC (appF lenR (aC (varD 0) a0)) a0)) (varD 0) (cmpT eqR (bin2 idxR (varD 2) (varD 0)) (varD 1)) [some (.v (.lst (cds.map cdD))), some (.v (cdD c))] = .ok (.lst ((blk cds c).map fun k : Nat => D.int (k : Int))) := by
  rw [s_compF, e1, ok_bind]
  unfold rngD
  rw [comp_fl (fun k : Nat => D.int (0 + (k : Int))) (fun k : Nat => D.int (k : Int)) (fun k => decide (cds[k]? = some c)) (fun k hk => ?_) (fun k hk => ?_)]
  ·rw [big_ok (by simp; omega)]; rfl
  ·have hk := List.mem_range.mp hk
   rw [Int.zero_add]
   have ix : idxR (.lst (cds.map cdD)) (.int (k : Int)) = .ok (cdD cds[k]) := ix_lst (by rw [List.getElem?_map, List.getElem?_eq_getElem hk]; rfl)
   have hq := cd_eq cds[k] c
   have hd : decide (cds[k]? = some c) = decide (cds[k] = c) := by rw [List.getElem?_eq_getElem hk]; simp
   rw [hd]
   generalize decide (cds[k] = c) = bb at hq ⊢
   generalize cds.map cdD = TD at ix ⊢
   generalize cdD cds[k] = ck at ix hq
   generalize cdD c = cd at hq ⊢
   simp [ix, hq]
  ·rw [Int.zero_add]
   generalize cds.map cdD = TD
   simp
 generalize ((blk cds c).map fun k : Nat => D.int (k : Int)) = BD at c1 ⊢
 generalize cds.map cdD = TD at c1 ⊢
 generalize cdD c = cd at c1 ⊢
 simp [-s_compF, g__law_fitting, F__law_fitting, c1]
noncomputable def lastI : Option Nat → Int
 | none => -5
 | some a => (a : Int) - 1
theorem last_in (cds : List Cd) (c : Cd) (aw : Option Nat) : inIR (.int (lastI aw + 1)) (.lst ((blk cds c).map fun k : Nat => D.int (k : Int))) = .ok (.bl (match aw with | some a => decide (cds[a]? = some c) | none => false)) := by
 have e : ((blk cds c).map fun k : Nat => D.int (k : Int)) = ((blk cds c).map fun k : Nat => (k : Int)).map D.int := by rw [List.map_map]; rfl
 rw [e, in_ints]
 congr 2
 rw [List.any_map]
 cases aw with
 | none =>
  rw [List.any_eq_false]
  intro k _
  simp [lastI]
 | some a =>
  have hl : lastI (some a) + 1 = (a : Int) := by simp [lastI]
  rw [hl, Bool.eq_iff_iff, List.any_eq_true, decide_eq_true_iff, ← blk_mem]
  constructor
  ·rintro ⟨k, hk, e⟩
   have : (k : Int) = (a : Int) := by simpa using e
   have : k = a := by omega
   rw [← this]; exact hk
  ·intro h; exact ⟨a, h, by simp⟩
theorem law_found_ok {few times many : Int} {n : Str} {s : Nat} {cds : List Cd} (hk : KeyOk few times many) (hn : Good 2000 n) (hs : s + 1 ≤ 200) (hl : cds.length ≤ 500) :
  g__law_found [keyD few times many, .int ((s + 1 : Nat) : Int), .lst (cds.map cdD), .str n] = .ok (letD (joinedP (runP cds s n.cps.toList (cardN few times many) 0 none))) := by
 have hnl : n.cps.toList.length = n.length := toList_len n
 have hn1 := hn.1
 obtain ⟨R, hR⟩ : ∃ R, R = runP cds s n.cps.toList (cardN few times many) 0 none := ⟨_, rfl⟩
 obtain ⟨r1, r2, r3, r4⟩ := runP_facts (told := cds) (s := s) (cs := n.cps.toList) (f := cardN few times many) (by omega) hl hn.2 _ 0 none (Nat.le_refl _) (Nat.zero_le _)
 rw [← hR] at r1 r2 r3 r4 ⊢
 have rW : ∀ x ∈ R, PcW x := fun x hx => (r4 x hx).1.w
 have om := of_marks_ok (marks R) (joinedP R) (by omega) (fun x hx => (joined_W rW x hx).v) (groups_joined fun x hx => (rW x hx).v)
 have loop : ∃ δ', whileO C__law_found_1 L__law_found_1 5000 [some (.v (keyD few times many)), some (.v (.int ((s + 1 : Nat) : Int))), some (.v (.lst (cds.map cdD))), some (.v (.str n)), some (.own []), some (.v (.int 0)), some (.v (.int (-5))), none] = .nx δ' ∧
   ∃ (ps : List Pc) (p : Nat) (x6 : D) (x7 : Option Sl), δ' = [some (.v (keyD few times many)), some (.v (.int ((s + 1 : Nat) : Int))), some (.v (.lst (cds.map cdD))), some (.v (.str n)), some (.own (ps.map pcD)), some (.v (.int p)), some (.v x6), x7] ∧ share [x7] = [x7] ∧ ps.length ≤ p ∧ p ≤ n.length ∧ n.length < p + (s + 1) ∧ ps ++ ((n.cps.toList.drop p).map fun c => Pc.sg [c]) = R := by
  refine while_do (fun δ => ∃ (ps : List Pc) (p : Nat) (aw : Option Nat) (x7 : Option Sl), δ = [some (.v (keyD few times many)), some (.v (.int ((s + 1 : Nat) : Int))), some (.v (.lst (cds.map cdD))), some (.v (.str n)), some (.own (ps.map pcD)), some (.v (.int p)), some (.v (.int (lastI aw))), x7] ∧ p ≤ n.length ∧ ps.length ≤ p ∧ share [x7] = [x7] ∧
    ps ++ runP cds s n.cps.toList (cardN few times many) p aw = R)
   (fun δ => match δ with | [_, _, _, _, _, some (.v (.int p)), _, _] => ((n.length : Int) - p).toNat | _ => 0) _ ?_ 5000 _ ⟨[], 0, none, none, rfl, Nat.zero_le _, Nat.le_refl _, rfl, by rw [hR]; rfl⟩ ?_
  ·rintro δ ⟨ps, p, aw, x7, rfl, g1, g2, g4, g3⟩
   by_cases hin : p + (s + 1) ≤ n.length
   ·have hin' : p + (s + 1) ≤ n.cps.toList.length := by omega
    have hlt' : p < n.cps.toList.length := by omega
    have hle : (p : Int) + ((s + 1 : Nat) : Int) ≤ (n.length : Int) := by omega
    have hC : C__law_found_1 [some (.v (keyD few times many)), some (.v (.int ((s + 1 : Nat) : Int))), some (.v (.lst (cds.map cdD))), some (.v (.str n)), some (.own (ps.map pcD)), some (.v (.int p)), some (.v (.int (lastI aw))), x7] = .ok true := by
     generalize ((s + 1 : Nat) : Int) = SI at hle ⊢
     simp [C__law_found_1, hle]
    have x1 := ix_str (z := n) (List.getElem?_eq_getElem hlt')
    have hsg := List.getElem?_eq_getElem hlt'
    generalize n.cps.toList[p] = c at x1 hsg
    have hW := good_sub hn p (s + 1)
    have e2 := law_card_ok hk hW
    rw [codes_strOf] at e2
    have cc := cutT_any n p (p + (s + 1))
    rw [show p + (s + 1) - p = s + 1 by omega] at cc
    have cc : cutT n (some (p : Int)) (some ((p : Int) + ((s + 1 : Nat) : Int))) = strOf (win n.cps.toList p (s + 1)) := cc
    have e2 : g__law_card [keyD few times many, .str (strOf (win n.cps.toList p (s + 1)))] = .ok (cdD (cardN few times many (win n.cps.toList p (s + 1)))) := e2
    have lf := law_fitting_ok cds (cardN few times many (win n.cps.toList p (s + 1))) (by omega)
    refine .inr (.inl ⟨hC, ?_⟩)
    cases qf : fit cds aw (cardN few times many (win n.cps.toList p (s + 1))) with
    | none =>
     rw [blk_nil (fit_none.mp qf)] at lf
     have lf : g__law_fitting [.lst (cds.map cdD), cdD (cardN few times many (win n.cps.toList p (s + 1)))] = .ok (.lst []) := lf
     have q0 : eqR (.lst []) (.lst []) = .ok (.bl true) := by rw [eq_l (by decide)]; simp
     have am := s_appM (ds := ps.map pcD) (d := pcD (.sg [c])) (by rw [List.length_map]; omega)
     rw [show ps.map pcD ++ [pcD (.sg [c])] = (ps ++ [Pc.sg [c]]).map pcD by rw [List.map_append]; rfl] at am
     have am : appM (ps.map pcD) [.tup [.str "signs", .str (chr1 c)]] = .ok ((ps ++ [Pc.sg [c]]).map pcD) := am
     refine ⟨[some (.v (keyD few times many)), some (.v (.int ((s + 1 : Nat) : Int))), some (.v (.lst (cds.map cdD))), some (.v (.str n)), some (.own ((ps ++ [Pc.sg [c]]).map pcD)), some (.v (.int ((p : Int) + 1))), some (.v (.int (-5))), some (.v (.lst []))], .inl ?_,
      ⟨ps ++ [.sg [c]], p + 1, none, _, rfl, by omega, ?_, rfl, ?_⟩, ?_⟩
     ·generalize (ps ++ [Pc.sg [c]]).map pcD = L2 at am ⊢
      generalize ps.map pcD = L1 at am ⊢
      generalize cdD (cardN few times many (win n.cps.toList p (s + 1))) = CD at e2 lf
      generalize strOf (win n.cps.toList p (s + 1)) = W at cc e2
      generalize cds.map cdD = TD at lf ⊢
      generalize keyD few times many = KD at e2 ⊢
      generalize ((s + 1 : Nat) : Int) = SI at cc ⊢
      simp [L__law_found_1, cc, e2, lf, q0, x1, am]
     ·rw [List.length_append, List.length_singleton]; omega
     ·rw [List.append_assoc, ← g3, runP_sg hsg (by rw [if_pos hin']; exact qf)]; rfl
     ·show ((n.length : Int) - ((p : Int) + 1)).toNat < ((n.length : Int) - (p : Int)).toNat
      omega
    | some b =>
     have hb := fit_lt qf
     obtain ⟨f0, hf0⟩ : ∃ f0, idxK cds (cardN few times many (win n.cps.toList p (s + 1))) = some f0 := by
      cases q : idxK cds (cardN few times many (win n.cps.toList p (s + 1))) with
      | some f0 => exact ⟨f0, rfl⟩
      | none => rw [fit_none.mpr q] at qf; cases qf
     have hh := blk_head hf0
     have li := last_in cds (cardN few times many (win n.cps.toList p (s + 1))) aw
     have i0 : idxR (.lst ((blk cds (cardN few times many (win n.cps.toList p (s + 1)))).map fun k : Nat => D.int (k : Int))) (.int 0) = .ok (.int (f0 : Int)) := ix_lst (i := 0) (by rw [List.getElem?_map, hh]; rfl)
     have q0 : eqR (.lst ((blk cds (cardN few times many (win n.cps.toList p (s + 1)))).map fun k : Nat => D.int (k : Int))) (.lst []) = .ok (.bl false) := by
      cases q : blk cds (cardN few times many (win n.cps.toList p (s + 1))) with
      | nil => rw [q] at hh; cases hh
      | cons k r =>
       rw [List.map_cons]
       have hd : deps (D.int (k : Int) :: r.map fun k : Nat => D.int (k : Int)) ≤ 1 := deps_le fun d hd => by
        rcases List.mem_cons.mp hd with rfl | hd
        ·simp
        ·obtain ⟨z, _, rfl⟩ := List.mem_map.mp hd; simp
       rw [eq_l (by rw [dep_lst]; omega) (by rw [← List.map_cons (f := fun k : Nat => D.int (k : Int)), lay_lst]; exact layL_map (fun _ => rfl) _)]
       rfl
     generalize hB : ((blk cds (cardN few times many (win n.cps.toList p (s + 1)))).map fun k : Nat => D.int (k : Int)) = BD at lf li i0 q0
     have pick : ∃ bb : Bool, inIR (.int (lastI aw + 1)) (.lst BD) = .ok (.bl bb) ∧ idxR (.lst [.int (f0 : Int), .int (lastI aw + 1)]) (.int (if bb then 1 else 0)) = .ok (.int (b : Int)) := by
      unfold fit at qf
      cases aw with
      | none =>
       refine ⟨false, li, ?_⟩
       have qf : idxK cds _ = some b := qf
       rw [hf0] at qf; cases qf
       exact ix_lst (i := 0) rfl
      | some a =>
       dsimp only at qf li
       by_cases he : cds[a]? = some (cardN few times many (win n.cps.toList p (s + 1)))
       ·rw [if_pos he] at qf; cases qf
        rw [decide_eq_true he] at li
        refine ⟨true, li, ?_⟩
        have hla : lastI (some b) + 1 = (b : Int) := by simp [lastI]
        rw [hla]
        exact ix_lst (i := 1) rfl
       ·rw [if_neg he] at qf
        rw [decide_eq_false he] at li
        refine ⟨false, li, ?_⟩
        rw [hf0] at qf; cases qf
        exact ix_lst (i := 0) rfl
     obtain ⟨bb, li, ip⟩ := pick
     have it : intR [.bl bb] = .ok (.int (if bb then 1 else 0)) := by cases bb <;> rfl
     have l2 : ∀ a b : D, lstR [a, b] = .ok (.lst [a, b]) := fun _ _ => rfl
     have ml := mul_l (i := (b : Int)) (j := ((s + 1 : Nat) : Int)) (by omega)
     have am2 := s_appM (ds := ps.map pcD) (d := pcD (.cp (b * (s + 1)) (s + 1))) (by rw [List.length_map]; omega)
     rw [show ps.map pcD ++ [pcD (.cp (b * (s + 1)) (s + 1))] = (ps ++ [Pc.cp (b * (s + 1)) (s + 1)]).map pcD by rw [List.map_append]; rfl] at am2
     have am2 : appM (ps.map pcD) [.tup [.str "copy", .int ((b : Int) * ((s + 1 : Nat) : Int)), .int ((s + 1 : Nat) : Int)]] = .ok ((ps ++ [Pc.cp (b * (s + 1)) (s + 1)]).map pcD) := by
      rw [← Int.natCast_mul]; exact am2
     refine ⟨[some (.v (keyD few times many)), some (.v (.int ((s + 1 : Nat) : Int))), some (.v (.lst (cds.map cdD))), some (.v (.str n)), some (.own ((ps ++ [Pc.cp (b * (s + 1)) (s + 1)]).map pcD)), some (.v (.int ((p : Int) + ((s + 1 : Nat) : Int)))), some (.v (.int (b : Int))), some (.v (.lst BD))], .inl ?_,
      ⟨ps ++ [.cp (b * (s + 1)) (s + 1)], p + (s + 1), some (b + 1), some (.v (.lst BD)), ?_, hin, ?_, rfl, ?_⟩, ?_⟩
     ·generalize (ps ++ [Pc.cp (b * (s + 1)) (s + 1)]).map pcD = L2 at am2 ⊢
      generalize ps.map pcD = L1 at am2 ⊢
      generalize cdD (cardN few times many (win n.cps.toList p (s + 1))) = CD at e2 lf
      generalize strOf (win n.cps.toList p (s + 1)) = W at cc e2
      generalize cds.map cdD = TD at lf ⊢
      generalize keyD few times many = KD at e2 ⊢
      generalize ((s + 1 : Nat) : Int) = SI at cc ml am2 ⊢
      generalize (if bb then (1 : Int) else 0) = bi at it ip
      generalize lastI aw = la at li ip ⊢
      simp [L__law_found_1, cc, e2, lf, q0, i0, li, it, l2, ip, am2, ml]
     ·have : lastI (some (b + 1)) = (b : Int) := by simp [lastI]
      rw [this]; rfl
     ·rw [List.length_append, List.length_singleton]; omega
     ·rw [List.append_assoc, ← g3, runP_cp hin' qf]; rfl
     ·show ((n.length : Int) - ((p : Int) + ((s + 1 : Nat) : Int))).toNat < ((n.length : Int) - (p : Int)).toNat
      omega
   ·refine .inl ⟨?_, ps, p, _, x7, rfl, g4, g2, g1, by omega, ?_⟩
    ·have hle : ¬ (p : Int) + ((s + 1 : Nat) : Int) ≤ (n.length : Int) := by omega
     generalize ((s + 1 : Nat) : Int) = SI at hle ⊢
     simp [C__law_found_1, hle]
    ·rw [← g3, runP_tail _ p aw (Nat.le_refl _) (by omega)]
  ·show ((n.length : Int) - 0).toNat < 5000
   omega
 obtain ⟨δ', eL, ps, p, x6, x7, rfl, hx, hp1, hp2, hp3, hps⟩ := loop
 have mk : marks ps ++ (n.cps.toList.drop p).map Mk.s = marks R := by
  have key : ∀ w : List Nat, marks (w.map fun c => Pc.sg [c]) = w.map Mk.s := by
   intro w
   induction w with
   | nil => rfl
   | cons a w ih => rw [List.map_cons, List.map_cons, ← ih]; rfl
  rw [← hps, ← key]
  unfold marks
  rw [List.flatMap_append]
 have bnd : ∀ x ∈ ps, match x with | .cp a m => a + m ≤ 1000000 | .sg _ => True := fun x hx => (r4 x (by rw [← hps]; exact List.mem_append_left _ hx)).2
 by_cases hlt : p < n.length
 ·have hlt' : (p : Int) < (n.length : Int) := by omega
  have mk2 : marks (ps ++ [Pc.sg (n.cps.toList.drop p)]) = marks R := by rw [← mk]; simp [marks, marksOf]
  have lm := law_marks_ok (ps ++ [Pc.sg (n.cps.toList.drop p)]) (by rw [mk2]; omega) (fun x hx => by
   rcases List.mem_append.mp hx with h | h
   ·exact bnd x h
   ·rw [List.mem_singleton.mp h]; trivial)
  rw [mk2] at lm
  have cf := cutT_from n p
  have am := s_appM (ds := ps.map pcD) (d := pcD (.sg (n.cps.toList.drop p))) (by rw [List.length_map]; omega)
  rw [show ps.map pcD ++ [pcD (.sg (n.cps.toList.drop p))] = (ps ++ [Pc.sg (n.cps.toList.drop p)]).map pcD by rw [List.map_append]; rfl] at am
  have am : appM (ps.map pcD) [.tup [.str "signs", .str (strOf (n.cps.toList.drop p))]] = .ok ((ps ++ [Pc.sg (n.cps.toList.drop p)]).map pcD) := am
  have lm : g__law_marks [.lst ((ps ++ [Pc.sg (n.cps.toList.drop p)]).map pcD)] = _ := lm
  generalize letD (joinedP R) = QD at om ⊢
  generalize (marks R).map mkD = MD at lm om
  generalize (ps ++ [Pc.sg (n.cps.toList.drop p)]).map pcD = L2 at am lm
  generalize ps.map pcD = L1 at eL am
  generalize strOf (n.cps.toList.drop p) = W at cf am
  generalize cds.map cdD = TD at eL ⊢
  generalize keyD few times many = KD at eL ⊢
  generalize ((s + 1 : Nat) : Int) = SI at eL ⊢
  simp [g__law_found, F__law_found, eL, hlt', cf, am, hx, lm, om]
 ·have hlt' : ¬ (p : Int) < (n.length : Int) := by omega
  have mk2 : marks ps = marks R := by
   rw [← mk, List.drop_eq_nil_of_le (by omega)]; simp
  have lm := law_marks_ok ps (by rw [mk2]; omega) bnd
  rw [mk2] at lm
  have lm : g__law_marks [.lst (ps.map pcD)] = _ := lm
  generalize letD (joinedP R) = QD at om ⊢
  generalize (marks R).map mkD = MD at lm om
  generalize ps.map pcD = L1 at eL lm
  generalize cds.map cdD = TD at eL ⊢
  generalize keyD few times many = KD at eL ⊢
  generalize ((s + 1 : Nat) : Int) = SI at eL ⊢
  simp [g__law_found, F__law_found, eL, hlt', hx, lm, om]
noncomputable def cardsN (few times many : Int) (cs : List Nat) (size : Nat) : List Cd := (List.range (cs.length / size)).map fun k => cardN few times many (win cs (k * size) size)
theorem cardsN_D (few times many : Int) (cs : List Nat) (size : Nat) : cardsL few times many cs size = (cardsN few times many cs size).map cdD := by
 unfold cardsL cardsN
 rw [List.map_map]
 rfl
theorem cardN_pos {few times many : Int} (hk : KeyOk few times many) (w : List Nat) : 0 ≤ (cardN few times many w).1 ∧ 0 ≤ (cardN few times many w).2.1 ∧ 0 ≤ (cardN few times many w).2.2 := by
 have h1 := hk.f1
 have h2 := hk.m1
 exact ⟨Int.emod_nonneg _ (by omega), Int.emod_nonneg _ (by omega), Int.emod_nonneg _ (by omega)⟩
noncomputable def wsD (times many : Int) (t : Str) : D := .tup [.int (t.length : Int), .int (horner (times + 1) 0 t.cps.toList % many)]
theorem whole_sum_ok {few times many : Int} {t : Str} (hk : KeyOk few times many) (h : Good 2000 t) : g_whole_sum [keyD few times many, .str t] = .ok (wsD times many t) := by
 have ek := check_key_ok hk
 have et := check_text_ok h
 have e2 := chained_ok (times := times + 1) (many := many) (t := t) ⟨by have := hk.t1; omega, by have := hk.t2; omega⟩ hk.m1
 have i1 : idxR (keyD few times many) (.int 1) = .ok (.int times) := by simp [keyD]
 have i2 : idxR (keyD few times many) (.int 2) = .ok (.int many) := by simp [keyD]
 unfold wsD
 generalize keyD few times many = KD at ek i1 i2 ⊢
 simp [g_whole_sum, F_whole_sum, ek, et, i1, i2, e2]
theorem law_whole_sum_ok {few times many : Int} {t : Str} (hk : KeyOk few times many) : g__law_whole_sum [keyD few times many, .str t] = .ok (wsD times many t) := by
 have e2 := law_second_ok (times := times + 1) (many := many) (t := t) ⟨by have := hk.t1; omega, by have := hk.t2; omega⟩ hk.m1
 have i1 : idxR (keyD few times many) (.int 1) = .ok (.int times) := by simp [keyD]
 have i2 : idxR (keyD few times many) (.int 2) = .ok (.int many) := by simp [keyD]
 unfold wsD
 generalize keyD few times many = KD at i1 i2 ⊢
 simp [g__law_whole_sum, F__law_whole_sum, i1, i2, e2]
theorem ws_eq (times many : Int) (a b : Str) : eqR (wsD times many a) (wsD times many b) = .ok (.bl (eqB (wsD times many a) (wsD times many b))) := eq_l (by simp [wsD]) (by simp [wsD]) (by simp [wsD])
theorem ws_ne (times many : Int) (a b : Str) : neR (wsD times many a) (wsD times many b) = .ok (.bl (!(eqB (wsD times many a) (wsD times many b)))) := ne_l (by simp [wsD]) (by simp [wsD]) (by simp [wsD])
theorem for_hit {α : Type} {tg : D → DS → Option DS} {F : FS} (f : α → D) (P : DS → Prop) (t : α → Bool) (r : D) : ∀ {xs : List α} {δ : DS}, P δ →
  (∀ x ∈ xs, ∀ δ, P δ → ∃ δ1, tg (f x) δ = some δ1 ∧ ((t x = true ∧ F δ1 = .rt r) ∨ (t x = false ∧ ∃ δ2, F δ1 = .nx δ2 ∧ P δ2))) → (∃ x ∈ xs, t x = true) → forO tg F (xs.map f) δ = .rt r
 | [], δ, h, st, hx => by obtain ⟨x, hx, _⟩ := hx; simp at hx
 | x :: xs, δ, h, st, hx => by
  obtain ⟨δ1, e1, e2⟩ := st x (List.mem_cons_self ..) δ h
  rw [List.map_cons]
  unfold forO
  rw [e1]
  dsimp only
  rcases e2 with ⟨_, e2⟩ | ⟨ht, δ2, e2, h2⟩
  ·rw [e2]
  ·rw [e2]
   refine for_hit f P t r h2 (fun y hy => st y (List.mem_cons_of_mem _ hy)) ?_
   obtain ⟨y, hy, hty⟩ := hx
   rcases List.mem_cons.mp hy with rfl | hy
   ·rw [ht] at hty; cases hty
   ·exact ⟨y, hy, hty⟩
theorem run_chance {few times many : Int} {es ns : List Nat} {s : Nat} : ∀ (k p : Nat) (aw : Option Nat), ns.length - p ≤ k → p ≤ ns.length →
  (madeL es (runP (cardsN few times many es (s + 1)) s ns (cardN few times many) p aw)).length = ns.length - p ∧
  (madeL es (runP (cardsN few times many es (s + 1)) s ns (cardN few times many) p aw) ≠ ns.drop p → ∃ q b, p ≤ q ∧ q + (s + 1) ≤ ns.length ∧ b + (s + 1) ≤ es.length ∧
   win (madeL es (runP (cardsN few times many es (s + 1)) s ns (cardN few times many) p aw)) (q - p) (s + 1) = win es b (s + 1) ∧ cardN few times many (win es b (s + 1)) = cardN few times many (win ns q (s + 1)) ∧ win es b (s + 1) ≠ win ns q (s + 1))
 | 0, p, aw, hk, hp => by
  rw [runP_end (by omega)]
  refine ⟨by simp [madeL]; omega, fun h => absurd ?_ h⟩
  rw [List.drop_eq_nil_of_le (by omega)]; rfl
 | k + 1, p, aw, hk, hp => by
  by_cases hlt : p < ns.length
  ·cases q : (if p + (s + 1) ≤ ns.length then fit (cardsN few times many es (s + 1)) aw (cardN few times many (win ns p (s + 1))) else none) with
   | none =>
    obtain ⟨i1, i2⟩ := run_chance (es := es) (ns := ns) (few := few) (times := times) (many := many) (s := s) k (p + 1) none (by omega) (by omega)
    rw [runP_sg (List.getElem?_eq_getElem hlt) q]
    have em : madeL es (.sg [ns[p]] :: runP (cardsN few times many es (s + 1)) s ns (cardN few times many) (p + 1) none) = ns[p] :: madeL es (runP (cardsN few times many es (s + 1)) s ns (cardN few times many) (p + 1) none) := rfl
    rw [em]
    refine ⟨by rw [List.length_cons, i1]; omega, fun h => ?_⟩
    rw [List.drop_eq_getElem_cons hlt] at h
    obtain ⟨q, b, q1, q2, q3, q4, q5⟩ := i2 fun z => h (by rw [z])
    refine ⟨q, b, by omega, q2, q3, ?_, q5⟩
    rw [← q4]
    unfold win
    rw [show q - p = (q - (p + 1)) + 1 by omega, List.drop_succ_cons]
   | some b =>
    have hle : p + (s + 1) ≤ ns.length := by
     by_cases h : p + (s + 1) ≤ ns.length
     ·exact h
     ·rw [if_neg h] at q; cases q
    rw [if_pos hle] at q
    obtain ⟨i1, i2⟩ := run_chance (es := es) (ns := ns) (few := few) (times := times) (many := many) (s := s) k (p + (s + 1)) (some (b + 1)) (by omega) hle
    have hb := fit_lt q
    have ha := fit_at q
    have hbl : b < es.length / (s + 1) := by unfold cardsN at hb; simpa using hb
    have hbe : b * (s + 1) + (s + 1) ≤ es.length := by
     have h1 : (b + 1) * (s + 1) ≤ es.length := Nat.le_trans (Nat.mul_le_mul_right _ hbl) (Nat.div_mul_le_self _ _)
     rw [Nat.add_mul, Nat.one_mul] at h1
     exact h1
    have hca : cardN few times many (win es (b * (s + 1)) (s + 1)) = cardN few times many (win ns p (s + 1)) := by
     unfold cardsN at ha
     rw [List.getElem?_map, List.getElem?_range hbl] at ha
     exact Option.some.inj ha
    rw [runP_cp hle q]
    have em : madeL es (.cp (b * (s + 1)) (s + 1) :: runP (cardsN few times many es (s + 1)) s ns (cardN few times many) (p + (s + 1)) (some (b + 1))) = win es (b * (s + 1)) (s + 1) ++ madeL es (runP (cardsN few times many es (s + 1)) s ns (cardN few times many) (p + (s + 1)) (some (b + 1))) := rfl
    rw [em]
    have hw : (win es (b * (s + 1)) (s + 1)).length = s + 1 := by unfold win; rw [List.length_take, List.length_drop]; omega
    refine ⟨by rw [List.length_append, i1, hw]; omega, fun h => ?_⟩
    by_cases hsame : win es (b * (s + 1)) (s + 1) = win ns p (s + 1)
    ·have hd : ns.drop p = win ns p (s + 1) ++ ns.drop (p + (s + 1)) := by
      unfold win
      rw [← List.drop_drop, List.take_append_drop]
     rw [hd, hsame] at h
     obtain ⟨q, b', q1, q2, q3, q4, q5⟩ := i2 fun z => h (by rw [z])
     refine ⟨q, b', by omega, q2, q3, ?_, q5⟩
     rw [← q4]
     unfold win at hw ⊢
     rw [show q - p = (s + 1) + (q - (p + (s + 1))) by omega, ← List.drop_drop]
     congr 2
     rw [List.drop_append, hw]
     simp [List.drop_eq_nil_of_le (Nat.le_of_eq hw)]
    ·refine ⟨p, b * (s + 1), Nat.le_refl _, hle, hbe, ?_, hca, hsame⟩
     have key : ∀ a b : List Nat, a.length = s + 1 → win (a ++ b) 0 (s + 1) = a := fun a b h => by
      unfold win
      rw [List.drop_zero, List.take_left' h]
     rw [Nat.sub_self]
     exact key _ _ hw
  ·rw [runP_end hlt]
   refine ⟨by simp [madeL]; omega, fun h => absurd ?_ h⟩
   rw [List.drop_eq_nil_of_le (by omega)]; rfl
theorem strOf_inj2 {a b : List Nat} (h : strOf a = strOf b) : a = b := by
 have := congrArg (fun s : Str => s.cps.toList) h
 simpa [codes_strOf] using this
theorem has_chance_ok {few times many : Int} {e n m : Str} {s : Nat} (hk : KeyOk few times many) (hn : Good 2000 n) (hm : Good 2000 m)
  (hq : ∃ q b, q + (s + 1) ≤ n.cps.toList.length ∧ b + (s + 1) ≤ e.cps.toList.length ∧ win m.cps.toList q (s + 1) = win e.cps.toList b (s + 1) ∧ cardN few times many (win e.cps.toList b (s + 1)) = cardN few times many (win n.cps.toList q (s + 1)) ∧ win e.cps.toList b (s + 1) ≠ win n.cps.toList q (s + 1)) :
  g__law_has_chance [keyD few times many, .int ((s + 1 : Nat) : Int), .str e, .str n, .str m] = .ok (.bl true) := by
 have hnl : n.cps.toList.length = n.length := toList_len n
 have hn1 := hn.1
 obtain ⟨q, b, q1, q2, q3, q4, q5⟩ := hq
 have r1 := rng1_ok (j := (n.length : Int) - ((s + 1 : Nat) : Int) + 1) (by omega)
 obtain ⟨N, hN⟩ : ∃ N : Nat, N = n.length - (s + 1) + 1 := ⟨_, rfl⟩
 rw [show ((n.length : Int) - ((s + 1 : Nat) : Int) + 1).toNat = N by omega] at r1
 have loop : forO (tgN 5) L__law_has_chance_1 (rngD 0 N) [some (.v (keyD few times many)), some (.v (.int ((s + 1 : Nat) : Int))), some (.v (.str e)), some (.v (.str n)), some (.v (.str m)), none, none, none] = .rt (.bl true) := by
  unfold rngD
  refine for_hit (fun k : Nat => D.int (0 + (k : Int))) (fun δ => ∃ x5 x6 x7, δ = [some (.v (keyD few times many)), some (.v (.int ((s + 1 : Nat) : Int))), some (.v (.str e)), some (.v (.str n)), some (.v (.str m)), x5, x6, x7])
   (fun k => decide (win m.cps.toList k (s + 1) ≠ win n.cps.toList k (s + 1)) && (decide (cardN few times many (win m.cps.toList k (s + 1)) = cardN few times many (win n.cps.toList k (s + 1))) && inSB (strOf (win m.cps.toList k (s + 1))) e)) _ ⟨_, _, _, rfl⟩ ?_ ⟨q, ?_, ?_⟩
  ·rintro k hkN δ ⟨x5, x6, x7, rfl⟩
   refine ⟨_, rfl, ?_⟩
   have hkN := List.mem_range.mp hkN
   show _ ∨ (_ ∧ ∃ δ2, L__law_has_chance_1 [some (.v (keyD few times many)), some (.v (.int ((s + 1 : Nat) : Int))), some (.v (.str e)), some (.v (.str n)), some (.v (.str m)), some (.v (.int (0 + (k : Int)))), x6, x7] = .nx δ2 ∧ _)
   rw [Int.zero_add]
   have c1 := law_card_ok hk (good_sub hm k (s + 1))
   have c2 := law_card_ok hk (good_sub hn k (s + 1))
   rw [codes_strOf] at c1 c2
   have c1 : g__law_card [keyD few times many, .str (strOf (win m.cps.toList k (s + 1)))] = .ok (cdD (cardN few times many (win m.cps.toList k (s + 1)))) := c1
   have c2 : g__law_card [keyD few times many, .str (strOf (win n.cps.toList k (s + 1)))] = .ok (cdD (cardN few times many (win n.cps.toList k (s + 1)))) := c2
   have d1 := cutT_any m k (k + (s + 1))
   have d2 := cutT_any n k (k + (s + 1))
   rw [show k + (s + 1) - k = s + 1 by omega] at d1 d2
   have d1 : cutT m (some (k : Int)) (some ((k : Int) + ((s + 1 : Nat) : Int))) = strOf (win m.cps.toList k (s + 1)) := d1
   have d2 : cutT n (some (k : Int)) (some ((k : Int) + ((s + 1 : Nat) : Int))) = strOf (win n.cps.toList k (s + 1)) := d2
   have hc := cd_eq (cardN few times many (win m.cps.toList k (s + 1))) (cardN few times many (win n.cps.toList k (s + 1)))
   by_cases hw : win m.cps.toList k (s + 1) = win n.cps.toList k (s + 1)
   ·refine .inr ⟨by simp [hw], [some (.v (keyD few times many)), some (.v (.int ((s + 1 : Nat) : Int))), some (.v (.str e)), some (.v (.str n)), some (.v (.str m)), some (.v (.int (k : Int))), some (.v (.str (strOf (win m.cps.toList k (s + 1))))), some (.v (.str (strOf (win n.cps.toList k (s + 1)))))], ?_, _, _, _, rfl⟩
    have ne0 : neR (.str (strOf (win m.cps.toList k (s + 1)))) (.str (strOf (win n.cps.toList k (s + 1)))) = .ok (.bl false) := by
     rw [ne_l (by simp) (by simp) (by simp), hw]; simp
    generalize strOf (win m.cps.toList k (s + 1)) = S1 at d1 ne0 ⊢
    generalize strOf (win n.cps.toList k (s + 1)) = S2 at d2 ne0 ⊢
    generalize keyD few times many = KD
    generalize ((s + 1 : Nat) : Int) = SI at d1 d2 ⊢
    simp [L__law_has_chance_1, d1, d2, ne0]
   ·have ne1 : neR (.str (strOf (win m.cps.toList k (s + 1)))) (.str (strOf (win n.cps.toList k (s + 1)))) = .ok (.bl true) := by
     rw [ne_l (by simp) (by simp) (by simp), eqB_str]
     have : ¬ strOf (win m.cps.toList k (s + 1)) = strOf (win n.cps.toList k (s + 1)) := fun z => hw (strOf_inj2 z)
     simp [this]
    by_cases hcc : cardN few times many (win m.cps.toList k (s + 1)) = cardN few times many (win n.cps.toList k (s + 1))
    ·rw [decide_eq_true hcc] at hc
     have hin := s_inAs (strOf (win m.cps.toList k (s + 1))) e
     cases hi : inSB (strOf (win m.cps.toList k (s + 1))) e with
     | true =>
      rw [hi] at hin
      refine .inl ⟨by simp [hw, hcc], ?_⟩
      show L__law_has_chance_1 [some (.v (keyD few times many)), some (.v (.int ((s + 1 : Nat) : Int))), some (.v (.str e)), some (.v (.str n)), some (.v (.str m)), some (.v (.int (k : Int))), x6, x7] = _
      generalize cdD (cardN few times many (win m.cps.toList k (s + 1))) = C1 at c1 hc
      generalize cdD (cardN few times many (win n.cps.toList k (s + 1))) = C2 at c2 hc
      generalize strOf (win m.cps.toList k (s + 1)) = S1 at d1 c1 ne1 hin ⊢
      generalize strOf (win n.cps.toList k (s + 1)) = S2 at d2 c2 ne1 ⊢
      generalize keyD few times many = KD at c1 c2 ⊢
      generalize ((s + 1 : Nat) : Int) = SI at d1 d2 ⊢
      simp [-s_inAs, L__law_has_chance_1, d1, d2, ne1, c1, c2, hc, hin]
     | false =>
      rw [hi] at hin
      refine .inr ⟨by simp, [some (.v (keyD few times many)), some (.v (.int ((s + 1 : Nat) : Int))), some (.v (.str e)), some (.v (.str n)), some (.v (.str m)), some (.v (.int (k : Int))), some (.v (.str (strOf (win m.cps.toList k (s + 1))))), some (.v (.str (strOf (win n.cps.toList k (s + 1)))))], ?_, _, _, _, rfl⟩
      generalize cdD (cardN few times many (win m.cps.toList k (s + 1))) = C1 at c1 hc
      generalize cdD (cardN few times many (win n.cps.toList k (s + 1))) = C2 at c2 hc
      generalize strOf (win m.cps.toList k (s + 1)) = S1 at d1 c1 ne1 hin ⊢
      generalize strOf (win n.cps.toList k (s + 1)) = S2 at d2 c2 ne1 ⊢
      generalize keyD few times many = KD at c1 c2 ⊢
      generalize ((s + 1 : Nat) : Int) = SI at d1 d2 ⊢
      simp [-s_inAs, L__law_has_chance_1, d1, d2, ne1, c1, c2, hc, hin]
    ·rw [decide_eq_false hcc] at hc
     refine .inr ⟨by simp [hcc], [some (.v (keyD few times many)), some (.v (.int ((s + 1 : Nat) : Int))), some (.v (.str e)), some (.v (.str n)), some (.v (.str m)), some (.v (.int (k : Int))), some (.v (.str (strOf (win m.cps.toList k (s + 1))))), some (.v (.str (strOf (win n.cps.toList k (s + 1)))))], ?_, _, _, _, rfl⟩
     generalize cdD (cardN few times many (win m.cps.toList k (s + 1))) = C1 at c1 hc
     generalize cdD (cardN few times many (win n.cps.toList k (s + 1))) = C2 at c2 hc
     generalize strOf (win m.cps.toList k (s + 1)) = S1 at d1 c1 ne1 ⊢
     generalize strOf (win n.cps.toList k (s + 1)) = S2 at d2 c2 ne1 ⊢
     generalize keyD few times many = KD at c1 c2 ⊢
     generalize ((s + 1 : Nat) : Int) = SI at d1 d2 ⊢
     simp [L__law_has_chance_1, d1, d2, ne1, c1, c2, hc]
  ·rw [List.mem_range]; omega
  ·have hi : inSB (strOf (win e.cps.toList b (s + 1))) e = true := by
    rw [inSB_iff, codes_strOf]
    refine ⟨b, ?_, ?_⟩
    ·unfold win; rw [List.length_take, List.length_drop]; omega
    ·have hwl : (win e.cps.toList b (s + 1)).length = s + 1 := by unfold win; rw [List.length_take, List.length_drop]; omega
     rw [hwl]; rfl
   rw [q3, hi, q4]
   simp [q5]
 generalize rngD 0 N = RD at r1 loop
 generalize keyD few times many = KD at loop ⊢
 generalize ((s + 1 : Nat) : Int) = SI at r1 loop ⊢
 simp [g__law_has_chance, F__law_has_chance, r1, loop]
theorem all_signs_ok {n : Str} (h : 0 < n.length) : g_all_signs [.str n] = .ok (.lst [.tup [.str "signs", .str n]]) := by
 have h2 : (0 : Int) < (n.length : Int) := by omega
 have l1 : ∀ a : D, lstR [a] = .ok (.lst [a]) := fun _ => rfl
 simp [g_all_signs, F_all_signs, h, h2, l1]
theorem made_okc {es : List Nat} (he : ∀ c ∈ es, okc c) {ps : List Pc} (h : ∀ x ∈ ps, PcG x) : ∀ c ∈ madeL es ps, okc c := fun c hc => by
 unfold madeL at hc
 obtain ⟨w, hw, hcw⟩ := List.mem_flatten.mp hc
 obtain ⟨x, hx, rfl⟩ := List.mem_map.mp hw
 cases x with
 | cp a m => exact he c (List.mem_of_mem_drop (List.mem_of_mem_take hcw))
 | sg w => exact (h _ hx).2.2 c hcw
theorem run_in {few times many : Int} {es ns : List Nat} {s : Nat} : ∀ (k p : Nat) (aw : Option Nat), ns.length - p ≤ k → ∀ x ∈ runP (cardsN few times many es (s + 1)) s ns (cardN few times many) p aw, PcIn es.length x
 | 0, p, aw, hk => by rw [runP_end (by omega)]; intro x hx; simp at hx
 | k + 1, p, aw, hk => by
  by_cases hlt : p < ns.length
  ·cases q : (if p + (s + 1) ≤ ns.length then fit (cardsN few times many es (s + 1)) aw (cardN few times many (win ns p (s + 1))) else none) with
   | none =>
    rw [runP_sg (List.getElem?_eq_getElem hlt) q]
    intro x hx
    rcases List.mem_cons.mp hx with rfl | hx
    ·trivial
    ·exact run_in k (p + 1) none (by omega) x hx
   | some b =>
    have hle : p + (s + 1) ≤ ns.length := by
     by_cases h : p + (s + 1) ≤ ns.length
     ·exact h
     ·rw [if_neg h] at q; cases q
    rw [if_pos hle] at q
    rw [runP_cp hle q]
    have hb := fit_lt q
    have hbl : b < es.length / (s + 1) := by unfold cardsN at hb; simpa using hb
    intro x hx
    rcases List.mem_cons.mp hx with rfl | hx
    ·show b * (s + 1) + (s + 1) ≤ es.length
     have h1 : (b + 1) * (s + 1) ≤ es.length := Nat.le_trans (Nat.mul_le_mul_right _ hbl) (Nat.div_mul_le_self _ _)
     rw [Nat.add_mul, Nat.one_mul] at h1
     exact h1
    ·exact run_in k (p + (s + 1)) (some (b + 1)) (by omega) x hx
  ·rw [runP_end hlt]; intro x hx; simp at hx
theorem math (ns : List Int) (hn : ns.length ≤ 63) : g_law [.lst (ns.map D.int)] = .ok (.bl true) := by
 obtain ⟨e, ee, he⟩ := text_ok ns 4 40 (by decide)
 have hel := he.1
 have hL := toList_len e
 obtain ⟨n0, en, hnG⟩ := law_newer_ok ns 8 e (by decide) (he.mono (by decide))
 obtain ⟨n1, en1, hn1G⟩ := text_ok ns 27 40 (by decide)
 obtain ⟨few, times, many, ek, hk⟩ := key_ok ns 0
 obtain ⟨z, ez, z0, z1⟩ := mixed_ok ns 3 (m := 6) (by decide)
 obtain ⟨m, rfl⟩ := Int.eq_ofNat_of_zero_le z0
 obtain ⟨y, ey, y0, y1⟩ := mixed_ok ns 26 (m := 6) (by decide)
 have he := he.mono (m := 2000) (by decide)
 have kn := law_known_ok (size := m + 1) hk he (by omega) (by omega)
 have kc := cards_ok (size := m + 1) hk he (by omega) (by omega)
 rw [cardsN_D] at kn kc
 have hcl : (cardsN few times many e.cps.toList (m + 1)).length ≤ 500 := by
  unfold cardsN
  rw [List.length_map, List.length_range]
  have := Nat.div_le_self e.cps.toList.length (m + 1)
  omega
 have hcp : ∀ c ∈ cardsN few times many e.cps.toList (m + 1), 0 ≤ c.1 ∧ 0 ≤ c.2.1 ∧ 0 ≤ c.2.2 := fun c hc => by
  unfold cardsN at hc
  obtain ⟨k, _, rfl⟩ := List.mem_map.mp hc
  exact cardN_pos hk _
 have s1 : (((m + 1 : Nat)) : Int) = 1 + (m : Int) := by omega
 have tail : ∀ n : Str, Good 56 n → fin ((seqO (setS 5 (appF g_talk (aC (varD 3) (aC (varD 4) (aC (varD 1) (aC (varD 2) a0))))))
   (seqO (setS 6 (appF g__law_found (aC (varD 3) (aC (varD 4) (aC (appF g__law_known (aC (varD 3) (aC (varD 4) (aC (varD 1) a0)))) (aC (varD 2) a0))))))
   (seqO (setS 7 (appF g__law_made (aC (varD 1) (aC (varD 6) a0))))
   (seqO (ifS (cmpT neR (appF g__law_whole_sum (aC (varD 3) (aC (varD 7) a0))) (appF g__law_whole_sum (aC (varD 3) (aC (varD 2) a0)))) (retS (bin2 eqR (varD 5) (appF tupR (aC (cD (.str "told")) (aC (varD 2) (aC (appF lstR (aC (appF tupR (aC (cD (.str "signs")) (aC (varD 2) a0))) a0)) a0)))))) Out.nx)
   (seqO (ifS (cmpT neR (varD 5) (appF tupR (aC (cD (.str "mended")) (aC (varD 7) (aC (varD 6) a0))))) (retS (cD (.bl false))) Out.nx)
   (retS (orV (bin2 eqR (varD 7) (varD 2)) (appF g__law_has_chance (aC (varD 3) (aC (varD 4) (aC (varD 1) (aC (varD 2) (aC (varD 7) a0)))))))))))))
   [some (.v (scr ns)), some (.v (.str e)), some (.v (.str n)), some (.v (keyD few times many)), some (.v (.int (1 + (m : Int)))), none, none, none]) = .ok (.bl true) := by
  intro n hnG
  have hnl := hnG.1
  have hnL := toList_len n
  have hn2 := hnG.mono (m := 2000) (by decide)
  have fb := found_by_ok (s := m) hk hn2 (by omega) hcl hcp
  have lf := law_found_ok (s := m) hk hn2 (by omega) hcl
  obtain ⟨r1, r2, r3, r4⟩ := runP_facts (told := cardsN few times many e.cps.toList (m + 1)) (s := m) (cs := n.cps.toList) (f := cardN few times many) (by omega) hcl hn2.2 _ 0 none (Nat.le_refl _) (Nat.zero_le _)
  obtain ⟨c1, c2⟩ := run_chance (es := e.cps.toList) (ns := n.cps.toList) (few := few) (times := times) (many := many) (s := m) _ 0 none (Nat.le_refl _) (Nat.zero_le _)
  have rin := run_in (es := e.cps.toList) (ns := n.cps.toList) (few := few) (times := times) (many := many) (s := m) _ 0 none (Nat.le_refl _)
  generalize runP (cardsN few times many e.cps.toList (m + 1)) m n.cps.toList (cardN few times many) 0 none = R at fb lf r1 r2 r3 r4 c1 c2 rin
  have aG : ∀ x ∈ R, PcG x := fun x hx => (r4 x hx).1
  have aW : ∀ x ∈ R, PcW x := fun x hx => (aG x hx).w
  have aV : ∀ x ∈ R, PcV x := fun x hx => (aW x hx).v
  have ajG := joined_G aG (by omega)
  have ajI : ∀ x ∈ joinedP R, PcIn e.cps.toList.length x := fun x hx => joined_In aV rin x hx (joined_W aW x hx).v
  have ajl := joinedP_len R
  have amd : madeL e.cps.toList (joinedP R) = madeL e.cps.toList R := by rw [made_all ajI, marks_joined aV, ← made_all rin]
  have md := mended_ok he (by omega) ajG (by rw [← hL]; exact ajI) (by rw [amd]; omega)
  have lm := law_made_ok (by rw [← hL]; exact ajI) (by rw [amd]; omega)
  rw [amd] at md lm
  have hmok := made_okc he.2 aG
  have hmG : Good 2000 (strOf (madeL e.cps.toList R)) := good_strOf (by omega) hmok
  have hch : strOf (madeL e.cps.toList R) ≠ n → g__law_has_chance [keyD few times many, .int ((m + 1 : Nat) : Int), .str e, .str n, .str (strOf (madeL e.cps.toList R))] = .ok (.bl true) := fun hne => by
   obtain ⟨q, b, _, q2, q3, q4, q5, q6⟩ := c2 (by
    intro z
    rw [List.drop_zero] at z
    exact hne (by rw [z, strOf_codes]))
   refine has_chance_ok hk hn2 hmG ⟨q, b, q2, q3, ?_, q5, q6⟩
   rw [codes_strOf]
   rw [Nat.sub_zero] at q4
   exact q4
  have hmlen : (strOf (madeL e.cps.toList R)).length = n.length := by rw [len_strOf, c1]; omega
  generalize hM : strOf (madeL e.cps.toList R) = M at md lm hmG hch hmlen
  have w1 := whole_sum_ok hk hmG
  have w2 := whole_sum_ok hk hn2
  have v1 := law_whole_sum_ok (t := M) hk
  have v2 := law_whole_sum_ok (t := n) hk
  have we := ws_eq times many M n
  have wn := ws_ne times many M n
  have l1 : ∀ a : D, lstR [a] = .ok (.lst [a]) := fun _ => rfl
  rw [s1] at fb lf kn kc hch
  have ltD : dep (letD (joinedP R)) ≤ 2 := by
   unfold letD
   have : deps ((joinedP R).map pcD) ≤ 1 := deps_le fun d hd => by
    obtain ⟨x, _, rfl⟩ := List.mem_map.mp hd
    exact pcD_dep x
   rw [dep_lst]; omega
  have ltL := letD_lay (joinedP R)
  generalize letD (joinedP R) = LD at fb lf md lm ltD ltL
  generalize (cardsN few times many e.cps.toList (m + 1)).map cdD = TD at fb lf kn kc
  generalize keyD few times many = KD at fb lf kn kc hch w1 w2 v1 v2 ⊢
  generalize (1 + (m : Int)) = SI at fb lf kn kc hch ⊢
  generalize hE : eqB (wsD times many M) (wsD times many n) = bb at we wn
  generalize hw1 : wsD times many M = W1 at w1 v1 we wn hE
  generalize hw2 : wsD times many n = W2 at w2 v2 we wn hE
  cases bb with
  | true =>
   have tk : g_talk [KD, .int SI, .str e, .str n] = .ok (.tup [.str "mended", .str M, LD]) := by
    simp [g_talk, F_talk, kc, fb, md, w1, w2, we]
   have tn : neR (.tup [.str (Str.ofString "mended"), .str M, LD]) (.tup [.str (Str.ofString "mended"), .str M, LD]) = .ok (.bl false) := by
    rw [ne_l (by simp; omega) (by simp [ltL]) (by simp [ltL])]; simp
   by_cases hMn : M = n
   ·have q1 : eqR (.str M) (.str n) = .ok (.bl true) := by rw [eq_l (by simp) (by simp) (by simp), hMn]; simp
    simp [tk, lf, kn, lm, v1, v2, wn, tn, q1]
   ·have q1 : eqR (.str M) (.str n) = .ok (.bl false) := by rw [eq_l (by simp) (by simp) (by simp), eqB_str]; simp [hMn]
    have hc := hch hMn
    simp [tk, lf, kn, lm, v1, v2, wn, tn, q1, hc]
  | false =>
   have hpos : 0 < n.length := by
    refine Nat.pos_of_ne_zero fun h0 => ?_
    have hMn : M = n := by
     have a1 : M.cps.toList = [] := List.length_eq_zero_iff.mp (by rw [toList_len]; omega)
     have a2 : n.cps.toList = [] := List.length_eq_zero_iff.mp (by rw [toList_len]; omega)
     rw [← strOf_codes M, ← strOf_codes n, a1, a2]
    rw [← hw1, ← hw2, hMn] at hE
    rw [eqB_self] at hE
    cases hE
   have as := all_signs_ok hpos
   have tk : g_talk [KD, .int SI, .str e, .str n] = .ok (.tup [.str "told", .str n, .lst [.tup [.str "signs", .str n]]]) := by
    simp [g_talk, F_talk, kc, fb, md, w1, w2, we, as]
   have te : eqR (.tup [.str (Str.ofString "told"), .str n, .lst [.tup [.str (Str.ofString "signs"), .str n]]]) (.tup [.str (Str.ofString "told"), .str n, .lst [.tup [.str (Str.ofString "signs"), .str n]]]) = .ok (.bl true) := by
    rw [eq_l (by simp) (by simp) (by simp)]; simp
   simp [tk, lf, kn, lm, v1, v2, wn, l1, te]
 show g_law [scr ns] = _
 simp at ee en en1 ek ez ey
 by_cases hy : y = 1
 ·have tl := tail n1 (hn1G.mono (by decide))
  subst hy
  simp only [g_law, s_fn1]
  unfold F_law
  simp [ee, en, en1, ek, ez, ey] at tl ⊢
  exact tl
 ·have tl := tail n0 hnG
  simp only [g_law, s_fn1]
  unfold F_law
  simp [ee, en, ek, ez, ey, hy] at tl ⊢
  exact tl
end A
set_option Elab.async false
set_option linter.all false
set_option maxRecDepth 100000
set_option maxHeartbeats 4000000
namespace A
open PySem PySem.Spec PyProof.Rows L2 M
set_option autoImplicit false
structure Txt (mg : Str → Option Value) : Prop where
 b_len : mg "len" = none
 b_range : mg "range" = none
 b_isinstance : mg "isinstance" = none
 b_int : mg "int" = none
 b_bool : mg "bool" = none
 b_tuple : mg "tuple" = none
 b_list : mg "list" = none
 b_all : mg "all" = none
 b_ord : mg "ord" = none
 b_str : mg "str" = none
 b_enumerate : mg "enumerate" = none
 b_sum : mg "sum" = none
 c_MOST_FEW : ∃ t, mg "MOST_FEW" = some (.int 999 t)
 c_MOST_TIMES : ∃ t, mg "MOST_TIMES" = some (.int 999 t)
 c_MOST_MANY : ∃ t, mg "MOST_MANY" = some (.int 99999 t)
 c_MOST_SIZE : ∃ t, mg "MOST_SIZE" = some (.int 200 t)
 c_BLANK : ∃ t, mg "BLANK" = some (.int 32 t)
 c_TILDE : ∃ t, mg "TILDE" = some (.int 126 t)
 c_PERCENT : ∃ t, mg "PERCENT" = some (.int 37 t)
 c_MOST_SIGNS : ∃ t, mg "MOST_SIGNS" = some (.int 2000 t)
 c_MOST_PIECES : ∃ t, mg "MOST_PIECES" = some (.int 2000 t)
section
variable {P : Program} {w : World} {K : PySem.W.Frag} {mg : Str → Option Value} {base : Heap}
theorem ok__law_cell_at {f : Addr} {fd : FuncData} (F : Fun K "_law_cell_at" "_law_cell_at" (top 58) f fd) (hx : mg "_law_cell_at" = some (.ref f)) (T : Txt mg) : Fn P w K mg base "_law_cell_at" 1 2 g__law_cell_at := by
 have S : FnScope ["_law_script", "_law_k"] ["_law_script", "_law_k"] (defScope (top 58)) := ⟨rfl, rfl, rfl, by decide +kernel, rfl, by decide +kernel, by decide +kernel⟩
 refine def_ok (m := 0) (k := 0) (Fb := F__law_cell_at) F S rfl (fun _ _ _ _ _ _ us hl => match us, hl with | [_, _], _ => rfl) hx fun cdv A outer s H E G₀ hr => ?_
 have hu := hr.units
 exact (pds_cons (q_ifS (q_tcmp od_lt (pd_var 1) (q_blt cd_len T.b_len (by rfl) (q_aC (pd_var 0) q_a0))) (pds_one (q_ret (q_ix (pd_var 0) (pd_var 1)))) pds_nil)
   (pds_cons (q_ifS (q_tcmp (od_eq hu) (pd_var 0) (q_lst q_a0)) (pds_one (q_ret pd_int)) pds_nil)
   (pds_one (q_ret (q_bin od_add (q_bin od_mul (q_ix (pd_var 0) (q_bin od_mod (pd_var 1) (q_blt cd_len T.b_len (by rfl) (q_aC (pd_var 0) q_a0)))) pd_int) (pd_var 1))))))
theorem ok__law_mixed {f : Addr} {fd : FuncData} (F : Fun K "_law_mixed" "_law_mixed" (top 59) f fd) (hx : mg "_law_mixed" = some (.ref f)) (T : Txt mg) (h__law_cell_at : Fn P w K mg base "_law_cell_at" 1 2 g__law_cell_at) : Fn P w K mg base "_law_mixed" 2 3 g__law_mixed := by
 have S : FnScope ["_law_script", "_law_k", "_law_many", "_law_drawn"] ["_law_script", "_law_k", "_law_many"] (defScope (top 59)) := ⟨rfl, rfl, rfl, by decide +kernel, rfl, by decide +kernel, by decide +kernel⟩
 refine def_ok (m := 1) (k := 1) (Fb := F__law_mixed) F S rfl (fun _ _ _ _ _ _ us hl => match us, hl with | [_, _, _], _ => rfl) hx fun cdv A outer s H E G₀ hr => ?_
 have hu := hr.units
 exact (pds_cons (q_set 3 S.nd (q_bin od_mod (q_bin od_mul (q_bin od_add (q_bin od_add (q_call h__law_cell_at (hr.mono (by decide)) (q_aC (pd_var 0) (q_aC (pd_var 1) q_a0))) (q_bin od_mul pd_int (pd_var 1))) pd_int) pd_int) pd_int))
   (pds_one (q_ret (q_bin od_mod (q_bin od_mod (q_bin od_add (q_bin od_add (q_bin od_mul (pd_var 3) (pd_var 3)) (q_bin od_mul pd_int (pd_var 3))) (pd_var 1)) pd_int) (pd_var 2)))))
theorem ok__law_text {f : Addr} {fd : FuncData} (F : Fun K "_law_text" "_law_text" (top 60) f fd) (hx : mg "_law_text" = some (.ref f)) (T : Txt mg) (h__law_mixed : Fn P w K mg base "_law_mixed" 2 3 g__law_mixed) : Fn P w K mg base "_law_text" 3 3 g__law_text := by
 have S : FnScope ["_law_script", "_law_at", "_law_most", "_law_signs", "_law_seed", "_law_made_here", "_law_k", "_law_drawn"] ["_law_script", "_law_at", "_law_most"] (defScope (top 60)) := ⟨rfl, rfl, rfl, by decide +kernel, rfl, by decide +kernel, by decide +kernel⟩
 refine def_ok (m := 5) (k := 2) (Fb := F__law_text) F S rfl (fun _ _ _ _ _ _ us hl => match us, hl with | [_, _, _], _ => rfl) hx fun cdv A outer s H E G₀ hr => ?_
 have hu := hr.units
 exact (pds_cons (q_set 3 S.nd (q_ix (q_lst (q_aC pd_str (q_aC pd_str (q_aC pd_str (q_aC pd_str (q_aC pd_str q_a0)))))) (q_call h__law_mixed (hr.mono (by decide)) (q_aC (pd_var 0) (q_aC (pd_var 1) (q_aC pd_int q_a0))))))
   (pds_cons (q_set 4 S.nd (q_call h__law_mixed (hr.mono (by decide)) (q_aC (pd_var 0) (q_aC (q_bin od_add (pd_var 1) pd_int) (q_aC (q_bin od_pow pd_int pd_int) q_a0)))))
   (pds_cons (q_set 5 S.nd pd_str)
   (pds_cons (q_for (F := L__law_text_1) PassesOwn.never rfl (q_rng1 T.b_range (q_aC (q_call h__law_mixed (hr.mono (by decide)) (q_aC (pd_var 0) (q_aC (q_bin od_add (pd_var 1) pd_int) (q_aC (q_bin od_add (pd_var 2) pd_int) q_a0)))) q_a0)) (pg_name (i := 6) S.nd rfl (by first | exact Or.inl rfl | exact Or.inr rfl)) (q_tgN 6) fun G₀ => (pds_cons (q_set 7 S.nd (q_bin od_mod (q_bin od_mul (q_bin od_add (q_bin od_add (pd_var 4) (q_bin od_mul (q_bin od_mul pd_int (pd_var 6)) (pd_var 6))) (q_bin od_mul pd_int (pd_var 6))) pd_int) pd_int))
   (pds_one (q_set 5 S.nd (q_bin od_add (pd_var 5) (q_ix (pd_var 3) (q_bin od_mod (q_bin od_fdiv (q_bin od_mod (q_bin od_mul (pd_var 7) (q_bin od_add (pd_var 7) pd_int)) pd_int) pd_int) (q_blt cd_len T.b_len (by rfl) (q_aC (pd_var 3) q_a0)))))))))
   (pds_one (q_ret (pd_var 5)))))))
theorem ok__law_newer {f : Addr} {fd : FuncData} (F : Fun K "_law_newer" "_law_newer" (top 61) f fd) (hx : mg "_law_newer" = some (.ref f)) (T : Txt mg) (h__law_mixed : Fn P w K mg base "_law_mixed" 2 3 g__law_mixed) (h__law_text : Fn P w K mg base "_law_text" 3 3 g__law_text) : Fn P w K mg base "_law_newer" 4 3 g__law_newer := by
 have S : FnScope ["_law_script", "_law_at", "_law_elder", "_law_made_here", "_law_k", "_law_place", "_law_first_here"] ["_law_script", "_law_at", "_law_elder"] (defScope (top 61)) := ⟨rfl, rfl, rfl, by decide +kernel, rfl, by decide +kernel, by decide +kernel⟩
 refine def_ok (m := 4) (k := 3) (Fb := F__law_newer) F S rfl (fun _ _ _ _ _ _ us hl => match us, hl with | [_, _, _], _ => rfl) hx fun cdv A outer s H E G₀ hr => ?_
 have hu := hr.units
 exact (pds_cons (q_set 3 S.nd pd_str)
   (pds_cons (q_for (F := L__law_newer_1) PassesOwn.never rfl (q_rng1 T.b_range (q_aC (q_bin od_add pd_int (q_call h__law_mixed (hr.mono (by decide)) (q_aC (pd_var 0) (q_aC (pd_var 1) (q_aC pd_int q_a0))))) q_a0)) (pg_name (i := 4) S.nd rfl (by first | exact Or.inl rfl | exact Or.inr rfl)) (q_tgN 4) fun G₀ => (pds_cons (q_set 5 S.nd (q_bin od_add (q_bin od_add (pd_var 1) pd_int) (q_bin od_mul pd_int (pd_var 4))))
   (pds_one (q_ifS (q_tcmp (od_eq hu) (q_call h__law_mixed (hr.mono (by decide)) (q_aC (pd_var 0) (q_aC (pd_var 5) (q_aC pd_int q_a0)))) pd_int) (pds_one (q_set 3 S.nd (q_bin od_add (pd_var 3) (q_call h__law_text (hr.mono (by decide)) (q_aC (pd_var 0) (q_aC (q_bin od_add (pd_var 5) pd_int) (q_aC pd_int q_a0))))))) (pds_cons (q_set 6 S.nd (q_call h__law_mixed (hr.mono (by decide)) (q_aC (pd_var 0) (q_aC (q_bin od_add (pd_var 5) pd_int) (q_aC (q_bin od_add (q_blt cd_len T.b_len (by rfl) (q_aC (pd_var 2) q_a0)) pd_int) q_a0)))))
   (pds_one (q_set 3 S.nd (q_bin od_add (pd_var 3) (q_slice (pd_var 2) (q_part (pd_var 6)) (q_part (q_bin od_add (pd_var 6) (q_call h__law_mixed (hr.mono (by decide)) (q_aC (pd_var 0) (q_aC (q_bin od_add (pd_var 5) pd_int) (q_aC pd_int q_a0)))))))))))))))
   (pds_one (q_ret (pd_var 3)))))
theorem ok__law_key {f : Addr} {fd : FuncData} (F : Fun K "_law_key" "_law_key" (top 62) f fd) (hx : mg "_law_key" = some (.ref f)) (T : Txt mg) (h__law_mixed : Fn P w K mg base "_law_mixed" 2 3 g__law_mixed) : Fn P w K mg base "_law_key" 3 2 g__law_key := by
 have S : FnScope ["_law_script", "_law_at", "_law_few", "_law_times"] ["_law_script", "_law_at"] (defScope (top 62)) := ⟨rfl, rfl, rfl, by decide +kernel, rfl, by decide +kernel, by decide +kernel⟩
 refine def_ok (m := 2) (k := 2) (Fb := F__law_key) F S rfl (fun _ _ _ _ _ _ us hl => match us, hl with | [_, _], _ => rfl) hx fun cdv A outer s H E G₀ hr => ?_
 have hu := hr.units
 exact (pds_cons (q_set 2 S.nd (q_ix (q_lst (q_aC pd_int (q_aC pd_int (q_aC pd_int (q_aC pd_int (q_aC pd_int (q_aC pd_int q_a0))))))) (q_call h__law_mixed (hr.mono (by decide)) (q_aC (pd_var 0) (q_aC (pd_var 1) (q_aC pd_int q_a0))))))
   (pds_cons (q_set 3 S.nd (q_ix (q_lst (q_aC pd_int (q_aC pd_int (q_aC pd_int (q_aC pd_int (q_aC pd_int (q_aC pd_int q_a0))))))) (q_call h__law_mixed (hr.mono (by decide)) (q_aC (pd_var 0) (q_aC (q_bin od_add (pd_var 1) pd_int) (q_aC pd_int q_a0))))))
   (pds_one (q_ret (q_tup (q_aC (pd_var 2) (q_aC (pd_var 3) (q_aC (q_ix (q_lst (q_aC pd_int (q_aC pd_int (q_aC pd_int (q_aC pd_int (q_aC pd_int (q_aC pd_int q_a0))))))) (q_call h__law_mixed (hr.mono (by decide)) (q_aC (pd_var 0) (q_aC (q_bin od_add (pd_var 1) pd_int) (q_aC pd_int q_a0))))) q_a0))))))))
theorem ok_is_whole {f : Addr} {fd : FuncData} (F : Fun K "is_whole" "is_whole" (top 17) f fd) (hx : mg "is_whole" = some (.ref f)) (T : Txt mg) : Fn P w K mg base "is_whole" 1 1 g_is_whole := by
 have S : FnScope ["thing"] ["thing"] (defScope (top 17)) := ⟨rfl, rfl, rfl, by decide +kernel, rfl, by decide +kernel, by decide +kernel⟩
 refine def_ok (m := 0) (k := 0) (Fb := F_is_whole) F S rfl (fun _ _ _ _ _ _ us hl => match us, hl with | [_], _ => rfl) hx fun cdv A outer s H E G₀ hr => ?_
 have hu := hr.units
 exact (pds_one (q_ret (q_and (q_isi (isi_int _) T.b_isinstance T.b_int (by rfl) (pd_var 0)) (pd_one (q_not (q_isi (isi_bool _) T.b_isinstance T.b_bool (by rfl) (pd_var 0)))))))
theorem ok_is_from {f : Addr} {fd : FuncData} (F : Fun K "is_from" "is_from" (top 18) f fd) (hx : mg "is_from" = some (.ref f)) (T : Txt mg) (h_is_whole : Fn P w K mg base "is_whole" 1 1 g_is_whole) : Fn P w K mg base "is_from" 2 2 g_is_from := by
 have S : FnScope ["thing", "lowest"] ["thing", "lowest"] (defScope (top 18)) := ⟨rfl, rfl, rfl, by decide +kernel, rfl, by decide +kernel, by decide +kernel⟩
 refine def_ok (m := 0) (k := 1) (Fb := F_is_from) F S rfl (fun _ _ _ _ _ _ us hl => match us, hl with | [_, _], _ => rfl) hx fun cdv A outer s H E G₀ hr => ?_
 have hu := hr.units
 exact (pds_one (q_ret (q_and (q_call h_is_whole (hr.mono (by decide)) (q_aC (pd_var 0) q_a0)) (pd_one (q_cmp od_ge (pd_var 0) (pd_var 1))))))
theorem ok_is_within {f : Addr} {fd : FuncData} (F : Fun K "is_within" "is_within" (top 19) f fd) (hx : mg "is_within" = some (.ref f)) (T : Txt mg) (h_is_from : Fn P w K mg base "is_from" 2 2 g_is_from) : Fn P w K mg base "is_within" 3 3 g_is_within := by
 have S : FnScope ["thing", "lowest", "highest"] ["thing", "lowest", "highest"] (defScope (top 19)) := ⟨rfl, rfl, rfl, by decide +kernel, rfl, by decide +kernel, by decide +kernel⟩
 refine def_ok (m := 0) (k := 2) (Fb := F_is_within) F S rfl (fun _ _ _ _ _ _ us hl => match us, hl with | [_, _, _], _ => rfl) hx fun cdv A outer s H E G₀ hr => ?_
 have hu := hr.units
 exact (pds_one (q_ret (q_and (q_call h_is_from (hr.mono (by decide)) (q_aC (pd_var 0) (q_aC (pd_var 1) q_a0))) (pd_one (q_cmp od_le (pd_var 0) (pd_var 2))))))
theorem ok_is_key {f : Addr} {fd : FuncData} (F : Fun K "is_key" "is_key" (top 22) f fd) (hx : mg "is_key" = some (.ref f)) (T : Txt mg) (h_is_within : Fn P w K mg base "is_within" 3 3 g_is_within) : Fn P w K mg base "is_key" 4 1 g_is_key := by
 have S : FnScope ["thing"] ["thing"] (defScope (top 22)) := ⟨rfl, rfl, rfl, by decide +kernel, rfl, by decide +kernel, by decide +kernel⟩
 refine def_ok (m := 0) (k := 3) (Fb := F_is_key) F S rfl (fun _ _ _ _ _ _ us hl => match us, hl with | [_], _ => rfl) hx fun cdv A outer s H E G₀ hr => ?_
 have hu := hr.units
 exact (pds_cons (q_ifS (PW.pt (q_wor (q_tnot (q_tval (q_isi (isi_tuple _) T.b_isinstance T.b_tuple (by rfl) (pd_var 0)))) (q_w1o (q_tcmp (od_ne hu) (q_blt cd_len T.b_len (by rfl) (q_aC (pd_var 0) q_a0)) pd_int)))) (pds_one (q_ret pd_bl)) pds_nil)
   (pds_cons (q_ifS (q_tnot (q_tval (q_call h_is_within (hr.mono (by decide)) (q_aC (q_ix (pd_var 0) pd_int) (q_aC pd_int (q_aC (q_gint T.c_MOST_FEW) q_a0)))))) (pds_one (q_ret pd_bl)) pds_nil)
   (pds_one (q_ret (q_and (q_call h_is_within (hr.mono (by decide)) (q_aC (q_ix (pd_var 0) pd_int) (q_aC pd_int (q_aC (q_gint T.c_MOST_TIMES) q_a0)))) (pd_one (q_call h_is_within (hr.mono (by decide)) (q_aC (q_ix (pd_var 0) pd_int) (q_aC pd_int (q_aC (q_gint T.c_MOST_MANY) q_a0))))))))))
theorem ok_check_key {f : Addr} {fd : FuncData} (F : Fun K "check_key" "check_key" (top 24) f fd) (hx : mg "check_key" = some (.ref f)) (T : Txt mg) (h_is_key : Fn P w K mg base "is_key" 4 1 g_is_key) : Fn P w K mg base "check_key" 5 1 g_check_key := by
 have S : FnScope ["thing"] ["thing"] (defScope (top 24)) := ⟨rfl, rfl, rfl, by decide +kernel, rfl, by decide +kernel, by decide +kernel⟩
 refine def_ok (m := 0) (k := 4) (Fb := F_check_key) F S rfl (fun _ _ _ _ _ _ us hl => match us, hl with | [_], _ => rfl) hx fun cdv A outer s H E G₀ hr => ?_
 have hu := hr.units
 exact (pds_one (q_ifS (q_tnot (q_tval (q_call h_is_key (hr.mono (by decide)) (q_aC (pd_var 0) q_a0)))) (pds_one q_never) pds_nil))
theorem ok_check_size {f : Addr} {fd : FuncData} (F : Fun K "check_size" "check_size" (top 25) f fd) (hx : mg "check_size" = some (.ref f)) (T : Txt mg) (h_is_within : Fn P w K mg base "is_within" 3 3 g_is_within) : Fn P w K mg base "check_size" 4 1 g_check_size := by
 have S : FnScope ["thing"] ["thing"] (defScope (top 25)) := ⟨rfl, rfl, rfl, by decide +kernel, rfl, by decide +kernel, by decide +kernel⟩
 refine def_ok (m := 0) (k := 3) (Fb := F_check_size) F S rfl (fun _ _ _ _ _ _ us hl => match us, hl with | [_], _ => rfl) hx fun cdv A outer s H E G₀ hr => ?_
 have hu := hr.units
 exact (pds_one (q_ifS (q_tnot (q_tval (q_call h_is_within (hr.mono (by decide)) (q_aC (pd_var 0) (q_aC pd_int (q_aC (q_gint T.c_MOST_SIZE) q_a0)))))) (pds_one q_never) pds_nil))
theorem ok_is_card {f : Addr} {fd : FuncData} (F : Fun K "is_card" "is_card" (top 51) f fd) (hx : mg "is_card" = some (.ref f)) (T : Txt mg) (h_is_from : Fn P w K mg base "is_from" 2 2 g_is_from) : Fn P w K mg base "is_card" 3 1 g_is_card := by
 have S : FnScope ["thing", "first"] ["thing"] (defScope (top 51)) := ⟨rfl, rfl, rfl, by decide +kernel, rfl, by decide +kernel, by decide +kernel⟩
 refine def_ok (m := 1) (k := 2) (Fb := F_is_card) F S rfl (fun _ _ _ _ _ _ us hl => match us, hl with | [_], _ => rfl) hx fun cdv A outer s H E G₀ hr => ?_
 have hu := hr.units
 exact (pds_cons (q_ifS (PW.pt (q_wor (q_tnot (q_tval (q_isi (isi_tuple _) T.b_isinstance T.b_tuple (by rfl) (pd_var 0)))) (q_w1o (q_tcmp (od_ne hu) (q_blt cd_len T.b_len (by rfl) (q_aC (pd_var 0) q_a0)) pd_int)))) (pds_one (q_ret pd_bl)) pds_nil)
   (pds_cons (q_set 1 S.nd (q_ix (pd_var 0) pd_int))
   (pds_cons (q_ifS (PW.pt (q_wor (q_tnot (q_tval (q_isi (isi_tuple _) T.b_isinstance T.b_tuple (by rfl) (pd_var 1)))) (q_w1o (q_tcmp (od_ne hu) (q_blt cd_len T.b_len (by rfl) (q_aC (pd_var 1) q_a0)) pd_int)))) (pds_one (q_ret pd_bl)) pds_nil)
   (pds_one (q_ret (q_and (q_call h_is_from (hr.mono (by decide)) (q_aC (q_ix (pd_var 1) pd_int) (q_aC pd_int q_a0))) (q_and (q_call h_is_from (hr.mono (by decide)) (q_aC (q_ix (pd_var 1) pd_int) (q_aC pd_int q_a0))) (pd_one (q_call h_is_from (hr.mono (by decide)) (q_aC (q_ix (pd_var 0) pd_int) (q_aC pd_int q_a0)))))))))))
theorem ok_check_cards {f : Addr} {fd : FuncData} (F : Fun K "check_cards" "check_cards" (top 50) f fd) (hx : mg "check_cards" = some (.ref f)) (T : Txt mg) (h_is_card : Fn P w K mg base "is_card" 3 1 g_is_card) : Fn P w K mg base "check_cards" 4 1 g_check_cards := by
 have S : FnScope ["thing"] ["thing"] (defScope (top 50)) := ⟨rfl, rfl, rfl, by decide +kernel, rfl, by decide +kernel, by decide +kernel⟩
 refine def_ok (m := 0) (k := 3) (Fb := F_check_cards) F S rfl (fun _ _ _ _ _ _ us hl => match us, hl with | [_], _ => rfl) hx fun cdv A outer s H E G₀ hr => ?_
 have hu := hr.units
 exact (pds_one (q_ifS (PW.pt (q_wor (q_tnot (q_tval (q_isi (isi_list _) T.b_isinstance T.b_list (by rfl) (pd_var 0)))) (q_w1o (q_tnot (q_tval (q_blt (cd_all rfl) T.b_all (by rfl) (q_aC (q_comp (sc := defScope (top 50)) (N := ["thing"]) [] (by decide +kernel) rfl rfl rfl (q_it (pd_var 0)) .nil fun C s₀ H₀ fp B G₀ => (q_call h_is_card (hr.mono (by decide)) (q_aC (pd_var 0) q_a0))) q_a0))))))) (pds_one q_never) pds_nil))
theorem ok_is_sign {f : Addr} {fd : FuncData} (F : Fun K "is_sign" "is_sign" (top 20) f fd) (hx : mg "is_sign" = some (.ref f)) (T : Txt mg) : Fn P w K mg base "is_sign" 1 1 g_is_sign := by
 have S : FnScope ["sign", "worth"] ["sign"] (defScope (top 20)) := ⟨rfl, rfl, rfl, by decide +kernel, rfl, by decide +kernel, by decide +kernel⟩
 refine def_ok (m := 1) (k := 0) (Fb := F_is_sign) F S rfl (fun _ _ _ _ _ _ us hl => match us, hl with | [_], _ => rfl) hx fun cdv A outer s H E G₀ hr => ?_
 have hu := hr.units
 exact (pds_cons (q_set 1 S.nd (q_blt cd_ord T.b_ord (by rfl) (q_aC (pd_var 0) q_a0)))
   (pds_one (q_ret (q_and (q_chain od_le od_le (q_gint T.c_BLANK) (pd_var 1) (q_gint T.c_TILDE)) (pd_one (q_cmp (od_ne hu) (pd_var 1) (q_gint T.c_PERCENT)))))))
theorem ok_is_text {f : Addr} {fd : FuncData} (F : Fun K "is_text" "is_text" (top 21) f fd) (hx : mg "is_text" = some (.ref f)) (T : Txt mg) (h_is_sign : Fn P w K mg base "is_sign" 1 1 g_is_sign) : Fn P w K mg base "is_text" 2 1 g_is_text := by
 have S : FnScope ["thing"] ["thing"] (defScope (top 21)) := ⟨rfl, rfl, rfl, by decide +kernel, rfl, by decide +kernel, by decide +kernel⟩
 refine def_ok (m := 0) (k := 1) (Fb := F_is_text) F S rfl (fun _ _ _ _ _ _ us hl => match us, hl with | [_], _ => rfl) hx fun cdv A outer s H E G₀ hr => ?_
 have hu := hr.units
 exact (pds_cons (q_ifS (PW.pt (q_wor (q_tnot (q_tval (q_isi (isi_str _) T.b_isinstance T.b_str (by rfl) (pd_var 0)))) (q_w1o (q_tcmp od_gt (q_blt cd_len T.b_len (by rfl) (q_aC (pd_var 0) q_a0)) (q_gint T.c_MOST_SIGNS))))) (pds_one (q_ret pd_bl)) pds_nil)
   (pds_one (q_ret (q_blt (cd_all rfl) T.b_all (by rfl) (q_aC (q_comp (sc := defScope (top 21)) (N := ["thing"]) [] (by decide +kernel) rfl rfl rfl (q_it (pd_var 0)) .nil fun C s₀ H₀ fp B G₀ => (q_call h_is_sign (hr.mono (by decide)) (q_aC (pd_var 0) q_a0))) q_a0)))))
theorem ok_check_text {f : Addr} {fd : FuncData} (F : Fun K "check_text" "check_text" (top 23) f fd) (hx : mg "check_text" = some (.ref f)) (T : Txt mg) (h_is_text : Fn P w K mg base "is_text" 2 1 g_is_text) : Fn P w K mg base "check_text" 3 1 g_check_text := by
 have S : FnScope ["thing"] ["thing"] (defScope (top 23)) := ⟨rfl, rfl, rfl, by decide +kernel, rfl, by decide +kernel, by decide +kernel⟩
 refine def_ok (m := 0) (k := 2) (Fb := F_check_text) F S rfl (fun _ _ _ _ _ _ us hl => match us, hl with | [_], _ => rfl) hx fun cdv A outer s H E G₀ hr => ?_
 have hu := hr.units
 exact (pds_one (q_ifS (q_tnot (q_tval (q_call h_is_text (hr.mono (by decide)) (q_aC (pd_var 0) q_a0)))) (pds_one q_never) pds_nil))
theorem ok_is_copy {f : Addr} {fd : FuncData} (F : Fun K "is_copy" "is_copy" (top 33) f fd) (hx : mg "is_copy" = some (.ref f)) (T : Txt mg) : Fn P w K mg base "is_copy" 1 1 g_is_copy := by
 have S : FnScope ["piece"] ["piece"] (defScope (top 33)) := ⟨rfl, rfl, rfl, by decide +kernel, rfl, by decide +kernel, by decide +kernel⟩
 refine def_ok (m := 0) (k := 0) (Fb := F_is_copy) F S rfl (fun _ _ _ _ _ _ us hl => match us, hl with | [_], _ => rfl) hx fun cdv A outer s H E G₀ hr => ?_
 have hu := hr.units
 exact (pds_one (q_ret (q_cmp (od_eq hu) (q_ix (pd_var 0) pd_int) pd_str)))
theorem ok_is_piece {f : Addr} {fd : FuncData} (F : Fun K "is_piece" "is_piece" (top 32) f fd) (hx : mg "is_piece" = some (.ref f)) (T : Txt mg) (h_is_copy : Fn P w K mg base "is_copy" 1 1 g_is_copy) (h_is_from : Fn P w K mg base "is_from" 2 2 g_is_from) (h_is_text : Fn P w K mg base "is_text" 2 1 g_is_text) : Fn P w K mg base "is_piece" 3 1 g_is_piece := by
 have S : FnScope ["thing"] ["thing"] (defScope (top 32)) := ⟨rfl, rfl, rfl, by decide +kernel, rfl, by decide +kernel, by decide +kernel⟩
 refine def_ok (m := 0) (k := 2) (Fb := F_is_piece) F S rfl (fun _ _ _ _ _ _ us hl => match us, hl with | [_], _ => rfl) hx fun cdv A outer s H E G₀ hr => ?_
 have hu := hr.units
 exact (pds_cons (q_ifS (PW.pt (q_wor (q_tnot (q_tval (q_isi (isi_tuple _) T.b_isinstance T.b_tuple (by rfl) (pd_var 0)))) (q_wor (q_tcmp (od_eq hu) (q_blt cd_len T.b_len (by rfl) (q_aC (pd_var 0) q_a0)) pd_int) (q_w1o (q_tnot (q_tval (q_isi (isi_str _) T.b_isinstance T.b_str (by rfl) (q_ix (pd_var 0) pd_int)))))))) (pds_one (q_ret pd_bl)) pds_nil)
   (pds_cons (q_ifS (q_tval (q_call h_is_copy (hr.mono (by decide)) (q_aC (pd_var 0) q_a0))) (pds_one (q_ret (q_and (q_cmp (od_eq hu) (q_blt cd_len T.b_len (by rfl) (q_aC (pd_var 0) q_a0)) pd_int) (q_and (q_call h_is_from (hr.mono (by decide)) (q_aC (q_ix (pd_var 0) pd_int) (q_aC pd_int q_a0))) (pd_one (q_call h_is_from (hr.mono (by decide)) (q_aC (q_ix (pd_var 0) pd_int) (q_aC pd_int q_a0)))))))) pds_nil)
   (pds_cons (q_ifS (PW.pt (q_wor (q_tcmp (od_ne hu) (q_ix (pd_var 0) pd_int) pd_str) (q_w1o (q_tcmp (od_ne hu) (q_blt cd_len T.b_len (by rfl) (q_aC (pd_var 0) q_a0)) pd_int)))) (pds_one (q_ret pd_bl)) pds_nil)
   (pds_one (q_ret (q_and (q_call h_is_text (hr.mono (by decide)) (q_aC (q_ix (pd_var 0) pd_int) q_a0)) (pd_one (q_cmp od_gt (q_blt cd_len T.b_len (by rfl) (q_aC (q_ix (pd_var 0) pd_int) q_a0)) pd_int))))))))
theorem ok_is_letter {f : Addr} {fd : FuncData} (F : Fun K "is_letter" "is_letter" (top 31) f fd) (hx : mg "is_letter" = some (.ref f)) (T : Txt mg) (h_is_piece : Fn P w K mg base "is_piece" 3 1 g_is_piece) : Fn P w K mg base "is_letter" 4 1 g_is_letter := by
 have S : FnScope ["thing"] ["thing"] (defScope (top 31)) := ⟨rfl, rfl, rfl, by decide +kernel, rfl, by decide +kernel, by decide +kernel⟩
 refine def_ok (m := 0) (k := 3) (Fb := F_is_letter) F S rfl (fun _ _ _ _ _ _ us hl => match us, hl with | [_], _ => rfl) hx fun cdv A outer s H E G₀ hr => ?_
 have hu := hr.units
 exact (pds_cons (q_ifS (PW.pt (q_wor (q_tnot (q_tval (q_isi (isi_list _) T.b_isinstance T.b_list (by rfl) (pd_var 0)))) (q_w1o (q_tcmp od_gt (q_blt cd_len T.b_len (by rfl) (q_aC (pd_var 0) q_a0)) (q_gint T.c_MOST_PIECES))))) (pds_one (q_ret pd_bl)) pds_nil)
   (pds_one (q_ret (q_blt (cd_all rfl) T.b_all (by rfl) (q_aC (q_comp (sc := defScope (top 31)) (N := ["thing"]) [] (by decide +kernel) rfl rfl rfl (q_it (pd_var 0)) .nil fun C s₀ H₀ fp B G₀ => (q_call h_is_piece (hr.mono (by decide)) (q_aC (pd_var 0) q_a0))) q_a0)))))
theorem ok_check_letter {f : Addr} {fd : FuncData} (F : Fun K "check_letter" "check_letter" (top 30) f fd) (hx : mg "check_letter" = some (.ref f)) (T : Txt mg) (h_is_letter : Fn P w K mg base "is_letter" 4 1 g_is_letter) : Fn P w K mg base "check_letter" 5 1 g_check_letter := by
 have S : FnScope ["thing"] ["thing"] (defScope (top 30)) := ⟨rfl, rfl, rfl, by decide +kernel, rfl, by decide +kernel, by decide +kernel⟩
 refine def_ok (m := 0) (k := 4) (Fb := F_check_letter) F S rfl (fun _ _ _ _ _ _ us hl => match us, hl with | [_], _ => rfl) hx fun cdv A outer s H E G₀ hr => ?_
 have hu := hr.units
 exact (pds_one (q_ifS (q_tnot (q_tval (q_call h_is_letter (hr.mono (by decide)) (q_aC (pd_var 0) q_a0)))) (pds_one q_never) pds_nil))
theorem ok_add_signs {f : Addr} {fd : FuncData} (F : Fun K "add_signs" "add_signs" (top 36) f fd) (hx : mg "add_signs" = some (.ref f)) (T : Txt mg) : FnMut P w K mg base "add_signs" 1 1 g_add_signs := by
 have S : FnScope ["letter", "texts"] ["letter", "texts"] (defScope (top 36)) := ⟨rfl, rfl, rfl, by decide +kernel, rfl, by decide +kernel, by decide +kernel⟩
 refine def_mut (m := 0) (k := 0) (Fb := F_add_signs) F S rfl rfl (fun _ _ _ _ _ _ us hl => match us, hl with | [_, _], _ => rfl) hx fun cdv A outer s H E B G₀ σ₀ hr => ?_
 have hu := hr.units
 exact (f_one (f_if (q_tcmp od_gt (q_blt cd_len T.b_len (by rfl) (q_aC (pd_var 1) q_a0)) pd_int) (f_one (f_mut 0 app_ne PySem.F.slot_list_append PySem.F.type_list_append mt_append mut_append (q_aC (q_tup (q_aC pd_str (q_aC (q_meth PySem.F.slot_str_join PySem.F.type_str_join mts_join pd_str (q_aC (pd_var 1) q_a0)) q_a0))) q_a0))) f_nil))
theorem ok_goes_on {f : Addr} {fd : FuncData} (F : Fun K "goes_on" "goes_on" (top 38) f fd) (hx : mg "goes_on" = some (.ref f)) (T : Txt mg) (h_is_copy : Fn P w K mg base "is_copy" 1 1 g_is_copy) : Fn P w K mg base "goes_on" 2 2 g_goes_on := by
 have S : FnScope ["piece", "later"] ["piece", "later"] (defScope (top 38)) := ⟨rfl, rfl, rfl, by decide +kernel, rfl, by decide +kernel, by decide +kernel⟩
 refine def_ok (m := 0) (k := 1) (Fb := F_goes_on) F S rfl (fun _ _ _ _ _ _ us hl => match us, hl with | [_, _], _ => rfl) hx fun cdv A outer s H E G₀ hr => ?_
 have hu := hr.units
 exact (pds_one (q_ret (q_and (q_call h_is_copy (hr.mono (by decide)) (q_aC (pd_var 0) q_a0)) (pd_one (q_cmp (od_eq hu) (q_bin od_add (q_ix (pd_var 0) pd_int) (q_ix (pd_var 0) pd_int)) (q_ix (pd_var 1) pd_int))))))
theorem ok_add_copy {f : Addr} {fd : FuncData} (F : Fun K "add_copy" "add_copy" (top 37) f fd) (hx : mg "add_copy" = some (.ref f)) (T : Txt mg) (h_goes_on : Fn P w K mg base "goes_on" 2 2 g_goes_on) : FnMut P w K mg base "add_copy" 3 1 g_add_copy := by
 have S : FnScope ["letter", "piece"] ["letter", "piece"] (defScope (top 37)) := ⟨rfl, rfl, rfl, by decide +kernel, rfl, by decide +kernel, by decide +kernel⟩
 refine def_mut (m := 0) (k := 2) (Fb := F_add_copy) F S rfl rfl (fun _ _ _ _ _ _ us hl => match us, hl with | [_, _], _ => rfl) hx fun cdv A outer s H E B G₀ σ₀ hr => ?_
 have hu := hr.units
 exact (f_one (f_if (PW.pt (q_wand (q_lentT (q_tcmp od_gt (q_blt cd_len T.b_len (by rfl) (q_aC (pd_var 0) q_a0)) pd_int)) (q_w1a (q_tval (q_call h_goes_on (hr.mono (by decide)) (q_aC (q_ixO 0 (q_neg pd_int)) (q_aC (pd_var 1) q_a0))))))) (f_one (f_seti 0 (q_neg pd_int) (q_tup (q_aC pd_str (q_aC (q_ix (q_ixO 0 (q_neg pd_int)) pd_int) (q_aC (q_bin od_add (q_ix (q_ixO 0 (q_neg pd_int)) pd_int) (q_ix (pd_var 1) pd_int)) q_a0)))))) (f_one (f_mut 0 app_ne PySem.F.slot_list_append PySem.F.type_list_append mt_append mut_append (q_aC (pd_var 1) q_a0)))))
theorem ok_joined {f : Addr} {fd : FuncData} (F : Fun K "joined" "joined" (top 35) f fd) (hx : mg "joined" = some (.ref f)) (T : Txt mg) (h_add_signs : FnMut P w K mg base "add_signs" 1 1 g_add_signs) (h_add_copy : FnMut P w K mg base "add_copy" 3 1 g_add_copy) (h_is_copy : Fn P w K mg base "is_copy" 1 1 g_is_copy) : Fn P w K mg base "joined" 4 1 g_joined := by
 have S : FnScope ["pieces", "letter", "texts", "piece"] ["pieces"] (defScope (top 35)) := ⟨rfl, rfl, rfl, by decide +kernel, rfl, by decide +kernel, by decide +kernel⟩
 refine def_ok (m := 3) (k := 3) (Fb := F_joined) F S rfl (fun _ _ _ _ _ _ us hl => match us, hl with | [_], _ => rfl) hx fun cdv A outer s H E G₀ hr => ?_
 have hu := hr.units
 exact (pds_cons (q_own 1 S.nd q_a0)
   (pds_cons (q_own 2 S.nd q_a0)
   (pds_cons (q_for (F := L_joined_1) PassesOwn.never rfl (q_it (pd_var 0)) (pg_name (i := 3) S.nd rfl (by first | exact Or.inl rfl | exact Or.inr rfl)) (q_tgN 3) fun G₀ => (pds_cons (q_ifS (q_tnot (q_tval (q_call h_is_copy (hr.mono (by decide)) (q_aC (pd_var 3) q_a0)))) (pds_cons (q_mut 2 app_ne PySem.F.slot_list_append PySem.F.type_list_append mt_append mut_append (q_aC (q_ix (pd_var 3) pd_int) q_a0))
   (pds_one pds_continue)) pds_nil)
   (pds_cons (q_shareJ 2 (q_callM 1 h_add_signs (hr.mono (by decide)) (q_aC (pd_var 2) q_a0)))
   (pds_cons (q_own 2 S.nd q_a0)
   (pds_one (q_callM 1 h_add_copy (hr.mono (by decide)) (q_aC (pd_var 3) q_a0)))))))
   (pds_cons (q_shareJ 2 (q_callM 1 h_add_signs (hr.mono (by decide)) (q_aC (pd_var 2) q_a0)))
   (pds_one (q_share (q_ret (pd_var 1))))))))
theorem ok_plain {f : Addr} {fd : FuncData} (F : Fun K "plain" "plain" (top 29) f fd) (hx : mg "plain" = some (.ref f)) (T : Txt mg) (h_check_letter : Fn P w K mg base "check_letter" 5 1 g_check_letter) (h_joined : Fn P w K mg base "joined" 4 1 g_joined) : Fn P w K mg base "plain" 6 1 g_plain := by
 have S : FnScope ["letter"] ["letter"] (defScope (top 29)) := ⟨rfl, rfl, rfl, by decide +kernel, rfl, by decide +kernel, by decide +kernel⟩
 refine def_ok (m := 0) (k := 5) (Fb := F_plain) F S rfl (fun _ _ _ _ _ _ us hl => match us, hl with | [_], _ => rfl) hx fun cdv A outer s H E G₀ hr => ?_
 have hu := hr.units
 exact (pds_cons (q_expr (q_call h_check_letter (hr.mono (by decide)) (q_aC (pd_var 0) q_a0)))
   (pds_one (q_ret (q_call h_joined (hr.mono (by decide)) (q_aC (pd_var 0) q_a0)))))
theorem ok_first_sum {f : Addr} {fd : FuncData} (F : Fun K "first_sum" "first_sum" (top 40) f fd) (hx : mg "first_sum" = some (.ref f)) (T : Txt mg) (h_check_key : Fn P w K mg base "check_key" 5 1 g_check_key) (h_check_text : Fn P w K mg base "check_text" 3 1 g_check_text) (h_plain : Fn P w K mg base "plain" 6 1 g_plain) : Fn P w K mg base "first_sum" 7 2 g_first_sum := by
 have S : FnScope ["key", "text", "few", "plain", "leaning", "sign"] ["key", "text"] (defScope (top 40)) := ⟨rfl, rfl, rfl, by decide +kernel, rfl, by decide +kernel, by decide +kernel⟩
 refine def_ok (m := 4) (k := 6) (Fb := F_first_sum) F S rfl (fun _ _ _ _ _ _ us hl => match us, hl with | [_, _], _ => rfl) hx fun cdv A outer s H E G₀ hr => ?_
 have hu := hr.units
 exact (pds_cons (q_expr (q_call h_check_key (hr.mono (by decide)) (q_aC (pd_var 0) q_a0)))
   (pds_cons (q_expr (q_call h_check_text (hr.mono (by decide)) (q_aC (pd_var 1) q_a0)))
   (pds_cons (q_set 2 S.nd (q_ix (pd_var 0) pd_int))
   (pds_cons (q_set 3 S.nd pd_int)
   (pds_cons (q_set 4 S.nd pd_int)
   (pds_cons (q_for (F := L_first_sum_1) PassesOwn.never rfl (q_it (pd_var 1)) (pg_name (i := 5) S.nd rfl (by first | exact Or.inl rfl | exact Or.inr rfl)) (q_tgN 5) fun G₀ => (pds_cons (q_aug 3 ip_addD S.nd (q_blt cd_ord T.b_ord (by rfl) (q_aC (pd_var 5) q_a0)))
   (pds_one (q_aug 4 ip_addD S.nd (pd_var 3)))))
   (pds_one (q_ret (q_tup (q_aC (q_bin od_mod (pd_var 3) (pd_var 2)) (q_aC (q_bin od_mod (pd_var 4) (pd_var 2)) q_a0)))))))))))
theorem ok_rolled {f : Addr} {fd : FuncData} (F : Fun K "rolled" "rolled" (top 41) f fd) (hx : mg "rolled" = some (.ref f)) (T : Txt mg) (h_check_key : Fn P w K mg base "check_key" 5 1 g_check_key) (h_plain : Fn P w K mg base "plain" 6 1 g_plain) : Fn P w K mg base "rolled" 7 5 g_rolled := by
 have S : FnScope ["key", "found", "many", "gone", "come", "few", "plain", "leaning"] ["key", "found", "many", "gone", "come"] (defScope (top 41)) := ⟨rfl, rfl, rfl, by decide +kernel, rfl, by decide +kernel, by decide +kernel⟩
 refine def_ok (m := 3) (k := 6) (Fb := F_rolled) F S rfl (fun _ _ _ _ _ _ us hl => match us, hl with | [_, _, _, _, _], _ => rfl) hx fun cdv A outer s H E G₀ hr => ?_
 have hu := hr.units
 exact (pds_cons (q_expr (q_call h_check_key (hr.mono (by decide)) (q_aC (pd_var 0) q_a0)))
   (pds_cons (q_set 5 S.nd (q_ix (pd_var 0) pd_int))
   (pds_cons (q_set 6 S.nd (q_bin od_add (q_bin od_sub (q_ix (pd_var 1) pd_int) (q_blt cd_ord T.b_ord (by rfl) (q_aC (pd_var 3) q_a0))) (q_blt cd_ord T.b_ord (by rfl) (q_aC (pd_var 4) q_a0))))
   (pds_cons (q_set 7 S.nd (q_bin od_add (q_bin od_sub (q_ix (pd_var 1) pd_int) (q_bin od_mul (pd_var 2) (q_blt cd_ord T.b_ord (by rfl) (q_aC (pd_var 3) q_a0)))) (pd_var 6)))
   (pds_one (q_ret (q_tup (q_aC (q_bin od_mod (pd_var 6) (pd_var 5)) (q_aC (q_bin od_mod (pd_var 7) (pd_var 5)) q_a0)))))))))
theorem ok_rolled_sums {f : Addr} {fd : FuncData} (F : Fun K "rolled_sums" "rolled_sums" (top 42) f fd) (hx : mg "rolled_sums" = some (.ref f)) (T : Txt mg) (h_first_sum : Fn P w K mg base "first_sum" 7 2 g_first_sum) (h_rolled : Fn P w K mg base "rolled" 7 5 g_rolled) : Fn P w K mg base "rolled_sums" 8 3 g_rolled_sums := by
 have S : FnScope ["key", "size", "text", "found", "firsts", "place"] ["key", "size", "text"] (defScope (top 42)) := ⟨rfl, rfl, rfl, by decide +kernel, rfl, by decide +kernel, by decide +kernel⟩
 refine def_ok (m := 3) (k := 7) (Fb := F_rolled_sums) F S rfl (fun _ _ _ _ _ _ us hl => match us, hl with | [_, _, _], _ => rfl) hx fun cdv A outer s H E G₀ hr => ?_
 have hu := hr.units
 exact (pds_cons (q_ifS (q_tcmp od_lt (q_blt cd_len T.b_len (by rfl) (q_aC (pd_var 2) q_a0)) (pd_var 1)) (pds_one (q_ret (q_lst q_a0))) pds_nil)
   (pds_cons (q_set 3 S.nd (q_call h_first_sum (hr.mono (by decide)) (q_aC (pd_var 0) (q_aC (q_slice (pd_var 2) q_noPart (q_part (pd_var 1))) q_a0))))
   (pds_cons (q_own 4 S.nd (q_aC (pd_var 3) q_a0))
   (pds_cons (q_for (F := L_rolled_sums_1) PassesOwn.never rfl (q_rng1 T.b_range (q_aC (q_bin od_sub (q_blt cd_len T.b_len (by rfl) (q_aC (pd_var 2) q_a0)) (pd_var 1)) q_a0)) (pg_name (i := 5) S.nd rfl (by first | exact Or.inl rfl | exact Or.inr rfl)) (q_tgN 5) fun G₀ => (pds_cons (q_set 3 S.nd (q_call h_rolled (hr.mono (by decide)) (q_aC (pd_var 0) (q_aC (pd_var 3) (q_aC (pd_var 1) (q_aC (q_ix (pd_var 2) (pd_var 5)) (q_aC (q_ix (pd_var 2) (q_bin od_add (pd_var 5) (pd_var 1))) q_a0)))))))
   (pds_one (q_mut 4 app_ne PySem.F.slot_list_append PySem.F.type_list_append mt_append mut_append (q_aC (pd_var 3) q_a0)))))
   (pds_one (q_share (q_ret (pd_var 4))))))))
theorem ok_earliest_blocks {f : Addr} {fd : FuncData} (F : Fun K "earliest_blocks" "earliest_blocks" (top 52) f fd) (hx : mg "earliest_blocks" = some (.ref f)) (T : Txt mg) : Fn P w K mg base "earliest_blocks" 1 1 g_earliest_blocks := by
 have S : FnScope ["told", "earliest", "block", "card", "seconds"] ["told"] (defScope (top 52)) := ⟨rfl, rfl, rfl, by decide +kernel, rfl, by decide +kernel, by decide +kernel⟩
 refine def_ok (m := 4) (k := 0) (Fb := F_earliest_blocks) F S rfl (fun _ _ _ _ _ _ us hl => match us, hl with | [_], _ => rfl) hx fun cdv A outer s H E G₀ hr => ?_
 have hu := hr.units
 exact (pds_cons (q_newT 1 S.nd)
   (pds_cons (q_earl 1 4 2 3 (by decide) (by decide) (by decide) (by decide) (by decide) hu PassesOwn.never rfl S.nd (q_enum T.b_enumerate (pd_var 0)) (q_ix (pd_var 3) pd_int) (q_ix (pd_var 3) pd_int) (pd_var 2))
   (pds_one (q_ret (pd_var 1)))))
theorem ok_fitting_block {f : Addr} {fd : FuncData} (F : Fun K "fitting_block" "fitting_block" (top 53) f fd) (hx : mg "fitting_block" = some (.ref f)) (T : Txt mg) : Fn P w K mg base "fitting_block" 1 4 g_fitting_block := by
 have S : FnScope ["told", "earliest", "awaited", "card"] ["told", "earliest", "awaited", "card"] (defScope (top 53)) := ⟨rfl, rfl, rfl, by decide +kernel, rfl, by decide +kernel, by decide +kernel⟩
 refine def_ok (m := 0) (k := 0) (Fb := F_fitting_block) F S rfl (fun _ _ _ _ _ _ us hl => match us, hl with | [_, _, _, _], _ => rfl) hx fun cdv A outer s H E G₀ hr => ?_
 have hu := hr.units
 exact (pds_cons (q_ifS (PW.pt (q_wand (q_tcmp od_isNot (pd_var 2) pd_non) (q_wand (q_tcmp od_lt (pd_var 2) (q_blt cd_len T.b_len (by rfl) (q_aC (pd_var 0) q_a0))) (q_w1a (q_tcmp (od_eq hu) (q_ix (pd_var 0) (pd_var 2)) (pd_var 3)))))) (pds_one (q_ret (pd_var 2))) pds_nil)
   (pds_one (q_ret (q_get hu (q_dixT hu (pd_var 1) (q_ix (pd_var 3) pd_int)) (q_ix (pd_var 3) pd_int)))))
theorem ok_chained {f : Addr} {fd : FuncData} (F : Fun K "chained" "chained" (top 45) f fd) (hx : mg "chained" = some (.ref f)) (T : Txt mg) : Fn P w K mg base "chained" 1 3 g_chained := by
 have S : FnScope ["times", "many", "text", "number", "sign"] ["times", "many", "text"] (defScope (top 45)) := ⟨rfl, rfl, rfl, by decide +kernel, rfl, by decide +kernel, by decide +kernel⟩
 refine def_ok (m := 2) (k := 0) (Fb := F_chained) F S rfl (fun _ _ _ _ _ _ us hl => match us, hl with | [_, _, _], _ => rfl) hx fun cdv A outer s H E G₀ hr => ?_
 have hu := hr.units
 exact (pds_cons (q_set 3 S.nd pd_int)
   (pds_cons (q_for (F := L_chained_1) PassesOwn.never rfl (q_it (pd_var 2)) (pg_name (i := 4) S.nd rfl (by first | exact Or.inl rfl | exact Or.inr rfl)) (q_tgN 4) fun G₀ => (pds_one (q_set 3 S.nd (q_bin od_mod (q_bin od_add (q_bin od_mul (pd_var 0) (pd_var 3)) (q_blt cd_ord T.b_ord (by rfl) (q_aC (pd_var 4) q_a0))) (pd_var 1)))))
   (pds_one (q_ret (pd_var 3)))))
theorem ok_second_sum {f : Addr} {fd : FuncData} (F : Fun K "second_sum" "second_sum" (top 43) f fd) (hx : mg "second_sum" = some (.ref f)) (T : Txt mg) (h_check_key : Fn P w K mg base "check_key" 5 1 g_check_key) (h_check_text : Fn P w K mg base "check_text" 3 1 g_check_text) (h_chained : Fn P w K mg base "chained" 1 3 g_chained) : Fn P w K mg base "second_sum" 6 2 g_second_sum := by
 have S : FnScope ["key", "text"] ["key", "text"] (defScope (top 43)) := ⟨rfl, rfl, rfl, by decide +kernel, rfl, by decide +kernel, by decide +kernel⟩
 refine def_ok (m := 0) (k := 5) (Fb := F_second_sum) F S rfl (fun _ _ _ _ _ _ us hl => match us, hl with | [_, _], _ => rfl) hx fun cdv A outer s H E G₀ hr => ?_
 have hu := hr.units
 exact (pds_cons (q_expr (q_call h_check_key (hr.mono (by decide)) (q_aC (pd_var 0) q_a0)))
   (pds_cons (q_expr (q_call h_check_text (hr.mono (by decide)) (q_aC (pd_var 1) q_a0)))
   (pds_one (q_ret (q_call h_chained (hr.mono (by decide)) (q_aC (q_ix (pd_var 0) pd_int) (q_aC (q_ix (pd_var 0) pd_int) (q_aC (pd_var 1) q_a0))))))))
theorem ok_found_by {f : Addr} {fd : FuncData} (F : Fun K "found_by" "found_by" (top 48) f fd) (hx : mg "found_by" = some (.ref f)) (T : Txt mg) (h_check_key : Fn P w K mg base "check_key" 5 1 g_check_key) (h_check_size : Fn P w K mg base "check_size" 4 1 g_check_size) (h_check_cards : Fn P w K mg base "check_cards" 4 1 g_check_cards) (h_check_text : Fn P w K mg base "check_text" 3 1 g_check_text) (h_rolled_sums : Fn P w K mg base "rolled_sums" 8 3 g_rolled_sums) (h_earliest_blocks : Fn P w K mg base "earliest_blocks" 1 1 g_earliest_blocks) (h_fitting_block : Fn P w K mg base "fitting_block" 1 4 g_fitting_block) (h_second_sum : Fn P w K mg base "second_sum" 6 2 g_second_sum) (h_plain : Fn P w K mg base "plain" 6 1 g_plain) : Fn P w K mg base "found_by" 9 4 g_found_by := by
 have S : FnScope ["key", "size", "told", "newer", "firsts", "earliest", "pieces", "place", "awaited", "block", "card"] ["key", "size", "told", "newer"] (defScope (top 48)) := ⟨rfl, rfl, rfl, by decide +kernel, rfl, by decide +kernel, by decide +kernel⟩
 refine def_ok (m := 7) (k := 8) (Fb := F_found_by) F S rfl (fun _ _ _ _ _ _ us hl => match us, hl with | [_, _, _, _], _ => rfl) hx fun cdv A outer s H E G₀ hr => ?_
 have hu := hr.units
 exact (pds_cons (q_expr (q_call h_check_key (hr.mono (by decide)) (q_aC (pd_var 0) q_a0)))
   (pds_cons (q_expr (q_call h_check_size (hr.mono (by decide)) (q_aC (pd_var 1) q_a0)))
   (pds_cons (q_expr (q_call h_check_cards (hr.mono (by decide)) (q_aC (pd_var 2) q_a0)))
   (pds_cons (q_expr (q_call h_check_text (hr.mono (by decide)) (q_aC (pd_var 3) q_a0)))
   (pds_cons (q_set 4 S.nd (q_call h_rolled_sums (hr.mono (by decide)) (q_aC (pd_var 0) (q_aC (pd_var 1) (q_aC (pd_var 3) q_a0)))))
   (pds_cons (q_set 5 S.nd (q_call h_earliest_blocks (hr.mono (by decide)) (q_aC (pd_var 2) q_a0)))
   (pds_cons (q_own 6 S.nd q_a0)
   (pds_cons (q_set 7 S.nd pd_int)
   (pds_cons (q_set 8 S.nd pd_non)
   (pds_cons (q_while (gc := C_found_by_1) (F := L_found_by_1) 5000 PassesOwn.never (q_tcmp od_lt (pd_var 7) (q_blt cd_len T.b_len (by rfl) (q_aC (pd_var 3) q_a0))) (pds_cons (q_set 9 S.nd pd_non)
   (pds_cons (q_ifS (PW.pt (q_wand (q_tcmp od_lt (pd_var 7) (q_blt cd_len T.b_len (by rfl) (q_aC (pd_var 4) q_a0))) (q_w1a (q_tcmp (od_inT hu) (q_ix (pd_var 4) (pd_var 7)) (pd_var 5))))) (pds_cons (q_set 10 S.nd (q_tup (q_aC (q_ix (pd_var 4) (pd_var 7)) (q_aC (q_call h_second_sum (hr.mono (by decide)) (q_aC (pd_var 0) (q_aC (q_slice (pd_var 3) (q_part (pd_var 7)) (q_part (q_bin od_add (pd_var 7) (pd_var 1)))) q_a0))) q_a0))))
   (pds_one (q_set 9 S.nd (q_call h_fitting_block (hr.mono (by decide)) (q_aC (pd_var 2) (q_aC (pd_var 5) (q_aC (pd_var 8) (q_aC (pd_var 10) q_a0)))))))) pds_nil)
   (pds_one (q_ifS (q_tcmp od_isN (pd_var 9) pd_non) (pds_cons (q_mut 6 app_ne PySem.F.slot_list_append PySem.F.type_list_append mt_append mut_append (q_aC (q_tup (q_aC pd_str (q_aC (q_ix (pd_var 3) (pd_var 7)) q_a0))) q_a0))
   (pds_cons (q_set 8 S.nd pd_non)
   (pds_one (q_aug 7 ip_addD S.nd pd_int)))) (pds_cons (q_mut 6 app_ne PySem.F.slot_list_append PySem.F.type_list_append mt_append mut_append (q_aC (q_tup (q_aC pd_str (q_aC (q_bin od_mul (pd_var 9) (pd_var 1)) (q_aC (pd_var 1) q_a0)))) q_a0))
   (pds_cons (q_set 8 S.nd (q_bin od_add (pd_var 9) pd_int))
   (pds_one (q_aug 7 ip_addD S.nd (pd_var 1))))))))))
   (pds_one (q_share (q_ret (q_call h_plain (hr.mono (by decide)) (q_aC (pd_var 6) q_a0)))))))))))))))
theorem ok_card_of {f : Addr} {fd : FuncData} (F : Fun K "card_of" "card_of" (top 49) f fd) (hx : mg "card_of" = some (.ref f)) (T : Txt mg) (h_first_sum : Fn P w K mg base "first_sum" 7 2 g_first_sum) (h_second_sum : Fn P w K mg base "second_sum" 6 2 g_second_sum) : Fn P w K mg base "card_of" 8 2 g_card_of := by
 have S : FnScope ["key", "block"] ["key", "block"] (defScope (top 49)) := ⟨rfl, rfl, rfl, by decide +kernel, rfl, by decide +kernel, by decide +kernel⟩
 refine def_ok (m := 0) (k := 7) (Fb := F_card_of) F S rfl (fun _ _ _ _ _ _ us hl => match us, hl with | [_, _], _ => rfl) hx fun cdv A outer s H E G₀ hr => ?_
 have hu := hr.units
 exact (pds_one (q_ret (q_tup (q_aC (q_call h_first_sum (hr.mono (by decide)) (q_aC (pd_var 0) (q_aC (pd_var 1) q_a0))) (q_aC (q_call h_second_sum (hr.mono (by decide)) (q_aC (pd_var 0) (q_aC (pd_var 1) q_a0))) q_a0)))))
theorem ok_cards {f : Addr} {fd : FuncData} (F : Fun K "cards" "cards" (top 47) f fd) (hx : mg "cards" = some (.ref f)) (T : Txt mg) (h_check_key : Fn P w K mg base "check_key" 5 1 g_check_key) (h_check_size : Fn P w K mg base "check_size" 4 1 g_check_size) (h_check_text : Fn P w K mg base "check_text" 3 1 g_check_text) (h_card_of : Fn P w K mg base "card_of" 8 2 g_card_of) : Fn P w K mg base "cards" 9 3 g_cards := by
 have S : FnScope ["key", "size", "elder"] ["key", "size", "elder"] (defScope (top 47)) := ⟨rfl, rfl, rfl, by decide +kernel, rfl, by decide +kernel, by decide +kernel⟩
 refine def_ok (m := 0) (k := 8) (Fb := F_cards) F S rfl (fun _ _ _ _ _ _ us hl => match us, hl with | [_, _, _], _ => rfl) hx fun cdv A outer s H E G₀ hr => ?_
 have hu := hr.units
 exact (pds_cons (q_expr (q_call h_check_key (hr.mono (by decide)) (q_aC (pd_var 0) q_a0)))
   (pds_cons (q_expr (q_call h_check_size (hr.mono (by decide)) (q_aC (pd_var 1) q_a0)))
   (pds_cons (q_expr (q_call h_check_text (hr.mono (by decide)) (q_aC (pd_var 2) q_a0)))
   (pds_one (q_ret (q_comp (sc := defScope (top 47)) (N := ["key", "size", "elder"]) [("key", 0), ("elder", 2), ("size", 1)] (by decide +kernel) rfl rfl rfl (q_rng3 T.b_range (q_aC pd_int (q_aC (q_bin od_add (q_bin od_sub (q_blt cd_len T.b_len (by rfl) (q_aC (pd_var 2) q_a0)) (pd_var 1)) pd_int) (q_aC (pd_var 1) q_a0)))) .nil fun C s₀ H₀ fp B G₀ => (q_call h_card_of (hr.mono (by decide)) (q_aC (pd_var 1) (q_aC (q_slice (pd_var 2) (q_part (pd_var 0)) (q_part (q_bin od_add (pd_var 0) (pd_var 3)))) q_a0)))))))))
theorem ok_made_by_piece {f : Addr} {fd : FuncData} (F : Fun K "made_by_piece" "made_by_piece" (top 34) f fd) (hx : mg "made_by_piece" = some (.ref f)) (T : Txt mg) (h_is_copy : Fn P w K mg base "is_copy" 1 1 g_is_copy) : Fn P w K mg base "made_by_piece" 2 2 g_made_by_piece := by
 have S : FnScope ["elder", "piece", "end"] ["elder", "piece"] (defScope (top 34)) := ⟨rfl, rfl, rfl, by decide +kernel, rfl, by decide +kernel, by decide +kernel⟩
 refine def_ok (m := 1) (k := 1) (Fb := F_made_by_piece) F S rfl (fun _ _ _ _ _ _ us hl => match us, hl with | [_, _], _ => rfl) hx fun cdv A outer s H E G₀ hr => ?_
 have hu := hr.units
 exact (pds_cons (q_ifS (q_tnot (q_tval (q_call h_is_copy (hr.mono (by decide)) (q_aC (pd_var 1) q_a0)))) (pds_one (q_ret (q_ix (pd_var 1) pd_int))) pds_nil)
   (pds_cons (q_set 2 S.nd (q_bin od_add (q_ix (pd_var 1) pd_int) (q_ix (pd_var 1) pd_int)))
   (pds_cons (q_ifS (q_tcmp od_gt (pd_var 2) (q_blt cd_len T.b_len (by rfl) (q_aC (pd_var 0) q_a0))) (pds_one q_never) pds_nil)
   (pds_one (q_ret (q_slice (pd_var 0) (q_part (q_ix (pd_var 1) pd_int)) (q_part (pd_var 2))))))))
theorem ok_mended {f : Addr} {fd : FuncData} (F : Fun K "mended" "mended" (top 28) f fd) (hx : mg "mended" = some (.ref f)) (T : Txt mg) (h_check_text : Fn P w K mg base "check_text" 3 1 g_check_text) (h_check_letter : Fn P w K mg base "check_letter" 5 1 g_check_letter) (h_made_by_piece : Fn P w K mg base "made_by_piece" 2 2 g_made_by_piece) : Fn P w K mg base "mended" 6 2 g_mended := by
 have S : FnScope ["elder", "letter"] ["elder", "letter"] (defScope (top 28)) := ⟨rfl, rfl, rfl, by decide +kernel, rfl, by decide +kernel, by decide +kernel⟩
 refine def_ok (m := 0) (k := 5) (Fb := F_mended) F S rfl (fun _ _ _ _ _ _ us hl => match us, hl with | [_, _], _ => rfl) hx fun cdv A outer s H E G₀ hr => ?_
 have hu := hr.units
 exact (pds_cons (q_expr (q_call h_check_text (hr.mono (by decide)) (q_aC (pd_var 0) q_a0)))
   (pds_cons (q_expr (q_call h_check_letter (hr.mono (by decide)) (q_aC (pd_var 1) q_a0)))
   (pds_one (q_ret (q_meth PySem.F.slot_str_join PySem.F.type_str_join mts_join pd_str (q_aC (q_comp (sc := defScope (top 28)) (N := ["elder", "letter"]) [("elder", 0)] (by decide +kernel) rfl rfl rfl (q_it (pd_var 1)) .nil fun C s₀ H₀ fp B G₀ => (q_call h_made_by_piece (hr.mono (by decide)) (q_aC (pd_var 1) (q_aC (pd_var 0) q_a0)))) q_a0))))))
theorem ok_whole_sum {f : Addr} {fd : FuncData} (F : Fun K "whole_sum" "whole_sum" (top 44) f fd) (hx : mg "whole_sum" = some (.ref f)) (T : Txt mg) (h_check_key : Fn P w K mg base "check_key" 5 1 g_check_key) (h_check_text : Fn P w K mg base "check_text" 3 1 g_check_text) (h_chained : Fn P w K mg base "chained" 1 3 g_chained) : Fn P w K mg base "whole_sum" 6 2 g_whole_sum := by
 have S : FnScope ["key", "text"] ["key", "text"] (defScope (top 44)) := ⟨rfl, rfl, rfl, by decide +kernel, rfl, by decide +kernel, by decide +kernel⟩
 refine def_ok (m := 0) (k := 5) (Fb := F_whole_sum) F S rfl (fun _ _ _ _ _ _ us hl => match us, hl with | [_, _], _ => rfl) hx fun cdv A outer s H E G₀ hr => ?_
 have hu := hr.units
 exact (pds_cons (q_expr (q_call h_check_key (hr.mono (by decide)) (q_aC (pd_var 0) q_a0)))
   (pds_cons (q_expr (q_call h_check_text (hr.mono (by decide)) (q_aC (pd_var 1) q_a0)))
   (pds_one (q_ret (q_tup (q_aC (q_blt cd_len T.b_len (by rfl) (q_aC (pd_var 1) q_a0)) (q_aC (q_call h_chained (hr.mono (by decide)) (q_aC (q_bin od_add (q_ix (pd_var 0) pd_int) pd_int) (q_aC (q_ix (pd_var 0) pd_int) (q_aC (pd_var 1) q_a0)))) q_a0)))))))
theorem ok_all_signs {f : Addr} {fd : FuncData} (F : Fun K "all_signs" "all_signs" (top 56) f fd) (hx : mg "all_signs" = some (.ref f)) (T : Txt mg) : Fn P w K mg base "all_signs" 1 1 g_all_signs := by
 have S : FnScope ["text"] ["text"] (defScope (top 56)) := ⟨rfl, rfl, rfl, by decide +kernel, rfl, by decide +kernel, by decide +kernel⟩
 refine def_ok (m := 0) (k := 0) (Fb := F_all_signs) F S rfl (fun _ _ _ _ _ _ us hl => match us, hl with | [_], _ => rfl) hx fun cdv A outer s H E G₀ hr => ?_
 have hu := hr.units
 exact (pds_one (q_ret (q_if (q_tcmp od_gt (q_blt cd_len T.b_len (by rfl) (q_aC (pd_var 0) q_a0)) pd_int) (q_lst (q_aC (q_tup (q_aC pd_str (q_aC (pd_var 0) q_a0))) q_a0)) (q_lst q_a0))))
theorem ok_talk {f : Addr} {fd : FuncData} (F : Fun K "talk" "talk" (top 55) f fd) (hx : mg "talk" = some (.ref f)) (T : Txt mg) (h_found_by : Fn P w K mg base "found_by" 9 4 g_found_by) (h_cards : Fn P w K mg base "cards" 9 3 g_cards) (h_mended : Fn P w K mg base "mended" 6 2 g_mended) (h_whole_sum : Fn P w K mg base "whole_sum" 6 2 g_whole_sum) (h_all_signs : Fn P w K mg base "all_signs" 1 1 g_all_signs) : Fn P w K mg base "talk" 10 4 g_talk := by
 have S : FnScope ["key", "size", "elder", "newer", "letter", "made"] ["key", "size", "elder", "newer"] (defScope (top 55)) := ⟨rfl, rfl, rfl, by decide +kernel, rfl, by decide +kernel, by decide +kernel⟩
 refine def_ok (m := 2) (k := 9) (Fb := F_talk) F S rfl (fun _ _ _ _ _ _ us hl => match us, hl with | [_, _, _, _], _ => rfl) hx fun cdv A outer s H E G₀ hr => ?_
 have hu := hr.units
 exact (pds_cons (q_set 4 S.nd (q_call h_found_by (hr.mono (by decide)) (q_aC (pd_var 0) (q_aC (pd_var 1) (q_aC (q_call h_cards (hr.mono (by decide)) (q_aC (pd_var 0) (q_aC (pd_var 1) (q_aC (pd_var 2) q_a0)))) (q_aC (pd_var 3) q_a0))))))
   (pds_cons (q_set 5 S.nd (q_call h_mended (hr.mono (by decide)) (q_aC (pd_var 2) (q_aC (pd_var 4) q_a0))))
   (pds_cons (q_ifS (q_tcmp (od_eq hu) (q_call h_whole_sum (hr.mono (by decide)) (q_aC (pd_var 0) (q_aC (pd_var 5) q_a0))) (q_call h_whole_sum (hr.mono (by decide)) (q_aC (pd_var 0) (q_aC (pd_var 3) q_a0)))) (pds_one (q_ret (q_tup (q_aC pd_str (q_aC (pd_var 5) (q_aC (pd_var 4) q_a0)))))) pds_nil)
   (pds_one (q_ret (q_tup (q_aC pd_str (q_aC (pd_var 3) (q_aC (q_call h_all_signs (hr.mono (by decide)) (q_aC (pd_var 3) q_a0)) q_a0)))))))))
theorem ok__law_fitting {f : Addr} {fd : FuncData} (F : Fun K "_law_fitting" "_law_fitting" (top 71) f fd) (hx : mg "_law_fitting" = some (.ref f)) (T : Txt mg) : Fn P w K mg base "_law_fitting" 1 2 g__law_fitting := by
 have S : FnScope ["_law_known_here", "_law_stretch"] ["_law_known_here", "_law_stretch"] (defScope (top 71)) := ⟨rfl, rfl, rfl, by decide +kernel, rfl, by decide +kernel, by decide +kernel⟩
 refine def_ok (m := 0) (k := 0) (Fb := F__law_fitting) F S rfl (fun _ _ _ _ _ _ us hl => match us, hl with | [_, _], _ => rfl) hx fun cdv A outer s H E G₀ hr => ?_
 have hu := hr.units
 exact (pds_one (q_ret (q_comp (sc := defScope (top 71)) (N := ["_law_known_here", "_law_stretch"]) [("_law_stretch", 1), ("_law_known_here", 0)] (by decide +kernel) rfl rfl rfl (q_rng1 T.b_range (q_aC (q_blt cd_len T.b_len (by rfl) (q_aC (pd_var 0) q_a0)) q_a0)) (.one fun C s₀ H₀ fp B G₀ => (q_tcmp (od_eq hu) (q_ix (pd_var 2) (pd_var 0)) (pd_var 1))) fun C s₀ H₀ fp B G₀ => (pd_var 0))))
theorem ok__law_first {f : Addr} {fd : FuncData} (F : Fun K "_law_first" "_law_first" (top 63) f fd) (hx : mg "_law_first" = some (.ref f)) (T : Txt mg) : Fn P w K mg base "_law_first" 1 2 g__law_first := by
 have S : FnScope ["_law_key_here", "_law_text_here", "_law_even", "_law_lean"] ["_law_key_here", "_law_text_here"] (defScope (top 63)) := ⟨rfl, rfl, rfl, by decide +kernel, rfl, by decide +kernel, by decide +kernel⟩
 refine def_ok (m := 2) (k := 0) (Fb := F__law_first) F S rfl (fun _ _ _ _ _ _ us hl => match us, hl with | [_, _], _ => rfl) hx fun cdv A outer s H E G₀ hr => ?_
 have hu := hr.units
 exact (pds_cons (q_set 2 S.nd (q_blt (cd_sumA rfl) T.b_sum (by rfl) (q_aC (q_comp (sc := defScope (top 63)) (N := ["_law_key_here", "_law_text_here", "_law_even", "_law_lean"]) [] (by decide +kernel) rfl rfl rfl (q_it (pd_var 1)) .nil fun C s₀ H₀ fp B G₀ => (q_blt cd_ord T.b_ord (by rfl) (q_aC (pd_var 0) q_a0))) q_a0)))
   (pds_cons (q_set 3 S.nd (q_blt (cd_sumA rfl) T.b_sum (by rfl) (q_aC (q_comp (sc := defScope (top 63)) (N := ["_law_key_here", "_law_text_here", "_law_even", "_law_lean"]) [("_law_text_here", 1)] (by decide +kernel) rfl rfl rfl (q_rng1 T.b_range (q_aC (q_blt cd_len T.b_len (by rfl) (q_aC (pd_var 1) q_a0)) q_a0)) .nil fun C s₀ H₀ fp B G₀ => (q_bin od_mul (q_bin od_sub (q_blt cd_len T.b_len (by rfl) (q_aC (pd_var 1) q_a0)) (pd_var 0)) (q_blt cd_ord T.b_ord (by rfl) (q_aC (q_ix (pd_var 1) (pd_var 0)) q_a0)))) q_a0)))
   (pds_one (q_ret (q_tup (q_aC (q_bin od_mod (pd_var 2) (q_ix (pd_var 0) pd_int)) (q_aC (q_bin od_mod (pd_var 3) (q_ix (pd_var 0) pd_int)) q_a0)))))))
theorem ok__law_second {f : Addr} {fd : FuncData} (F : Fun K "_law_second" "_law_second" (top 64) f fd) (hx : mg "_law_second" = some (.ref f)) (T : Txt mg) : Fn P w K mg base "_law_second" 1 3 g__law_second := by
 have S : FnScope ["_law_text_here", "_law_times", "_law_many", "_law_number", "_law_sign"] ["_law_text_here", "_law_times", "_law_many"] (defScope (top 64)) := ⟨rfl, rfl, rfl, by decide +kernel, rfl, by decide +kernel, by decide +kernel⟩
 refine def_ok (m := 2) (k := 0) (Fb := F__law_second) F S rfl (fun _ _ _ _ _ _ us hl => match us, hl with | [_, _, _], _ => rfl) hx fun cdv A outer s H E G₀ hr => ?_
 have hu := hr.units
 exact (pds_cons (q_set 3 S.nd pd_int)
   (pds_cons (q_for (F := L__law_second_1) PassesOwn.never rfl (q_it (pd_var 0)) (pg_name (i := 4) S.nd rfl (by first | exact Or.inl rfl | exact Or.inr rfl)) (q_tgN 4) fun G₀ => (pds_one (q_set 3 S.nd (q_bin od_add (q_bin od_mul (pd_var 3) (pd_var 1)) (q_blt cd_ord T.b_ord (by rfl) (q_aC (pd_var 4) q_a0))))))
   (pds_one (q_ret (q_bin od_mod (pd_var 3) (pd_var 2))))))
theorem ok__law_card {f : Addr} {fd : FuncData} (F : Fun K "_law_card" "_law_card" (top 65) f fd) (hx : mg "_law_card" = some (.ref f)) (T : Txt mg) (h__law_first : Fn P w K mg base "_law_first" 1 2 g__law_first) (h__law_second : Fn P w K mg base "_law_second" 1 3 g__law_second) : Fn P w K mg base "_law_card" 2 2 g__law_card := by
 have S : FnScope ["_law_key_here", "_law_text_here"] ["_law_key_here", "_law_text_here"] (defScope (top 65)) := ⟨rfl, rfl, rfl, by decide +kernel, rfl, by decide +kernel, by decide +kernel⟩
 refine def_ok (m := 0) (k := 1) (Fb := F__law_card) F S rfl (fun _ _ _ _ _ _ us hl => match us, hl with | [_, _], _ => rfl) hx fun cdv A outer s H E G₀ hr => ?_
 have hu := hr.units
 exact (pds_one (q_ret (q_tup (q_aC (q_call h__law_first (hr.mono (by decide)) (q_aC (pd_var 0) (q_aC (pd_var 1) q_a0))) (q_aC (q_call h__law_second (hr.mono (by decide)) (q_aC (pd_var 1) (q_aC (q_ix (pd_var 0) pd_int) (q_aC (q_ix (pd_var 0) pd_int) q_a0)))) q_a0)))))
theorem ok__law_goes_on {f : Addr} {fd : FuncData} (F : Fun K "_law_goes_on" "_law_goes_on" (top 69) f fd) (hx : mg "_law_goes_on" = some (.ref f)) (T : Txt mg) : Fn P w K mg base "_law_goes_on" 1 2 g__law_goes_on := by
 have S : FnScope ["_law_one", "_law_other"] ["_law_one", "_law_other"] (defScope (top 69)) := ⟨rfl, rfl, rfl, by decide +kernel, rfl, by decide +kernel, by decide +kernel⟩
 refine def_ok (m := 0) (k := 0) (Fb := F__law_goes_on) F S rfl (fun _ _ _ _ _ _ us hl => match us, hl with | [_, _], _ => rfl) hx fun cdv A outer s H E G₀ hr => ?_
 have hu := hr.units
 exact (pds_cons (q_ifS (PW.pt (q_wor (q_tval (q_isi (isi_str _) T.b_isinstance T.b_str (by rfl) (pd_var 0))) (q_w1o (q_tval (q_isi (isi_str _) T.b_isinstance T.b_str (by rfl) (pd_var 1)))))) (pds_one (q_ret (q_and (q_isi (isi_str _) T.b_isinstance T.b_str (by rfl) (pd_var 0)) (pd_one (q_isi (isi_str _) T.b_isinstance T.b_str (by rfl) (pd_var 1)))))) pds_nil)
   (pds_one (q_ret (q_cmp (od_eq hu) (pd_var 1) (q_bin od_add (pd_var 0) pd_int)))))
theorem ok__law_of_marks {f : Addr} {fd : FuncData} (F : Fun K "_law_of_marks" "_law_of_marks" (top 70) f fd) (hx : mg "_law_of_marks" = some (.ref f)) (T : Txt mg) (h__law_goes_on : Fn P w K mg base "_law_goes_on" 1 2 g__law_goes_on) : Fn P w K mg base "_law_of_marks" 2 1 g__law_of_marks := by
 have S : FnScope ["_law_row", "_law_groups", "_law_k", "_law_letter", "_law_group"] ["_law_row"] (defScope (top 70)) := ⟨rfl, rfl, rfl, by decide +kernel, rfl, by decide +kernel, by decide +kernel⟩
 refine def_ok (m := 4) (k := 1) (Fb := F__law_of_marks) F S rfl (fun _ _ _ _ _ _ us hl => match us, hl with | [_], _ => rfl) hx fun cdv A outer s H E G₀ hr => ?_
 have hu := hr.units
 exact (pds_cons (q_own 1 S.nd q_a0)
   (pds_cons (q_groups 2 1 (by decide) PassesOwn.never rfl S.nd (q_rng1 T.b_range (q_aC (q_blt cd_len T.b_len (by rfl) (q_aC (pd_var 0) q_a0)) q_a0)) (PW.pt (q_wand (q_tcmp od_gt (pd_var 2) pd_int) (q_w1a (q_tval (q_call h__law_goes_on (hr.mono (by decide)) (q_aC (q_ix (pd_var 0) (q_bin od_sub (pd_var 2) pd_int)) (q_aC (q_ix (pd_var 0) (pd_var 2)) q_a0))))))) (q_ix (pd_var 0) (pd_var 2)) (q_ix (pd_var 0) (pd_var 2)))
   (pds_cons (q_own 3 S.nd q_a0)
   (pds_cons (q_for (F := L__law_of_marks_1) PassesOwn.never rfl (q_it (pd_var 1)) (pg_name (i := 4) S.nd rfl (by first | exact Or.inl rfl | exact Or.inr rfl)) (q_tgN 4) fun G₀ => (pds_one (q_ifS (q_tval (q_isi (isi_str _) T.b_isinstance T.b_str (by rfl) (q_ix (pd_var 4) pd_int))) (pds_one (q_mut 3 app_ne PySem.F.slot_list_append PySem.F.type_list_append mt_append mut_append (q_aC (q_tup (q_aC pd_str (q_aC (q_meth PySem.F.slot_str_join PySem.F.type_str_join mts_join pd_str (q_aC (pd_var 4) q_a0)) q_a0))) q_a0))) (pds_one (q_mut 3 app_ne PySem.F.slot_list_append PySem.F.type_list_append mt_append mut_append (q_aC (q_tup (q_aC pd_str (q_aC (q_ix (pd_var 4) pd_int) (q_aC (q_blt cd_len T.b_len (by rfl) (q_aC (pd_var 4) q_a0)) q_a0)))) q_a0))))))
   (pds_one (q_share (q_ret (pd_var 3))))))))
theorem ok__law_marks {f : Addr} {fd : FuncData} (F : Fun K "_law_marks" "_law_marks" (top 68) f fd) (hx : mg "_law_marks" = some (.ref f)) (T : Txt mg) : Fn P w K mg base "_law_marks" 1 1 g__law_marks := by
 have S : FnScope ["_law_letter", "_law_row", "_law_piece"] ["_law_letter"] (defScope (top 68)) := ⟨rfl, rfl, rfl, by decide +kernel, rfl, by decide +kernel, by decide +kernel⟩
 refine def_ok (m := 2) (k := 0) (Fb := F__law_marks) F S rfl (fun _ _ _ _ _ _ us hl => match us, hl with | [_], _ => rfl) hx fun cdv A outer s H E G₀ hr => ?_
 have hu := hr.units
 exact (pds_cons (q_own 1 S.nd q_a0)
   (pds_cons (q_for (F := L__law_marks_1) PassesOwn.never rfl (q_it (pd_var 0)) (pg_name (i := 2) S.nd rfl (by first | exact Or.inl rfl | exact Or.inr rfl)) (q_tgN 2) fun G₀ => (pds_one (q_ifS (q_tcmp (od_eq hu) (q_ix (pd_var 2) pd_int) pd_str) (pds_one (q_mut 1 ext_ne PySem.F.slot_list_extend PySem.F.type_list_extend mt_extS mut_extend (q_aC (q_ty (cd_listA rfl) T.b_list (by rfl) (q_aC (q_ix (pd_var 2) pd_int) q_a0)) q_a0))) (pds_one (q_mut 1 ext_ne PySem.F.slot_list_extend PySem.F.type_list_extend mt_extS mut_extend (q_aC (q_lrng rfl T.b_list T.b_range (q_aC (q_ix (pd_var 2) pd_int) (q_aC (q_bin od_add (q_ix (pd_var 2) pd_int) (q_ix (pd_var 2) pd_int)) q_a0))) q_a0))))))
   (pds_one (q_share (q_ret (pd_var 1))))))
theorem ok__law_found {f : Addr} {fd : FuncData} (F : Fun K "_law_found" "_law_found" (top 72) f fd) (hx : mg "_law_found" = some (.ref f)) (T : Txt mg) (h__law_fitting : Fn P w K mg base "_law_fitting" 1 2 g__law_fitting) (h__law_card : Fn P w K mg base "_law_card" 2 2 g__law_card) (h__law_of_marks : Fn P w K mg base "_law_of_marks" 2 1 g__law_of_marks) (h__law_marks : Fn P w K mg base "_law_marks" 1 1 g__law_marks) : Fn P w K mg base "_law_found" 3 4 g__law_found := by
 have S : FnScope ["_law_key_here", "_law_size", "_law_known_here", "_law_newer_here", "_law_letter", "_law_place", "_law_last", "_law_blocks"] ["_law_key_here", "_law_size", "_law_known_here", "_law_newer_here"] (defScope (top 72)) := ⟨rfl, rfl, rfl, by decide +kernel, rfl, by decide +kernel, by decide +kernel⟩
 refine def_ok (m := 4) (k := 2) (Fb := F__law_found) F S rfl (fun _ _ _ _ _ _ us hl => match us, hl with | [_, _, _, _], _ => rfl) hx fun cdv A outer s H E G₀ hr => ?_
 have hu := hr.units
 exact (pds_cons (q_own 4 S.nd q_a0)
   (pds_cons (q_set 5 S.nd pd_int)
   (pds_cons (q_set 6 S.nd (q_neg pd_int))
   (pds_cons (q_while (gc := C__law_found_1) (F := L__law_found_1) 5000 PassesOwn.never (q_tcmp od_le (q_bin od_add (pd_var 5) (pd_var 1)) (q_blt cd_len T.b_len (by rfl) (q_aC (pd_var 3) q_a0))) (pds_cons (q_set 7 S.nd (q_call h__law_fitting (hr.mono (by decide)) (q_aC (pd_var 2) (q_aC (q_call h__law_card (hr.mono (by decide)) (q_aC (pd_var 0) (q_aC (q_slice (pd_var 3) (q_part (pd_var 5)) (q_part (q_bin od_add (pd_var 5) (pd_var 1)))) q_a0))) q_a0))))
   (pds_one (q_ifS (q_tcmp (od_eq hu) (pd_var 7) (q_lst q_a0)) (pds_cons (q_mut 4 app_ne PySem.F.slot_list_append PySem.F.type_list_append mt_append mut_append (q_aC (q_tup (q_aC pd_str (q_aC (q_ix (pd_var 3) (pd_var 5)) q_a0))) q_a0))
   (pds_cons (q_set 5 S.nd (q_bin od_add (pd_var 5) pd_int))
   (pds_one (q_set 6 S.nd (q_neg pd_int))))) (pds_cons (q_set 6 S.nd (q_ix (q_lst (q_aC (q_ix (pd_var 7) pd_int) (q_aC (q_bin od_add (pd_var 6) pd_int) q_a0))) (q_ty cd_int T.b_int (by rfl) (q_aC (q_cmp od_inI (q_bin od_add (pd_var 6) pd_int) (pd_var 7)) q_a0))))
   (pds_cons (q_mut 4 app_ne PySem.F.slot_list_append PySem.F.type_list_append mt_append mut_append (q_aC (q_tup (q_aC pd_str (q_aC (q_bin od_mul (pd_var 6) (pd_var 1)) (q_aC (pd_var 1) q_a0)))) q_a0))
   (pds_one (q_set 5 S.nd (q_bin od_add (pd_var 5) (pd_var 1))))))))))
   (pds_cons (q_ifS (q_tcmp od_lt (pd_var 5) (q_blt cd_len T.b_len (by rfl) (q_aC (pd_var 3) q_a0))) (pds_one (q_mut 4 app_ne PySem.F.slot_list_append PySem.F.type_list_append mt_append mut_append (q_aC (q_tup (q_aC pd_str (q_aC (q_slice (pd_var 3) (q_part (pd_var 5)) q_noPart) q_a0))) q_a0))) pds_nil)
   (pds_one (q_share (q_ret (q_call h__law_of_marks (hr.mono (by decide)) (q_aC (q_call h__law_marks (hr.mono (by decide)) (q_aC (pd_var 4) q_a0)) q_a0))))))))))
theorem ok__law_known {f : Addr} {fd : FuncData} (F : Fun K "_law_known" "_law_known" (top 67) f fd) (hx : mg "_law_known" = some (.ref f)) (T : Txt mg) (h__law_card : Fn P w K mg base "_law_card" 2 2 g__law_card) : Fn P w K mg base "_law_known" 3 3 g__law_known := by
 have S : FnScope ["_law_key_here", "_law_size", "_law_elder"] ["_law_key_here", "_law_size", "_law_elder"] (defScope (top 67)) := ⟨rfl, rfl, rfl, by decide +kernel, rfl, by decide +kernel, by decide +kernel⟩
 refine def_ok (m := 0) (k := 2) (Fb := F__law_known) F S rfl (fun _ _ _ _ _ _ us hl => match us, hl with | [_, _, _], _ => rfl) hx fun cdv A outer s H E G₀ hr => ?_
 have hu := hr.units
 exact (pds_one (q_ret (q_comp (sc := defScope (top 67)) (N := ["_law_key_here", "_law_size", "_law_elder"]) [("_law_key_here", 0), ("_law_elder", 2), ("_law_size", 1)] (by decide +kernel) rfl rfl rfl (q_rng1 T.b_range (q_aC (q_bin od_fdiv (q_blt cd_len T.b_len (by rfl) (q_aC (pd_var 2) q_a0)) (pd_var 1)) q_a0)) .nil fun C s₀ H₀ fp B G₀ => (q_call h__law_card (hr.mono (by decide)) (q_aC (pd_var 1) (q_aC (q_slice (pd_var 2) (q_part (q_bin od_mul (pd_var 3) (pd_var 0))) (q_part (q_bin od_add (q_bin od_mul (pd_var 3) (pd_var 0)) (pd_var 3)))) q_a0))))))
theorem ok__law_made {f : Addr} {fd : FuncData} (F : Fun K "_law_made" "_law_made" (top 73) f fd) (hx : mg "_law_made" = some (.ref f)) (T : Txt mg) : Fn P w K mg base "_law_made" 1 2 g__law_made := by
 have S : FnScope ["_law_elder", "_law_letter", "_law_text_here", "_law_piece"] ["_law_elder", "_law_letter"] (defScope (top 73)) := ⟨rfl, rfl, rfl, by decide +kernel, rfl, by decide +kernel, by decide +kernel⟩
 refine def_ok (m := 2) (k := 0) (Fb := F__law_made) F S rfl (fun _ _ _ _ _ _ us hl => match us, hl with | [_, _], _ => rfl) hx fun cdv A outer s H E G₀ hr => ?_
 have hu := hr.units
 exact (pds_cons (q_set 2 S.nd pd_str)
   (pds_cons (q_for (F := L__law_made_1) PassesOwn.never rfl (q_it (pd_var 1)) (pg_name (i := 3) S.nd rfl (by first | exact Or.inl rfl | exact Or.inr rfl)) (q_tgN 3) fun G₀ => (pds_one (q_ifS (q_tcmp (od_eq hu) (q_ix (pd_var 3) pd_int) pd_str) (pds_one (q_set 2 S.nd (q_bin od_add (pd_var 2) (q_ix (pd_var 3) pd_int)))) (pds_one (q_ifS (q_tcmp od_gt (q_bin od_add (q_ix (pd_var 3) pd_int) (q_ix (pd_var 3) pd_int)) (q_blt cd_len T.b_len (by rfl) (q_aC (pd_var 0) q_a0))) (pds_one (q_ret pd_non)) (pds_one (q_set 2 S.nd (q_bin od_add (pd_var 2) (q_slice (pd_var 0) (q_part (q_ix (pd_var 3) pd_int)) (q_part (q_bin od_add (q_ix (pd_var 3) pd_int) (q_ix (pd_var 3) pd_int))))))))))))
   (pds_one (q_ret (pd_var 2)))))
theorem ok__law_whole_sum {f : Addr} {fd : FuncData} (F : Fun K "_law_whole_sum" "_law_whole_sum" (top 66) f fd) (hx : mg "_law_whole_sum" = some (.ref f)) (T : Txt mg) (h__law_second : Fn P w K mg base "_law_second" 1 3 g__law_second) : Fn P w K mg base "_law_whole_sum" 2 2 g__law_whole_sum := by
 have S : FnScope ["_law_key_here", "_law_text_here"] ["_law_key_here", "_law_text_here"] (defScope (top 66)) := ⟨rfl, rfl, rfl, by decide +kernel, rfl, by decide +kernel, by decide +kernel⟩
 refine def_ok (m := 0) (k := 1) (Fb := F__law_whole_sum) F S rfl (fun _ _ _ _ _ _ us hl => match us, hl with | [_, _], _ => rfl) hx fun cdv A outer s H E G₀ hr => ?_
 have hu := hr.units
 exact (pds_one (q_ret (q_tup (q_aC (q_blt cd_len T.b_len (by rfl) (q_aC (pd_var 1) q_a0)) (q_aC (q_call h__law_second (hr.mono (by decide)) (q_aC (pd_var 1) (q_aC (q_bin od_add (q_ix (pd_var 0) pd_int) pd_int) (q_aC (q_ix (pd_var 0) pd_int) q_a0)))) q_a0)))))
theorem ok__law_has_chance {f : Addr} {fd : FuncData} (F : Fun K "_law_has_chance" "_law_has_chance" (top 74) f fd) (hx : mg "_law_has_chance" = some (.ref f)) (T : Txt mg) (h__law_card : Fn P w K mg base "_law_card" 2 2 g__law_card) : Fn P w K mg base "_law_has_chance" 3 5 g__law_has_chance := by
 have S : FnScope ["_law_key_here", "_law_size", "_law_elder", "_law_newer_here", "_law_text_here", "_law_place", "_law_one", "_law_other"] ["_law_key_here", "_law_size", "_law_elder", "_law_newer_here", "_law_text_here"] (defScope (top 74)) := ⟨rfl, rfl, rfl, by decide +kernel, rfl, by decide +kernel, by decide +kernel⟩
 refine def_ok (m := 3) (k := 2) (Fb := F__law_has_chance) F S rfl (fun _ _ _ _ _ _ us hl => match us, hl with | [_, _, _, _, _], _ => rfl) hx fun cdv A outer s H E G₀ hr => ?_
 have hu := hr.units
 exact (pds_cons (q_for (F := L__law_has_chance_1) PassesOwn.never rfl (q_rng1 T.b_range (q_aC (q_bin od_add (q_bin od_sub (q_blt cd_len T.b_len (by rfl) (q_aC (pd_var 3) q_a0)) (pd_var 1)) pd_int) q_a0)) (pg_name (i := 5) S.nd rfl (by first | exact Or.inl rfl | exact Or.inr rfl)) (q_tgN 5) fun G₀ => (pds_cons (q_set 6 S.nd (q_slice (pd_var 4) (q_part (pd_var 5)) (q_part (q_bin od_add (pd_var 5) (pd_var 1)))))
   (pds_cons (q_set 7 S.nd (q_slice (pd_var 3) (q_part (pd_var 5)) (q_part (q_bin od_add (pd_var 5) (pd_var 1)))))
   (pds_one (q_ifS (PW.pt (q_wand (q_tcmp (od_ne hu) (pd_var 6) (pd_var 7)) (q_wand (q_tcmp (od_eq hu) (q_call h__law_card (hr.mono (by decide)) (q_aC (pd_var 0) (q_aC (pd_var 6) q_a0))) (q_call h__law_card (hr.mono (by decide)) (q_aC (pd_var 0) (q_aC (pd_var 7) q_a0)))) (q_w1a (q_tcmp (od_inA hu) (pd_var 6) (pd_var 2)))))) (pds_one (q_ret pd_bl)) pds_nil)))))
   (pds_one (q_ret pd_bl)))
theorem ok_law {f : Addr} {fd : FuncData} (F : Fun K "law" "law" (top 75) f fd) (T : Txt mg) (h__law_text : Fn P w K mg base "_law_text" 3 3 g__law_text) (h__law_newer : Fn P w K mg base "_law_newer" 4 3 g__law_newer) (h__law_mixed : Fn P w K mg base "_law_mixed" 2 3 g__law_mixed) (h__law_key : Fn P w K mg base "_law_key" 3 2 g__law_key) (h_talk : Fn P w K mg base "talk" 10 4 g_talk) (h__law_found : Fn P w K mg base "_law_found" 3 4 g__law_found) (h__law_known : Fn P w K mg base "_law_known" 3 3 g__law_known) (h__law_made : Fn P w K mg base "_law_made" 1 2 g__law_made) (h__law_whole_sum : Fn P w K mg base "_law_whole_sum" 2 2 g__law_whole_sum) (h__law_has_chance : Fn P w K mg base "_law_has_chance" 3 5 g__law_has_chance) : FnOk P w K mg base CX0 11 f fd ["_law_script"] (spD K g_law 1) := by
 have S : FnScope ["_law_script", "_law_elder", "_law_newer_here", "_law_key_here", "_law_size", "_law_answer", "_law_letter", "_law_text_here"] ["_law_script"] (defScope (top 75)) := ⟨rfl, rfl, rfl, by decide +kernel, rfl, by decide +kernel, by decide +kernel⟩
 refine def_fn (m := 7) (k := 10) (Fb := F_law) F S rfl fun cdv A outer s H E G₀ hr => ?_
 have hu := hr.units
 exact (pds_cons (q_set 1 S.nd (q_call h__law_text (hr.mono (by decide)) (q_aC (pd_var 0) (q_aC pd_int (q_aC pd_int q_a0)))))
   (pds_cons (q_set 2 S.nd (q_call h__law_newer (hr.mono (by decide)) (q_aC (pd_var 0) (q_aC pd_int (q_aC (pd_var 1) q_a0)))))
   (pds_cons (q_ifS (q_tcmp (od_eq hu) (q_call h__law_mixed (hr.mono (by decide)) (q_aC (pd_var 0) (q_aC pd_int (q_aC pd_int q_a0)))) pd_int) (pds_one (q_set 2 S.nd (q_call h__law_text (hr.mono (by decide)) (q_aC (pd_var 0) (q_aC pd_int (q_aC pd_int q_a0)))))) pds_nil)
   (pds_cons (q_set 3 S.nd (q_call h__law_key (hr.mono (by decide)) (q_aC (pd_var 0) (q_aC pd_int q_a0))))
   (pds_cons (q_set 4 S.nd (q_bin od_add pd_int (q_call h__law_mixed (hr.mono (by decide)) (q_aC (pd_var 0) (q_aC pd_int (q_aC pd_int q_a0))))))
   (pds_cons (q_set 5 S.nd (q_call h_talk (hr.mono (by decide)) (q_aC (pd_var 3) (q_aC (pd_var 4) (q_aC (pd_var 1) (q_aC (pd_var 2) q_a0))))))
   (pds_cons (q_set 6 S.nd (q_call h__law_found (hr.mono (by decide)) (q_aC (pd_var 3) (q_aC (pd_var 4) (q_aC (q_call h__law_known (hr.mono (by decide)) (q_aC (pd_var 3) (q_aC (pd_var 4) (q_aC (pd_var 1) q_a0)))) (q_aC (pd_var 2) q_a0))))))
   (pds_cons (q_set 7 S.nd (q_call h__law_made (hr.mono (by decide)) (q_aC (pd_var 1) (q_aC (pd_var 6) q_a0))))
   (pds_cons (q_ifS (q_tcmp (od_ne hu) (q_call h__law_whole_sum (hr.mono (by decide)) (q_aC (pd_var 3) (q_aC (pd_var 7) q_a0))) (q_call h__law_whole_sum (hr.mono (by decide)) (q_aC (pd_var 3) (q_aC (pd_var 2) q_a0)))) (pds_one (q_ret (q_cmp (od_eq hu) (pd_var 5) (q_tup (q_aC pd_str (q_aC (pd_var 2) (q_aC (q_lst (q_aC (q_tup (q_aC pd_str (q_aC (pd_var 2) q_a0))) q_a0)) q_a0))))))) pds_nil)
   (pds_cons (q_ifS (q_tcmp (od_ne hu) (pd_var 5) (q_tup (q_aC pd_str (q_aC (pd_var 7) (q_aC (pd_var 6) q_a0))))) (pds_one (q_ret pd_bl)) pds_nil)
   (pds_one (q_ret (q_or (q_cmp (od_eq hu) (pd_var 7) (pd_var 2)) (pd_one (q_call h__law_has_chance (hr.mono (by decide)) (q_aC (pd_var 3) (q_aC (pd_var 4) (q_aC (pd_var 1) (q_aC (pd_var 2) (q_aC (pd_var 7) q_a0))))))))))))))))))))
end
end A
set_option Elab.async false
namespace A
open PySem PySem.Spec PyProof.Rows L2 M
theorem all_mk {l : PySem.W.OpenLaw} {w : World} {K : PySem.W.Frag} {h : Heap} {mg : Str → Option Value} {fa f1 f2 f3 f4 f5 f6 f7 f8 f9 f10 f11 f12 f13 f14 f15 f16 f17 f18 f19 f20 f21 f22 f23 f24 f25 f26 f27 f28 f29 f30 f31 f32 f33 f34 f35 f36 f37 f38 f39 f40 f41 f42 f43 f44 f45 f46 f47 f48 f49 f50 f51 f52 f53 : Addr} (X : K.In h) (G : h.Ns mainGlobals mg) (hfa : mg "law" = some (.ref fa))
  {od1 an1 od2 an2 od3 an3 od4 an4 od5 an5 od6 an6 od7 an7 od8 an8 od9 an9 od10 an10 od11 an11 od12 an12 od13 an13 od14 an14 od15 an15 od16 an16 od17 an17 od18 an18 od19 an19 od20 an20 od21 an21 od22 an22 od23 an23 od24 an24 od25 an25 od26 an26 od27 an27 od28 an28 od29 an29 od30 an30 od31 an31 od32 an32 od33 an33 od34 an34 od35 an35 od36 an36 od37 an37 od38 an38 od39 an39 od40 an40 od41 an41 od42 an42 od43 an43 od44 an44 od45 an45 od46 an46 od47 an47 od48 an48 od49 an49 od50 an50 od51 an51 od52 an52 od53 an53 : Option Addr} {sl1 sl2 sl3 sl4 sl5 sl6 sl7 sl8 sl9 sl10 sl11 sl12 sl13 sl14 sl15 sl16 sl17 sl18 sl19 sl20 sl21 sl22 sl23 sl24 sl25 sl26 sl27 sl28 sl29 sl30 sl31 sl32 sl33 sl34 sl35 sl36 sl37 sl38 sl39 sl40 sl41 sl42 sl43 sl44 sl45 sl46 sl47 sl48 sl49 sl50 sl51 sl52 sl53 : Array (Option Value)} {oc1 kV1 dc1 pm1 cd1 ct1 oc2 kV2 dc2 pm2 cd2 ct2 oc3 kV3 dc3 pm3 cd3 ct3 oc4 kV4 dc4 pm4 cd4 ct4 oc5 kV5 dc5 pm5 cd5 ct5 oc6 kV6 dc6 pm6 cd6 ct6 oc7 kV7 dc7 pm7 cd7 ct7 oc8 kV8 dc8 pm8 cd8 ct8 oc9 kV9 dc9 pm9 cd9 ct9 oc10 kV10 dc10 pm10 cd10 ct10 oc11 kV11 dc11 pm11 cd11 ct11 oc12 kV12 dc12 pm12 cd12 ct12 oc13 kV13 dc13 pm13 cd13 ct13 oc14 kV14 dc14 pm14 cd14 ct14 oc15 kV15 dc15 pm15 cd15 ct15 oc16 kV16 dc16 pm16 cd16 ct16 oc17 kV17 dc17 pm17 cd17 ct17 oc18 kV18 dc18 pm18 cd18 ct18 oc19 kV19 dc19 pm19 cd19 ct19 oc20 kV20 dc20 pm20 cd20 ct20 oc21 kV21 dc21 pm21 cd21 ct21 oc22 kV22 dc22 pm22 cd22 ct22 oc23 kV23 dc23 pm23 cd23 ct23 oc24 kV24 dc24 pm24 cd24 ct24 oc25 kV25 dc25 pm25 cd25 ct25 oc26 kV26 dc26 pm26 cd26 ct26 oc27 kV27 dc27 pm27 cd27 ct27 oc28 kV28 dc28 pm28 cd28 ct28 oc29 kV29 dc29 pm29 cd29 ct29 oc30 kV30 dc30 pm30 cd30 ct30 oc31 kV31 dc31 pm31 cd31 ct31 oc32 kV32 dc32 pm32 cd32 ct32 oc33 kV33 dc33 pm33 cd33 ct33 oc34 kV34 dc34 pm34 cd34 ct34 oc35 kV35 dc35 pm35 cd35 ct35 oc36 kV36 dc36 pm36 cd36 ct36 oc37 kV37 dc37 pm37 cd37 ct37 oc38 kV38 dc38 pm38 cd38 ct38 oc39 kV39 dc39 pm39 cd39 ct39 oc40 kV40 dc40 pm40 cd40 ct40 oc41 kV41 dc41 pm41 cd41 ct41 oc42 kV42 dc42 pm42 cd42 ct42 oc43 kV43 dc43 pm43 cd43 ct43 oc44 kV44 dc44 pm44 cd44 ct44 oc45 kV45 dc45 pm45 cd45 ct45 oc46 kV46 dc46 pm46 cd46 ct46 oc47 kV47 dc47 pm47 cd47 ct47 oc48 kV48 dc48 pm48 cd48 ct48 oc49 kV49 dc49 pm49 cd49 ct49 oc50 kV50 dc50 pm50 cd50 ct50 oc51 kV51 dc51 pm51 cd51 ct51 oc52 kV52 dc52 pm52 cd52 ct52 oc53 kV53 dc53 pm53 cd53 ct53 : Value} {tc0 : Tok} {tc1 : Tok} {tc2 : Tok} {tc3 : Tok} {tc4 : Tok} {tc5 : Tok} {tc6 : Tok} {tc7 : Tok} {tc8 : Tok}
  (a1 : PySem.W.nsIn K mainGlobals "_law_cell_at" = some (some (.ref f1))) (l1 : K.lookup f1 = some ⟨oc1, od1, .func (PySem.W.fnOf "_law_cell_at" "_law_cell_at" (defArgs (top 58)) (defBody (top 58)) (defScope (top 58)) .none kV1 dc1 pm1 an1 cd1 ct1), sl1⟩) (c1 : PySem.W.codeIn K cd1 "_law_cell_at" = true) (k1 : PySem.W.keepIn K (.ref f1) = true)
  (a2 : PySem.W.nsIn K mainGlobals "_law_mixed" = some (some (.ref f2))) (l2 : K.lookup f2 = some ⟨oc2, od2, .func (PySem.W.fnOf "_law_mixed" "_law_mixed" (defArgs (top 59)) (defBody (top 59)) (defScope (top 59)) .none kV2 dc2 pm2 an2 cd2 ct2), sl2⟩) (c2 : PySem.W.codeIn K cd2 "_law_mixed" = true) (k2 : PySem.W.keepIn K (.ref f2) = true)
  (a3 : PySem.W.nsIn K mainGlobals "_law_text" = some (some (.ref f3))) (l3 : K.lookup f3 = some ⟨oc3, od3, .func (PySem.W.fnOf "_law_text" "_law_text" (defArgs (top 60)) (defBody (top 60)) (defScope (top 60)) .none kV3 dc3 pm3 an3 cd3 ct3), sl3⟩) (c3 : PySem.W.codeIn K cd3 "_law_text" = true) (k3 : PySem.W.keepIn K (.ref f3) = true)
  (a4 : PySem.W.nsIn K mainGlobals "_law_newer" = some (some (.ref f4))) (l4 : K.lookup f4 = some ⟨oc4, od4, .func (PySem.W.fnOf "_law_newer" "_law_newer" (defArgs (top 61)) (defBody (top 61)) (defScope (top 61)) .none kV4 dc4 pm4 an4 cd4 ct4), sl4⟩) (c4 : PySem.W.codeIn K cd4 "_law_newer" = true) (k4 : PySem.W.keepIn K (.ref f4) = true)
  (a5 : PySem.W.nsIn K mainGlobals "_law_key" = some (some (.ref f5))) (l5 : K.lookup f5 = some ⟨oc5, od5, .func (PySem.W.fnOf "_law_key" "_law_key" (defArgs (top 62)) (defBody (top 62)) (defScope (top 62)) .none kV5 dc5 pm5 an5 cd5 ct5), sl5⟩) (c5 : PySem.W.codeIn K cd5 "_law_key" = true) (k5 : PySem.W.keepIn K (.ref f5) = true)
  (a6 : PySem.W.nsIn K mainGlobals "is_whole" = some (some (.ref f6))) (l6 : K.lookup f6 = some ⟨oc6, od6, .func (PySem.W.fnOf "is_whole" "is_whole" (defArgs (top 17)) (defBody (top 17)) (defScope (top 17)) .none kV6 dc6 pm6 an6 cd6 ct6), sl6⟩) (c6 : PySem.W.codeIn K cd6 "is_whole" = true) (k6 : PySem.W.keepIn K (.ref f6) = true)
  (a7 : PySem.W.nsIn K mainGlobals "is_from" = some (some (.ref f7))) (l7 : K.lookup f7 = some ⟨oc7, od7, .func (PySem.W.fnOf "is_from" "is_from" (defArgs (top 18)) (defBody (top 18)) (defScope (top 18)) .none kV7 dc7 pm7 an7 cd7 ct7), sl7⟩) (c7 : PySem.W.codeIn K cd7 "is_from" = true) (k7 : PySem.W.keepIn K (.ref f7) = true)
  (a8 : PySem.W.nsIn K mainGlobals "is_within" = some (some (.ref f8))) (l8 : K.lookup f8 = some ⟨oc8, od8, .func (PySem.W.fnOf "is_within" "is_within" (defArgs (top 19)) (defBody (top 19)) (defScope (top 19)) .none kV8 dc8 pm8 an8 cd8 ct8), sl8⟩) (c8 : PySem.W.codeIn K cd8 "is_within" = true) (k8 : PySem.W.keepIn K (.ref f8) = true)
  (a9 : PySem.W.nsIn K mainGlobals "is_key" = some (some (.ref f9))) (l9 : K.lookup f9 = some ⟨oc9, od9, .func (PySem.W.fnOf "is_key" "is_key" (defArgs (top 22)) (defBody (top 22)) (defScope (top 22)) .none kV9 dc9 pm9 an9 cd9 ct9), sl9⟩) (c9 : PySem.W.codeIn K cd9 "is_key" = true) (k9 : PySem.W.keepIn K (.ref f9) = true)
  (a10 : PySem.W.nsIn K mainGlobals "check_key" = some (some (.ref f10))) (l10 : K.lookup f10 = some ⟨oc10, od10, .func (PySem.W.fnOf "check_key" "check_key" (defArgs (top 24)) (defBody (top 24)) (defScope (top 24)) .none kV10 dc10 pm10 an10 cd10 ct10), sl10⟩) (c10 : PySem.W.codeIn K cd10 "check_key" = true) (k10 : PySem.W.keepIn K (.ref f10) = true)
  (a11 : PySem.W.nsIn K mainGlobals "check_size" = some (some (.ref f11))) (l11 : K.lookup f11 = some ⟨oc11, od11, .func (PySem.W.fnOf "check_size" "check_size" (defArgs (top 25)) (defBody (top 25)) (defScope (top 25)) .none kV11 dc11 pm11 an11 cd11 ct11), sl11⟩) (c11 : PySem.W.codeIn K cd11 "check_size" = true) (k11 : PySem.W.keepIn K (.ref f11) = true)
  (a12 : PySem.W.nsIn K mainGlobals "is_card" = some (some (.ref f12))) (l12 : K.lookup f12 = some ⟨oc12, od12, .func (PySem.W.fnOf "is_card" "is_card" (defArgs (top 51)) (defBody (top 51)) (defScope (top 51)) .none kV12 dc12 pm12 an12 cd12 ct12), sl12⟩) (c12 : PySem.W.codeIn K cd12 "is_card" = true) (k12 : PySem.W.keepIn K (.ref f12) = true)
  (a13 : PySem.W.nsIn K mainGlobals "check_cards" = some (some (.ref f13))) (l13 : K.lookup f13 = some ⟨oc13, od13, .func (PySem.W.fnOf "check_cards" "check_cards" (defArgs (top 50)) (defBody (top 50)) (defScope (top 50)) .none kV13 dc13 pm13 an13 cd13 ct13), sl13⟩) (c13 : PySem.W.codeIn K cd13 "check_cards" = true) (k13 : PySem.W.keepIn K (.ref f13) = true)
  (a14 : PySem.W.nsIn K mainGlobals "is_sign" = some (some (.ref f14))) (l14 : K.lookup f14 = some ⟨oc14, od14, .func (PySem.W.fnOf "is_sign" "is_sign" (defArgs (top 20)) (defBody (top 20)) (defScope (top 20)) .none kV14 dc14 pm14 an14 cd14 ct14), sl14⟩) (c14 : PySem.W.codeIn K cd14 "is_sign" = true) (k14 : PySem.W.keepIn K (.ref f14) = true)
  (a15 : PySem.W.nsIn K mainGlobals "is_text" = some (some (.ref f15))) (l15 : K.lookup f15 = some ⟨oc15, od15, .func (PySem.W.fnOf "is_text" "is_text" (defArgs (top 21)) (defBody (top 21)) (defScope (top 21)) .none kV15 dc15 pm15 an15 cd15 ct15), sl15⟩) (c15 : PySem.W.codeIn K cd15 "is_text" = true) (k15 : PySem.W.keepIn K (.ref f15) = true)
  (a16 : PySem.W.nsIn K mainGlobals "check_text" = some (some (.ref f16))) (l16 : K.lookup f16 = some ⟨oc16, od16, .func (PySem.W.fnOf "check_text" "check_text" (defArgs (top 23)) (defBody (top 23)) (defScope (top 23)) .none kV16 dc16 pm16 an16 cd16 ct16), sl16⟩) (c16 : PySem.W.codeIn K cd16 "check_text" = true) (k16 : PySem.W.keepIn K (.ref f16) = true)
  (a17 : PySem.W.nsIn K mainGlobals "is_copy" = some (some (.ref f17))) (l17 : K.lookup f17 = some ⟨oc17, od17, .func (PySem.W.fnOf "is_copy" "is_copy" (defArgs (top 33)) (defBody (top 33)) (defScope (top 33)) .none kV17 dc17 pm17 an17 cd17 ct17), sl17⟩) (c17 : PySem.W.codeIn K cd17 "is_copy" = true) (k17 : PySem.W.keepIn K (.ref f17) = true)
  (a18 : PySem.W.nsIn K mainGlobals "is_piece" = some (some (.ref f18))) (l18 : K.lookup f18 = some ⟨oc18, od18, .func (PySem.W.fnOf "is_piece" "is_piece" (defArgs (top 32)) (defBody (top 32)) (defScope (top 32)) .none kV18 dc18 pm18 an18 cd18 ct18), sl18⟩) (c18 : PySem.W.codeIn K cd18 "is_piece" = true) (k18 : PySem.W.keepIn K (.ref f18) = true)
  (a19 : PySem.W.nsIn K mainGlobals "is_letter" = some (some (.ref f19))) (l19 : K.lookup f19 = some ⟨oc19, od19, .func (PySem.W.fnOf "is_letter" "is_letter" (defArgs (top 31)) (defBody (top 31)) (defScope (top 31)) .none kV19 dc19 pm19 an19 cd19 ct19), sl19⟩) (c19 : PySem.W.codeIn K cd19 "is_letter" = true) (k19 : PySem.W.keepIn K (.ref f19) = true)
  (a20 : PySem.W.nsIn K mainGlobals "check_letter" = some (some (.ref f20))) (l20 : K.lookup f20 = some ⟨oc20, od20, .func (PySem.W.fnOf "check_letter" "check_letter" (defArgs (top 30)) (defBody (top 30)) (defScope (top 30)) .none kV20 dc20 pm20 an20 cd20 ct20), sl20⟩) (c20 : PySem.W.codeIn K cd20 "check_letter" = true) (k20 : PySem.W.keepIn K (.ref f20) = true)
  (a21 : PySem.W.nsIn K mainGlobals "add_signs" = some (some (.ref f21))) (l21 : K.lookup f21 = some ⟨oc21, od21, .func (PySem.W.fnOf "add_signs" "add_signs" (defArgs (top 36)) (defBody (top 36)) (defScope (top 36)) .none kV21 dc21 pm21 an21 cd21 ct21), sl21⟩) (c21 : PySem.W.codeIn K cd21 "add_signs" = true) (k21 : PySem.W.keepIn K (.ref f21) = true)
  (a22 : PySem.W.nsIn K mainGlobals "goes_on" = some (some (.ref f22))) (l22 : K.lookup f22 = some ⟨oc22, od22, .func (PySem.W.fnOf "goes_on" "goes_on" (defArgs (top 38)) (defBody (top 38)) (defScope (top 38)) .none kV22 dc22 pm22 an22 cd22 ct22), sl22⟩) (c22 : PySem.W.codeIn K cd22 "goes_on" = true) (k22 : PySem.W.keepIn K (.ref f22) = true)
  (a23 : PySem.W.nsIn K mainGlobals "add_copy" = some (some (.ref f23))) (l23 : K.lookup f23 = some ⟨oc23, od23, .func (PySem.W.fnOf "add_copy" "add_copy" (defArgs (top 37)) (defBody (top 37)) (defScope (top 37)) .none kV23 dc23 pm23 an23 cd23 ct23), sl23⟩) (c23 : PySem.W.codeIn K cd23 "add_copy" = true) (k23 : PySem.W.keepIn K (.ref f23) = true)
  (a24 : PySem.W.nsIn K mainGlobals "joined" = some (some (.ref f24))) (l24 : K.lookup f24 = some ⟨oc24, od24, .func (PySem.W.fnOf "joined" "joined" (defArgs (top 35)) (defBody (top 35)) (defScope (top 35)) .none kV24 dc24 pm24 an24 cd24 ct24), sl24⟩) (c24 : PySem.W.codeIn K cd24 "joined" = true) (k24 : PySem.W.keepIn K (.ref f24) = true)
  (a25 : PySem.W.nsIn K mainGlobals "plain" = some (some (.ref f25))) (l25 : K.lookup f25 = some ⟨oc25, od25, .func (PySem.W.fnOf "plain" "plain" (defArgs (top 29)) (defBody (top 29)) (defScope (top 29)) .none kV25 dc25 pm25 an25 cd25 ct25), sl25⟩) (c25 : PySem.W.codeIn K cd25 "plain" = true) (k25 : PySem.W.keepIn K (.ref f25) = true)
  (a26 : PySem.W.nsIn K mainGlobals "first_sum" = some (some (.ref f26))) (l26 : K.lookup f26 = some ⟨oc26, od26, .func (PySem.W.fnOf "first_sum" "first_sum" (defArgs (top 40)) (defBody (top 40)) (defScope (top 40)) .none kV26 dc26 pm26 an26 cd26 ct26), sl26⟩) (c26 : PySem.W.codeIn K cd26 "first_sum" = true) (k26 : PySem.W.keepIn K (.ref f26) = true)
  (a27 : PySem.W.nsIn K mainGlobals "rolled" = some (some (.ref f27))) (l27 : K.lookup f27 = some ⟨oc27, od27, .func (PySem.W.fnOf "rolled" "rolled" (defArgs (top 41)) (defBody (top 41)) (defScope (top 41)) .none kV27 dc27 pm27 an27 cd27 ct27), sl27⟩) (c27 : PySem.W.codeIn K cd27 "rolled" = true) (k27 : PySem.W.keepIn K (.ref f27) = true)
  (a28 : PySem.W.nsIn K mainGlobals "rolled_sums" = some (some (.ref f28))) (l28 : K.lookup f28 = some ⟨oc28, od28, .func (PySem.W.fnOf "rolled_sums" "rolled_sums" (defArgs (top 42)) (defBody (top 42)) (defScope (top 42)) .none kV28 dc28 pm28 an28 cd28 ct28), sl28⟩) (c28 : PySem.W.codeIn K cd28 "rolled_sums" = true) (k28 : PySem.W.keepIn K (.ref f28) = true)
  (a29 : PySem.W.nsIn K mainGlobals "earliest_blocks" = some (some (.ref f29))) (l29 : K.lookup f29 = some ⟨oc29, od29, .func (PySem.W.fnOf "earliest_blocks" "earliest_blocks" (defArgs (top 52)) (defBody (top 52)) (defScope (top 52)) .none kV29 dc29 pm29 an29 cd29 ct29), sl29⟩) (c29 : PySem.W.codeIn K cd29 "earliest_blocks" = true) (k29 : PySem.W.keepIn K (.ref f29) = true)
  (a30 : PySem.W.nsIn K mainGlobals "fitting_block" = some (some (.ref f30))) (l30 : K.lookup f30 = some ⟨oc30, od30, .func (PySem.W.fnOf "fitting_block" "fitting_block" (defArgs (top 53)) (defBody (top 53)) (defScope (top 53)) .none kV30 dc30 pm30 an30 cd30 ct30), sl30⟩) (c30 : PySem.W.codeIn K cd30 "fitting_block" = true) (k30 : PySem.W.keepIn K (.ref f30) = true)
  (a31 : PySem.W.nsIn K mainGlobals "chained" = some (some (.ref f31))) (l31 : K.lookup f31 = some ⟨oc31, od31, .func (PySem.W.fnOf "chained" "chained" (defArgs (top 45)) (defBody (top 45)) (defScope (top 45)) .none kV31 dc31 pm31 an31 cd31 ct31), sl31⟩) (c31 : PySem.W.codeIn K cd31 "chained" = true) (k31 : PySem.W.keepIn K (.ref f31) = true)
  (a32 : PySem.W.nsIn K mainGlobals "second_sum" = some (some (.ref f32))) (l32 : K.lookup f32 = some ⟨oc32, od32, .func (PySem.W.fnOf "second_sum" "second_sum" (defArgs (top 43)) (defBody (top 43)) (defScope (top 43)) .none kV32 dc32 pm32 an32 cd32 ct32), sl32⟩) (c32 : PySem.W.codeIn K cd32 "second_sum" = true) (k32 : PySem.W.keepIn K (.ref f32) = true)
  (a33 : PySem.W.nsIn K mainGlobals "found_by" = some (some (.ref f33))) (l33 : K.lookup f33 = some ⟨oc33, od33, .func (PySem.W.fnOf "found_by" "found_by" (defArgs (top 48)) (defBody (top 48)) (defScope (top 48)) .none kV33 dc33 pm33 an33 cd33 ct33), sl33⟩) (c33 : PySem.W.codeIn K cd33 "found_by" = true) (k33 : PySem.W.keepIn K (.ref f33) = true)
  (a34 : PySem.W.nsIn K mainGlobals "card_of" = some (some (.ref f34))) (l34 : K.lookup f34 = some ⟨oc34, od34, .func (PySem.W.fnOf "card_of" "card_of" (defArgs (top 49)) (defBody (top 49)) (defScope (top 49)) .none kV34 dc34 pm34 an34 cd34 ct34), sl34⟩) (c34 : PySem.W.codeIn K cd34 "card_of" = true) (k34 : PySem.W.keepIn K (.ref f34) = true)
  (a35 : PySem.W.nsIn K mainGlobals "cards" = some (some (.ref f35))) (l35 : K.lookup f35 = some ⟨oc35, od35, .func (PySem.W.fnOf "cards" "cards" (defArgs (top 47)) (defBody (top 47)) (defScope (top 47)) .none kV35 dc35 pm35 an35 cd35 ct35), sl35⟩) (c35 : PySem.W.codeIn K cd35 "cards" = true) (k35 : PySem.W.keepIn K (.ref f35) = true)
  (a36 : PySem.W.nsIn K mainGlobals "made_by_piece" = some (some (.ref f36))) (l36 : K.lookup f36 = some ⟨oc36, od36, .func (PySem.W.fnOf "made_by_piece" "made_by_piece" (defArgs (top 34)) (defBody (top 34)) (defScope (top 34)) .none kV36 dc36 pm36 an36 cd36 ct36), sl36⟩) (c36 : PySem.W.codeIn K cd36 "made_by_piece" = true) (k36 : PySem.W.keepIn K (.ref f36) = true)
  (a37 : PySem.W.nsIn K mainGlobals "mended" = some (some (.ref f37))) (l37 : K.lookup f37 = some ⟨oc37, od37, .func (PySem.W.fnOf "mended" "mended" (defArgs (top 28)) (defBody (top 28)) (defScope (top 28)) .none kV37 dc37 pm37 an37 cd37 ct37), sl37⟩) (c37 : PySem.W.codeIn K cd37 "mended" = true) (k37 : PySem.W.keepIn K (.ref f37) = true)
  (a38 : PySem.W.nsIn K mainGlobals "whole_sum" = some (some (.ref f38))) (l38 : K.lookup f38 = some ⟨oc38, od38, .func (PySem.W.fnOf "whole_sum" "whole_sum" (defArgs (top 44)) (defBody (top 44)) (defScope (top 44)) .none kV38 dc38 pm38 an38 cd38 ct38), sl38⟩) (c38 : PySem.W.codeIn K cd38 "whole_sum" = true) (k38 : PySem.W.keepIn K (.ref f38) = true)
  (a39 : PySem.W.nsIn K mainGlobals "all_signs" = some (some (.ref f39))) (l39 : K.lookup f39 = some ⟨oc39, od39, .func (PySem.W.fnOf "all_signs" "all_signs" (defArgs (top 56)) (defBody (top 56)) (defScope (top 56)) .none kV39 dc39 pm39 an39 cd39 ct39), sl39⟩) (c39 : PySem.W.codeIn K cd39 "all_signs" = true) (k39 : PySem.W.keepIn K (.ref f39) = true)
  (a40 : PySem.W.nsIn K mainGlobals "talk" = some (some (.ref f40))) (l40 : K.lookup f40 = some ⟨oc40, od40, .func (PySem.W.fnOf "talk" "talk" (defArgs (top 55)) (defBody (top 55)) (defScope (top 55)) .none kV40 dc40 pm40 an40 cd40 ct40), sl40⟩) (c40 : PySem.W.codeIn K cd40 "talk" = true) (k40 : PySem.W.keepIn K (.ref f40) = true)
  (a41 : PySem.W.nsIn K mainGlobals "_law_fitting" = some (some (.ref f41))) (l41 : K.lookup f41 = some ⟨oc41, od41, .func (PySem.W.fnOf "_law_fitting" "_law_fitting" (defArgs (top 71)) (defBody (top 71)) (defScope (top 71)) .none kV41 dc41 pm41 an41 cd41 ct41), sl41⟩) (c41 : PySem.W.codeIn K cd41 "_law_fitting" = true) (k41 : PySem.W.keepIn K (.ref f41) = true)
  (a42 : PySem.W.nsIn K mainGlobals "_law_first" = some (some (.ref f42))) (l42 : K.lookup f42 = some ⟨oc42, od42, .func (PySem.W.fnOf "_law_first" "_law_first" (defArgs (top 63)) (defBody (top 63)) (defScope (top 63)) .none kV42 dc42 pm42 an42 cd42 ct42), sl42⟩) (c42 : PySem.W.codeIn K cd42 "_law_first" = true) (k42 : PySem.W.keepIn K (.ref f42) = true)
  (a43 : PySem.W.nsIn K mainGlobals "_law_second" = some (some (.ref f43))) (l43 : K.lookup f43 = some ⟨oc43, od43, .func (PySem.W.fnOf "_law_second" "_law_second" (defArgs (top 64)) (defBody (top 64)) (defScope (top 64)) .none kV43 dc43 pm43 an43 cd43 ct43), sl43⟩) (c43 : PySem.W.codeIn K cd43 "_law_second" = true) (k43 : PySem.W.keepIn K (.ref f43) = true)
  (a44 : PySem.W.nsIn K mainGlobals "_law_card" = some (some (.ref f44))) (l44 : K.lookup f44 = some ⟨oc44, od44, .func (PySem.W.fnOf "_law_card" "_law_card" (defArgs (top 65)) (defBody (top 65)) (defScope (top 65)) .none kV44 dc44 pm44 an44 cd44 ct44), sl44⟩) (c44 : PySem.W.codeIn K cd44 "_law_card" = true) (k44 : PySem.W.keepIn K (.ref f44) = true)
  (a45 : PySem.W.nsIn K mainGlobals "_law_goes_on" = some (some (.ref f45))) (l45 : K.lookup f45 = some ⟨oc45, od45, .func (PySem.W.fnOf "_law_goes_on" "_law_goes_on" (defArgs (top 69)) (defBody (top 69)) (defScope (top 69)) .none kV45 dc45 pm45 an45 cd45 ct45), sl45⟩) (c45 : PySem.W.codeIn K cd45 "_law_goes_on" = true) (k45 : PySem.W.keepIn K (.ref f45) = true)
  (a46 : PySem.W.nsIn K mainGlobals "_law_of_marks" = some (some (.ref f46))) (l46 : K.lookup f46 = some ⟨oc46, od46, .func (PySem.W.fnOf "_law_of_marks" "_law_of_marks" (defArgs (top 70)) (defBody (top 70)) (defScope (top 70)) .none kV46 dc46 pm46 an46 cd46 ct46), sl46⟩) (c46 : PySem.W.codeIn K cd46 "_law_of_marks" = true) (k46 : PySem.W.keepIn K (.ref f46) = true)
  (a47 : PySem.W.nsIn K mainGlobals "_law_marks" = some (some (.ref f47))) (l47 : K.lookup f47 = some ⟨oc47, od47, .func (PySem.W.fnOf "_law_marks" "_law_marks" (defArgs (top 68)) (defBody (top 68)) (defScope (top 68)) .none kV47 dc47 pm47 an47 cd47 ct47), sl47⟩) (c47 : PySem.W.codeIn K cd47 "_law_marks" = true) (k47 : PySem.W.keepIn K (.ref f47) = true)
  (a48 : PySem.W.nsIn K mainGlobals "_law_found" = some (some (.ref f48))) (l48 : K.lookup f48 = some ⟨oc48, od48, .func (PySem.W.fnOf "_law_found" "_law_found" (defArgs (top 72)) (defBody (top 72)) (defScope (top 72)) .none kV48 dc48 pm48 an48 cd48 ct48), sl48⟩) (c48 : PySem.W.codeIn K cd48 "_law_found" = true) (k48 : PySem.W.keepIn K (.ref f48) = true)
  (a49 : PySem.W.nsIn K mainGlobals "_law_known" = some (some (.ref f49))) (l49 : K.lookup f49 = some ⟨oc49, od49, .func (PySem.W.fnOf "_law_known" "_law_known" (defArgs (top 67)) (defBody (top 67)) (defScope (top 67)) .none kV49 dc49 pm49 an49 cd49 ct49), sl49⟩) (c49 : PySem.W.codeIn K cd49 "_law_known" = true) (k49 : PySem.W.keepIn K (.ref f49) = true)
  (a50 : PySem.W.nsIn K mainGlobals "_law_made" = some (some (.ref f50))) (l50 : K.lookup f50 = some ⟨oc50, od50, .func (PySem.W.fnOf "_law_made" "_law_made" (defArgs (top 73)) (defBody (top 73)) (defScope (top 73)) .none kV50 dc50 pm50 an50 cd50 ct50), sl50⟩) (c50 : PySem.W.codeIn K cd50 "_law_made" = true) (k50 : PySem.W.keepIn K (.ref f50) = true)
  (a51 : PySem.W.nsIn K mainGlobals "_law_whole_sum" = some (some (.ref f51))) (l51 : K.lookup f51 = some ⟨oc51, od51, .func (PySem.W.fnOf "_law_whole_sum" "_law_whole_sum" (defArgs (top 66)) (defBody (top 66)) (defScope (top 66)) .none kV51 dc51 pm51 an51 cd51 ct51), sl51⟩) (c51 : PySem.W.codeIn K cd51 "_law_whole_sum" = true) (k51 : PySem.W.keepIn K (.ref f51) = true)
  (a52 : PySem.W.nsIn K mainGlobals "_law_has_chance" = some (some (.ref f52))) (l52 : K.lookup f52 = some ⟨oc52, od52, .func (PySem.W.fnOf "_law_has_chance" "_law_has_chance" (defArgs (top 74)) (defBody (top 74)) (defScope (top 74)) .none kV52 dc52 pm52 an52 cd52 ct52), sl52⟩) (c52 : PySem.W.codeIn K cd52 "_law_has_chance" = true) (k52 : PySem.W.keepIn K (.ref f52) = true)
  (a53 : PySem.W.nsIn K mainGlobals "law" = some (some (.ref f53))) (l53 : K.lookup f53 = some ⟨oc53, od53, .func (PySem.W.fnOf "law" "law" (defArgs (top 75)) (defBody (top 75)) (defScope (top 75)) .none kV53 dc53 pm53 an53 cd53 ct53), sl53⟩) (c53 : PySem.W.codeIn K cd53 "law" = true) (k53 : PySem.W.keepIn K (.ref f53) = true)
  (zb0 : PySem.W.nsIn K mainGlobals "len" = some none)
  (zb1 : PySem.W.nsIn K mainGlobals "range" = some none)
  (zb2 : PySem.W.nsIn K mainGlobals "isinstance" = some none)
  (zb3 : PySem.W.nsIn K mainGlobals "int" = some none)
  (zb4 : PySem.W.nsIn K mainGlobals "bool" = some none)
  (zb5 : PySem.W.nsIn K mainGlobals "tuple" = some none)
  (zb6 : PySem.W.nsIn K mainGlobals "list" = some none)
  (zb7 : PySem.W.nsIn K mainGlobals "all" = some none)
  (zb8 : PySem.W.nsIn K mainGlobals "ord" = some none)
  (zb9 : PySem.W.nsIn K mainGlobals "str" = some none)
  (zb10 : PySem.W.nsIn K mainGlobals "enumerate" = some none)
  (zb11 : PySem.W.nsIn K mainGlobals "sum" = some none)
  (zc0 : PySem.W.nsIn K mainGlobals "MOST_FEW" = some (some (.int 999 tc0)))
  (zc1 : PySem.W.nsIn K mainGlobals "MOST_TIMES" = some (some (.int 999 tc1)))
  (zc2 : PySem.W.nsIn K mainGlobals "MOST_MANY" = some (some (.int 99999 tc2)))
  (zc3 : PySem.W.nsIn K mainGlobals "MOST_SIZE" = some (some (.int 200 tc3)))
  (zc4 : PySem.W.nsIn K mainGlobals "BLANK" = some (some (.int 32 tc4)))
  (zc5 : PySem.W.nsIn K mainGlobals "TILDE" = some (some (.int 126 tc5)))
  (zc6 : PySem.W.nsIn K mainGlobals "PERCENT" = some (some (.int 37 tc6)))
  (zc7 : PySem.W.nsIn K mainGlobals "MOST_SIGNS" = some (some (.int 2000 tc7)))
  (zc8 : PySem.W.nsIn K mainGlobals "MOST_PIECES" = some (some (.int 2000 tc8)))
  (hg : ∀ ns : List Int, ns.length ≤ 63 → g_law [.lst (ns.map D.int)] = .ok (.bl true)) :
  ∃ fd : FuncData, (∀ (s : Shared) (v : Value), BindsTo s fd ⟨[v], []⟩ [("_law_script", v)]) ∧ ∀ base : Heap, K.In base → base.Ns mainGlobals mg → FnOk l.prog w K mg base CX0 11 fa fd ["_law_script"] (spLaw K) := by
 have e := hfa.symm.trans (PySem.W.mg_of X G a53)
 cases e
 have T : Txt mg := ⟨PySem.W.mg_none_of X G zb0, PySem.W.mg_none_of X G zb1, PySem.W.mg_none_of X G zb2, PySem.W.mg_none_of X G zb3, PySem.W.mg_none_of X G zb4, PySem.W.mg_none_of X G zb5, PySem.W.mg_none_of X G zb6, PySem.W.mg_none_of X G zb7, PySem.W.mg_none_of X G zb8, PySem.W.mg_none_of X G zb9, PySem.W.mg_none_of X G zb10, PySem.W.mg_none_of X G zb11, ⟨_, PySem.W.mg_of X G zc0⟩, ⟨_, PySem.W.mg_of X G zc1⟩, ⟨_, PySem.W.mg_of X G zc2⟩, ⟨_, PySem.W.mg_of X G zc3⟩, ⟨_, PySem.W.mg_of X G zc4⟩, ⟨_, PySem.W.mg_of X G zc5⟩, ⟨_, PySem.W.mg_of X G zc6⟩, ⟨_, PySem.W.mg_of X G zc7⟩, ⟨_, PySem.W.mg_of X G zc8⟩⟩
 have F1 := fun_mk (st := top 58) l1 c1 k1
 have F2 := fun_mk (st := top 59) l2 c2 k2
 have F3 := fun_mk (st := top 60) l3 c3 k3
 have F4 := fun_mk (st := top 61) l4 c4 k4
 have F5 := fun_mk (st := top 62) l5 c5 k5
 have F6 := fun_mk (st := top 17) l6 c6 k6
 have F7 := fun_mk (st := top 18) l7 c7 k7
 have F8 := fun_mk (st := top 19) l8 c8 k8
 have F9 := fun_mk (st := top 22) l9 c9 k9
 have F10 := fun_mk (st := top 24) l10 c10 k10
 have F11 := fun_mk (st := top 25) l11 c11 k11
 have F12 := fun_mk (st := top 51) l12 c12 k12
 have F13 := fun_mk (st := top 50) l13 c13 k13
 have F14 := fun_mk (st := top 20) l14 c14 k14
 have F15 := fun_mk (st := top 21) l15 c15 k15
 have F16 := fun_mk (st := top 23) l16 c16 k16
 have F17 := fun_mk (st := top 33) l17 c17 k17
 have F18 := fun_mk (st := top 32) l18 c18 k18
 have F19 := fun_mk (st := top 31) l19 c19 k19
 have F20 := fun_mk (st := top 30) l20 c20 k20
 have F21 := fun_mk (st := top 36) l21 c21 k21
 have F22 := fun_mk (st := top 38) l22 c22 k22
 have F23 := fun_mk (st := top 37) l23 c23 k23
 have F24 := fun_mk (st := top 35) l24 c24 k24
 have F25 := fun_mk (st := top 29) l25 c25 k25
 have F26 := fun_mk (st := top 40) l26 c26 k26
 have F27 := fun_mk (st := top 41) l27 c27 k27
 have F28 := fun_mk (st := top 42) l28 c28 k28
 have F29 := fun_mk (st := top 52) l29 c29 k29
 have F30 := fun_mk (st := top 53) l30 c30 k30
 have F31 := fun_mk (st := top 45) l31 c31 k31
 have F32 := fun_mk (st := top 43) l32 c32 k32
 have F33 := fun_mk (st := top 48) l33 c33 k33
 have F34 := fun_mk (st := top 49) l34 c34 k34
 have F35 := fun_mk (st := top 47) l35 c35 k35
 have F36 := fun_mk (st := top 34) l36 c36 k36
 have F37 := fun_mk (st := top 28) l37 c37 k37
 have F38 := fun_mk (st := top 44) l38 c38 k38
 have F39 := fun_mk (st := top 56) l39 c39 k39
 have F40 := fun_mk (st := top 55) l40 c40 k40
 have F41 := fun_mk (st := top 71) l41 c41 k41
 have F42 := fun_mk (st := top 63) l42 c42 k42
 have F43 := fun_mk (st := top 64) l43 c43 k43
 have F44 := fun_mk (st := top 65) l44 c44 k44
 have F45 := fun_mk (st := top 69) l45 c45 k45
 have F46 := fun_mk (st := top 70) l46 c46 k46
 have F47 := fun_mk (st := top 68) l47 c47 k47
 have F48 := fun_mk (st := top 72) l48 c48 k48
 have F49 := fun_mk (st := top 67) l49 c49 k49
 have F50 := fun_mk (st := top 73) l50 c50 k50
 have F51 := fun_mk (st := top 66) l51 c51 k51
 have F52 := fun_mk (st := top 74) l52 c52 k52
 have F53 := fun_mk (st := top 75) l53 c53 k53
 refine ⟨PySem.W.fnOf "law" "law" (defArgs (top 75)) (defBody (top 75)) (defScope (top 75)) .none kV53 dc53 pm53 an53 cd53 ct53, fun s v => .of_eq rfl, fun base _ _ => ?_⟩
 have h1 : Fn l.prog w K mg base "_law_cell_at" 1 2 g__law_cell_at := ok__law_cell_at F1 (PySem.W.mg_of X G a1) T 
 have h2 : Fn l.prog w K mg base "_law_mixed" 2 3 g__law_mixed := ok__law_mixed F2 (PySem.W.mg_of X G a2) T h1
 have h3 : Fn l.prog w K mg base "_law_text" 3 3 g__law_text := ok__law_text F3 (PySem.W.mg_of X G a3) T h2
 have h4 : Fn l.prog w K mg base "_law_newer" 4 3 g__law_newer := ok__law_newer F4 (PySem.W.mg_of X G a4) T h2 h3
 have h5 : Fn l.prog w K mg base "_law_key" 3 2 g__law_key := ok__law_key F5 (PySem.W.mg_of X G a5) T h2
 have h6 : Fn l.prog w K mg base "is_whole" 1 1 g_is_whole := ok_is_whole F6 (PySem.W.mg_of X G a6) T 
 have h7 : Fn l.prog w K mg base "is_from" 2 2 g_is_from := ok_is_from F7 (PySem.W.mg_of X G a7) T h6
 have h8 : Fn l.prog w K mg base "is_within" 3 3 g_is_within := ok_is_within F8 (PySem.W.mg_of X G a8) T h7
 have h9 : Fn l.prog w K mg base "is_key" 4 1 g_is_key := ok_is_key F9 (PySem.W.mg_of X G a9) T h8
 have h10 : Fn l.prog w K mg base "check_key" 5 1 g_check_key := ok_check_key F10 (PySem.W.mg_of X G a10) T h9
 have h11 : Fn l.prog w K mg base "check_size" 4 1 g_check_size := ok_check_size F11 (PySem.W.mg_of X G a11) T h8
 have h12 : Fn l.prog w K mg base "is_card" 3 1 g_is_card := ok_is_card F12 (PySem.W.mg_of X G a12) T h7
 have h13 : Fn l.prog w K mg base "check_cards" 4 1 g_check_cards := ok_check_cards F13 (PySem.W.mg_of X G a13) T h12
 have h14 : Fn l.prog w K mg base "is_sign" 1 1 g_is_sign := ok_is_sign F14 (PySem.W.mg_of X G a14) T 
 have h15 : Fn l.prog w K mg base "is_text" 2 1 g_is_text := ok_is_text F15 (PySem.W.mg_of X G a15) T h14
 have h16 : Fn l.prog w K mg base "check_text" 3 1 g_check_text := ok_check_text F16 (PySem.W.mg_of X G a16) T h15
 have h17 : Fn l.prog w K mg base "is_copy" 1 1 g_is_copy := ok_is_copy F17 (PySem.W.mg_of X G a17) T 
 have h18 : Fn l.prog w K mg base "is_piece" 3 1 g_is_piece := ok_is_piece F18 (PySem.W.mg_of X G a18) T h17 h7 h15
 have h19 : Fn l.prog w K mg base "is_letter" 4 1 g_is_letter := ok_is_letter F19 (PySem.W.mg_of X G a19) T h18
 have h20 : Fn l.prog w K mg base "check_letter" 5 1 g_check_letter := ok_check_letter F20 (PySem.W.mg_of X G a20) T h19
 have h21 : FnMut l.prog w K mg base "add_signs" 1 1 g_add_signs := ok_add_signs F21 (PySem.W.mg_of X G a21) T 
 have h22 : Fn l.prog w K mg base "goes_on" 2 2 g_goes_on := ok_goes_on F22 (PySem.W.mg_of X G a22) T h17
 have h23 : FnMut l.prog w K mg base "add_copy" 3 1 g_add_copy := ok_add_copy F23 (PySem.W.mg_of X G a23) T h22
 have h24 : Fn l.prog w K mg base "joined" 4 1 g_joined := ok_joined F24 (PySem.W.mg_of X G a24) T h21 h23 h17
 have h25 : Fn l.prog w K mg base "plain" 6 1 g_plain := ok_plain F25 (PySem.W.mg_of X G a25) T h20 h24
 have h26 : Fn l.prog w K mg base "first_sum" 7 2 g_first_sum := ok_first_sum F26 (PySem.W.mg_of X G a26) T h10 h16 h25
 have h27 : Fn l.prog w K mg base "rolled" 7 5 g_rolled := ok_rolled F27 (PySem.W.mg_of X G a27) T h10 h25
 have h28 : Fn l.prog w K mg base "rolled_sums" 8 3 g_rolled_sums := ok_rolled_sums F28 (PySem.W.mg_of X G a28) T h26 h27
 have h29 : Fn l.prog w K mg base "earliest_blocks" 1 1 g_earliest_blocks := ok_earliest_blocks F29 (PySem.W.mg_of X G a29) T 
 have h30 : Fn l.prog w K mg base "fitting_block" 1 4 g_fitting_block := ok_fitting_block F30 (PySem.W.mg_of X G a30) T 
 have h31 : Fn l.prog w K mg base "chained" 1 3 g_chained := ok_chained F31 (PySem.W.mg_of X G a31) T 
 have h32 : Fn l.prog w K mg base "second_sum" 6 2 g_second_sum := ok_second_sum F32 (PySem.W.mg_of X G a32) T h10 h16 h31
 have h33 : Fn l.prog w K mg base "found_by" 9 4 g_found_by := ok_found_by F33 (PySem.W.mg_of X G a33) T h10 h11 h13 h16 h28 h29 h30 h32 h25
 have h34 : Fn l.prog w K mg base "card_of" 8 2 g_card_of := ok_card_of F34 (PySem.W.mg_of X G a34) T h26 h32
 have h35 : Fn l.prog w K mg base "cards" 9 3 g_cards := ok_cards F35 (PySem.W.mg_of X G a35) T h10 h11 h16 h34
 have h36 : Fn l.prog w K mg base "made_by_piece" 2 2 g_made_by_piece := ok_made_by_piece F36 (PySem.W.mg_of X G a36) T h17
 have h37 : Fn l.prog w K mg base "mended" 6 2 g_mended := ok_mended F37 (PySem.W.mg_of X G a37) T h16 h20 h36
 have h38 : Fn l.prog w K mg base "whole_sum" 6 2 g_whole_sum := ok_whole_sum F38 (PySem.W.mg_of X G a38) T h10 h16 h31
 have h39 : Fn l.prog w K mg base "all_signs" 1 1 g_all_signs := ok_all_signs F39 (PySem.W.mg_of X G a39) T 
 have h40 : Fn l.prog w K mg base "talk" 10 4 g_talk := ok_talk F40 (PySem.W.mg_of X G a40) T h33 h35 h37 h38 h39
 have h41 : Fn l.prog w K mg base "_law_fitting" 1 2 g__law_fitting := ok__law_fitting F41 (PySem.W.mg_of X G a41) T 
 have h42 : Fn l.prog w K mg base "_law_first" 1 2 g__law_first := ok__law_first F42 (PySem.W.mg_of X G a42) T 
 have h43 : Fn l.prog w K mg base "_law_second" 1 3 g__law_second := ok__law_second F43 (PySem.W.mg_of X G a43) T 
 have h44 : Fn l.prog w K mg base "_law_card" 2 2 g__law_card := ok__law_card F44 (PySem.W.mg_of X G a44) T h42 h43
 have h45 : Fn l.prog w K mg base "_law_goes_on" 1 2 g__law_goes_on := ok__law_goes_on F45 (PySem.W.mg_of X G a45) T 
 have h46 : Fn l.prog w K mg base "_law_of_marks" 2 1 g__law_of_marks := ok__law_of_marks F46 (PySem.W.mg_of X G a46) T h45
 have h47 : Fn l.prog w K mg base "_law_marks" 1 1 g__law_marks := ok__law_marks F47 (PySem.W.mg_of X G a47) T 
 have h48 : Fn l.prog w K mg base "_law_found" 3 4 g__law_found := ok__law_found F48 (PySem.W.mg_of X G a48) T h41 h44 h46 h47
 have h49 : Fn l.prog w K mg base "_law_known" 3 3 g__law_known := ok__law_known F49 (PySem.W.mg_of X G a49) T h44
 have h50 : Fn l.prog w K mg base "_law_made" 1 2 g__law_made := ok__law_made F50 (PySem.W.mg_of X G a50) T 
 have h51 : Fn l.prog w K mg base "_law_whole_sum" 2 2 g__law_whole_sum := ok__law_whole_sum F51 (PySem.W.mg_of X G a51) T h43
 have h52 : Fn l.prog w K mg base "_law_has_chance" 3 5 g__law_has_chance := ok__law_has_chance F52 (PySem.W.mg_of X G a52) T h44
 exact law_fn (ok_law F53 T h3 h4 h2 h5 h40 h48 h49 h50 h51 h52) hg
end A
open PySem PySem.W PyProof.Rows
set_option maxRecDepth 100000 in
set_option maxHeartbeats 0 in
theorem PySem.Challenge.cw_rollmend_k09_whole_talk_holds : PySem.Challenge.rw_rollmend_k09_whole_talk.Holds := by
 w_on; o_law
 refine PySem.W.holds_open (q := A.qv) (loose := []) (Xt := A.xt) (XP := PySem.W.XL A.qv []) (Yf := A.HK.obs) (Ya := A.HK.val) (YP := A.HK.says) (N := 6600)
  A.lft A.HK.of A.HK.keeps (fun s e => PySem.W.xl_of s (Bool.and_eq_true_iff.mp e).1) PySem.W.XL.keeps (by rfl) (by rfl) (by rfl)
  (fun s e => PySem.W.recFacts_of (Bool.and_eq_true_iff.mp e).2) (by rfl) (by assumption) (by decide +kernel) ⟨rfl, rfl, rfl, rfl, rfl, by decide +kernel⟩ ?hw ?hc
 (case hw => w_witness2)
 k_fill
 refine M.walk (l := PySem.Challenge.rw_rollmend_k09_whole_talk) (k := 11) (x := "_law_script") rfl ⟨rfl, by decide, by decide⟩ rfl (fun w h Y => PySem.W.kIn_of Y) ?F
 case F =>
  intro w mg fa h KX G hmg
  refine' A.all_mk (f1 := 341) (f2 := 348) (f3 := 355) (f4 := 362) (f5 := 369) (f6 := 106) (f7 := 113) (f8 := 120) (f9 := 139) (f10 := 153) (f11 := 160) (f12 := 306) (f13 := 299) (f14 := 127) (f15 := 132) (f16 := 146) (f17 := 198) (f18 := 191) (f19 := 184) (f20 := 179) (f21 := 219) (f22 := 233) (f23 := 226) (f24 := 212) (f25 := 172) (f26 := 240) (f27 := 247) (f28 := 254) (f29 := 313) (f30 := 320) (f31 := 275) (f32 := 261) (f33 := 287) (f34 := 294) (f35 := 280) (f36 := 205) (f37 := 165) (f38 := 268) (f39 := 334) (f40 := 327) (f41 := 426) (f42 := 374) (f43 := 381) (f44 := 388) (f45 := 414) (f46 := 421) (f47 := 407) (f48 := 433) (f49 := 400) (f50 := 440) (f51 := 395) (f52 := 447) (f53 := 454) (tc0 := 313) (tc1 := 315) (tc2 := 317) (tc3 := 319) (tc4 := 307) (tc5 := 311) (tc6 := 309) (tc7 := 305) (tc8 := 389) KX G hmg ?a1 ?l1 ?c1 ?k1 ?a2 ?l2 ?c2 ?k2 ?a3 ?l3 ?c3 ?k3 ?a4 ?l4 ?c4 ?k4 ?a5 ?l5 ?c5 ?k5 ?a6 ?l6 ?c6 ?k6 ?a7 ?l7 ?c7 ?k7 ?a8 ?l8 ?c8 ?k8 ?a9 ?l9 ?c9 ?k9 ?a10 ?l10 ?c10 ?k10 ?a11 ?l11 ?c11 ?k11 ?a12 ?l12 ?c12 ?k12 ?a13 ?l13 ?c13 ?k13 ?a14 ?l14 ?c14 ?k14 ?a15 ?l15 ?c15 ?k15 ?a16 ?l16 ?c16 ?k16 ?a17 ?l17 ?c17 ?k17 ?a18 ?l18 ?c18 ?k18 ?a19 ?l19 ?c19 ?k19 ?a20 ?l20 ?c20 ?k20 ?a21 ?l21 ?c21 ?k21 ?a22 ?l22 ?c22 ?k22 ?a23 ?l23 ?c23 ?k23 ?a24 ?l24 ?c24 ?k24 ?a25 ?l25 ?c25 ?k25 ?a26 ?l26 ?c26 ?k26 ?a27 ?l27 ?c27 ?k27 ?a28 ?l28 ?c28 ?k28 ?a29 ?l29 ?c29 ?k29 ?a30 ?l30 ?c30 ?k30 ?a31 ?l31 ?c31 ?k31 ?a32 ?l32 ?c32 ?k32 ?a33 ?l33 ?c33 ?k33 ?a34 ?l34 ?c34 ?k34 ?a35 ?l35 ?c35 ?k35 ?a36 ?l36 ?c36 ?k36 ?a37 ?l37 ?c37 ?k37 ?a38 ?l38 ?c38 ?k38 ?a39 ?l39 ?c39 ?k39 ?a40 ?l40 ?c40 ?k40 ?a41 ?l41 ?c41 ?k41 ?a42 ?l42 ?c42 ?k42 ?a43 ?l43 ?c43 ?k43 ?a44 ?l44 ?c44 ?k44 ?a45 ?l45 ?c45 ?k45 ?a46 ?l46 ?c46 ?k46 ?a47 ?l47 ?c47 ?k47 ?a48 ?l48 ?c48 ?k48 ?a49 ?l49 ?c49 ?k49 ?a50 ?l50 ?c50 ?k50 ?a51 ?l51 ?c51 ?k51 ?a52 ?l52 ?c52 ?k52 ?a53 ?l53 ?c53 ?k53 ?zb0 ?zb1 ?zb2 ?zb3 ?zb4 ?zb5 ?zb6 ?zb7 ?zb8 ?zb9 ?zb10 ?zb11 ?zc0 ?zc1 ?zc2 ?zc3 ?zc4 ?zc5 ?zc6 ?zc7 ?zc8 A.math
  (case a1 => kernel_rfl)
  (case l1 => exact A.kl341 _)
  (case c1 => kernel_rfl)
  (case k1 => kernel_rfl)
  (case a2 => kernel_rfl)
  (case l2 => exact A.kl348 _)
  (case c2 => kernel_rfl)
  (case k2 => kernel_rfl)
  (case a3 => kernel_rfl)
  (case l3 => exact A.kl355 _)
  (case c3 => kernel_rfl)
  (case k3 => kernel_rfl)
  (case a4 => kernel_rfl)
  (case l4 => exact A.kl362 _)
  (case c4 => kernel_rfl)
  (case k4 => kernel_rfl)
  (case a5 => kernel_rfl)
  (case l5 => exact A.kl369 _)
  (case c5 => kernel_rfl)
  (case k5 => kernel_rfl)
  (case a6 => kernel_rfl)
  (case l6 => exact A.kl106 _)
  (case c6 => kernel_rfl)
  (case k6 => kernel_rfl)
  (case a7 => kernel_rfl)
  (case l7 => exact A.kl113 _)
  (case c7 => kernel_rfl)
  (case k7 => kernel_rfl)
  (case a8 => kernel_rfl)
  (case l8 => exact A.kl120 _)
  (case c8 => kernel_rfl)
  (case k8 => kernel_rfl)
  (case a9 => kernel_rfl)
  (case l9 => exact A.kl139 _)
  (case c9 => kernel_rfl)
  (case k9 => kernel_rfl)
  (case a10 => kernel_rfl)
  (case l10 => exact A.kl153 _)
  (case c10 => kernel_rfl)
  (case k10 => kernel_rfl)
  (case a11 => kernel_rfl)
  (case l11 => exact A.kl160 _)
  (case c11 => kernel_rfl)
  (case k11 => kernel_rfl)
  (case a12 => kernel_rfl)
  (case l12 => exact A.kl306 _)
  (case c12 => kernel_rfl)
  (case k12 => kernel_rfl)
  (case a13 => kernel_rfl)
  (case l13 => exact A.kl299 _)
  (case c13 => kernel_rfl)
  (case k13 => kernel_rfl)
  (case a14 => kernel_rfl)
  (case l14 => exact A.kl127 _)
  (case c14 => kernel_rfl)
  (case k14 => kernel_rfl)
  (case a15 => kernel_rfl)
  (case l15 => exact A.kl132 _)
  (case c15 => kernel_rfl)
  (case k15 => kernel_rfl)
  (case a16 => kernel_rfl)
  (case l16 => exact A.kl146 _)
  (case c16 => kernel_rfl)
  (case k16 => kernel_rfl)
  (case a17 => kernel_rfl)
  (case l17 => exact A.kl198 _)
  (case c17 => kernel_rfl)
  (case k17 => kernel_rfl)
  (case a18 => kernel_rfl)
  (case l18 => exact A.kl191 _)
  (case c18 => kernel_rfl)
  (case k18 => kernel_rfl)
  (case a19 => kernel_rfl)
  (case l19 => exact A.kl184 _)
  (case c19 => kernel_rfl)
  (case k19 => kernel_rfl)
  (case a20 => kernel_rfl)
  (case l20 => exact A.kl179 _)
  (case c20 => kernel_rfl)
  (case k20 => kernel_rfl)
  (case a21 => kernel_rfl)
  (case l21 => exact A.kl219 _)
  (case c21 => kernel_rfl)
  (case k21 => kernel_rfl)
  (case a22 => kernel_rfl)
  (case l22 => exact A.kl233 _)
  (case c22 => kernel_rfl)
  (case k22 => kernel_rfl)
  (case a23 => kernel_rfl)
  (case l23 => exact A.kl226 _)
  (case c23 => kernel_rfl)
  (case k23 => kernel_rfl)
  (case a24 => kernel_rfl)
  (case l24 => exact A.kl212 _)
  (case c24 => kernel_rfl)
  (case k24 => kernel_rfl)
  (case a25 => kernel_rfl)
  (case l25 => exact A.kl172 _)
  (case c25 => kernel_rfl)
  (case k25 => kernel_rfl)
  (case a26 => kernel_rfl)
  (case l26 => exact A.kl240 _)
  (case c26 => kernel_rfl)
  (case k26 => kernel_rfl)
  (case a27 => kernel_rfl)
  (case l27 => exact A.kl247 _)
  (case c27 => kernel_rfl)
  (case k27 => kernel_rfl)
  (case a28 => kernel_rfl)
  (case l28 => exact A.kl254 _)
  (case c28 => kernel_rfl)
  (case k28 => kernel_rfl)
  (case a29 => kernel_rfl)
  (case l29 => exact A.kl313 _)
  (case c29 => kernel_rfl)
  (case k29 => kernel_rfl)
  (case a30 => kernel_rfl)
  (case l30 => exact A.kl320 _)
  (case c30 => kernel_rfl)
  (case k30 => kernel_rfl)
  (case a31 => kernel_rfl)
  (case l31 => exact A.kl275 _)
  (case c31 => kernel_rfl)
  (case k31 => kernel_rfl)
  (case a32 => kernel_rfl)
  (case l32 => exact A.kl261 _)
  (case c32 => kernel_rfl)
  (case k32 => kernel_rfl)
  (case a33 => kernel_rfl)
  (case l33 => exact A.kl287 _)
  (case c33 => kernel_rfl)
  (case k33 => kernel_rfl)
  (case a34 => kernel_rfl)
  (case l34 => exact A.kl294 _)
  (case c34 => kernel_rfl)
  (case k34 => kernel_rfl)
  (case a35 => kernel_rfl)
  (case l35 => exact A.kl280 _)
  (case c35 => kernel_rfl)
  (case k35 => kernel_rfl)
  (case a36 => kernel_rfl)
  (case l36 => exact A.kl205 _)
  (case c36 => kernel_rfl)
  (case k36 => kernel_rfl)
  (case a37 => kernel_rfl)
  (case l37 => exact A.kl165 _)
  (case c37 => kernel_rfl)
  (case k37 => kernel_rfl)
  (case a38 => kernel_rfl)
  (case l38 => exact A.kl268 _)
  (case c38 => kernel_rfl)
  (case k38 => kernel_rfl)
  (case a39 => kernel_rfl)
  (case l39 => exact A.kl334 _)
  (case c39 => kernel_rfl)
  (case k39 => kernel_rfl)
  (case a40 => kernel_rfl)
  (case l40 => exact A.kl327 _)
  (case c40 => kernel_rfl)
  (case k40 => kernel_rfl)
  (case a41 => kernel_rfl)
  (case l41 => exact A.kl426 _)
  (case c41 => kernel_rfl)
  (case k41 => kernel_rfl)
  (case a42 => kernel_rfl)
  (case l42 => exact A.kl374 _)
  (case c42 => kernel_rfl)
  (case k42 => kernel_rfl)
  (case a43 => kernel_rfl)
  (case l43 => exact A.kl381 _)
  (case c43 => kernel_rfl)
  (case k43 => kernel_rfl)
  (case a44 => kernel_rfl)
  (case l44 => exact A.kl388 _)
  (case c44 => kernel_rfl)
  (case k44 => kernel_rfl)
  (case a45 => kernel_rfl)
  (case l45 => exact A.kl414 _)
  (case c45 => kernel_rfl)
  (case k45 => kernel_rfl)
  (case a46 => kernel_rfl)
  (case l46 => exact A.kl421 _)
  (case c46 => kernel_rfl)
  (case k46 => kernel_rfl)
  (case a47 => kernel_rfl)
  (case l47 => exact A.kl407 _)
  (case c47 => kernel_rfl)
  (case k47 => kernel_rfl)
  (case a48 => kernel_rfl)
  (case l48 => exact A.kl433 _)
  (case c48 => kernel_rfl)
  (case k48 => kernel_rfl)
  (case a49 => kernel_rfl)
  (case l49 => exact A.kl400 _)
  (case c49 => kernel_rfl)
  (case k49 => kernel_rfl)
  (case a50 => kernel_rfl)
  (case l50 => exact A.kl440 _)
  (case c50 => kernel_rfl)
  (case k50 => kernel_rfl)
  (case a51 => kernel_rfl)
  (case l51 => exact A.kl395 _)
  (case c51 => kernel_rfl)
  (case k51 => kernel_rfl)
  (case a52 => kernel_rfl)
  (case l52 => exact A.kl447 _)
  (case c52 => kernel_rfl)
  (case k52 => kernel_rfl)
  (case a53 => kernel_rfl)
  (case l53 => exact A.kl454 _)
  (case c53 => kernel_rfl)
  (case k53 => kernel_rfl)
  (case zb0 => kernel_rfl)
  (case zb1 => kernel_rfl)
  (case zb2 => kernel_rfl)
  (case zb3 => kernel_rfl)
  (case zb4 => kernel_rfl)
  (case zb5 => kernel_rfl)
  (case zb6 => kernel_rfl)
  (case zb7 => kernel_rfl)
  (case zb8 => kernel_rfl)
  (case zb9 => kernel_rfl)
  (case zb10 => kernel_rfl)
  (case zb11 => kernel_rfl)
  (case zc0 => kernel_rfl)
  (case zc1 => kernel_rfl)
  (case zc2 => kernel_rfl)
  (case zc3 => kernel_rfl)
  (case zc4 => kernel_rfl)
  (case zc5 => kernel_rfl)
  (case zc6 => kernel_rfl)
  (case zc7 => kernel_rfl)
  (case zc8 => kernel_rfl)
