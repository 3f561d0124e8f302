import PyProof.Rows.All
import Wide.All
import OpenK.AllK
import Wide.FinOn
import Lean
import PyProof.EqAt
import PyProof.EqKinds
import PyProof.TupleCall
import PySem.Challenge.RW_lodge_k22_orders_walked
set_option Elab.async false
set_option linter.all false
set_option maxRecDepth 100000
set_option genSizeOf false
namespace L2
open PySem PySem.Spec PyProof.Rows

noncomputable abbrev Key := Sum Int Str
noncomputable def keyIs : Key → Value → Bool
  | .inl k, v => Value.isInt k v
  | .inr x, v => Value.isStrOf x v
noncomputable def keyH (w : World) : Key → Int
  | .inl k => hashInt k
  | .inr x => hashStr w x
theorem keyIs_shape : ∀ {k : Key} {v : Value}, keyIs k v = true → (∃ i t, k = Sum.inl i ∧ v = Value.int i t) ∨ (∃ x t, k = Sum.inr x ∧ v = Value.str x t)
  | .inl i, v, h => by
    obtain ⟨t, e⟩ := Value.isInt_shape (k := i) (v := v) h
    exact .inl ⟨i, t, rfl, e⟩
  | .inr x, v, h => by
    obtain ⟨t, e⟩ := Value.isStrOf_shape (x := x) (v := v) h
    exact .inr ⟨x, t, rfl, e⟩
theorem keyIs_int (i : Int) (t : Tok) : keyIs (.inl i) (.int i t) = true := by simp [keyIs, Value.isInt]
theorem keyIs_str (x : Str) (t : Tok) : keyIs (.inr x) (.str x t) = true := by simp [keyIs, Value.isStrOf]
theorem key_ll (a b : Int) : decide ((Sum.inl a : Key) = Sum.inl b) = (a == b) := by
  by_cases e : a = b
  · subst e; simp
  · have h : ¬ (Sum.inl a : Key) = Sum.inl b := fun q => e (Sum.inl.inj q)
    rw [decide_eq_false h]
    exact (beq_eq_false_iff_ne.mpr e).symm
theorem key_rr (a b : Str) : decide ((Sum.inr a : Key) = Sum.inr b) = decide (a = b) := by
  by_cases e : a = b
  · subst e; simp
  · have h : ¬ (Sum.inr a : Key) = Sum.inr b := fun q => e (Sum.inr.inj q)
    rw [decide_eq_false h, decide_eq_false e]
theorem key_lr (a : Int) (b : Str) : decide ((Sum.inl a : Key) = Sum.inr b) = false := decide_eq_false (fun q => nomatch q)
theorem key_rl (a : Str) (b : Int) : decide ((Sum.inr a : Key) = Sum.inl b) = false := decide_eq_false (fun q => nomatch q)

noncomputable def mixKind (prog : Program) (w : World) : PySem.KeyKind prog w Key where
  is := keyIs
  hash := keyH w
  inj := fun v a b ha hb => by
    rcases keyIs_shape ha with ⟨i, t, rfl, rfl⟩ | ⟨x, t, rfl, rfl⟩
    · rcases keyIs_shape hb with ⟨j, u, rfl, e⟩ | ⟨y, u, rfl, e⟩
      · injection e with e1 _; rw [e1]
      · exact nomatch e
    · rcases keyIs_shape hb with ⟨j, u, rfl, e⟩ | ⟨y, u, rfl, e⟩
      · exact nomatch e
      · injection e with e1 _; rw [e1]
  byValue := fun k v h => by
    rcases keyIs_shape h with ⟨i, t, rfl, rfl⟩ | ⟨x, t, rfl, rfl⟩ <;> rfl
  pyHash := fun hv h => by
    rcases keyIs_shape hv with ⟨i, t, rfl, rfl⟩ | ⟨x, t, rfl, rfl⟩
    · exact wpAny_pyHash_int h
    · exact wpAny_pyHash_str h
  eqBool := fun hu hv h => by
    rcases keyIs_shape hu with ⟨i, t, rfl, rfl⟩ | ⟨x, t, rfl, rfl⟩
    · rcases keyIs_shape hv with ⟨j, u, rfl, rfl⟩ | ⟨y, u, rfl, rfl⟩
      · rw [key_ll] at h; exact wpAny_eqBool_int h
      · rw [key_lr] at h; exact SeqAt.EqAt.int_str i t y u _ _ _ _ h
    · rcases keyIs_shape hv with ⟨j, u, rfl, rfl⟩ | ⟨y, u, rfl, rfl⟩
      · rw [key_rl] at h; exact SeqAt.EqAt.str_int x t j u _ _ _ _ h
      · rw [key_rr] at h; exact wpAny_eqBool_str h
  «strs» := fun k x t v h => by
    rcases keyIs_shape h with ⟨i, u, rfl, e⟩ | ⟨y, u, rfl, e⟩
    · exact nomatch e
    · injection e with e1 _
      subst e1
      cases v <;> rfl

theorem mixKind_int (prog : Program) (w : World) (i : Int) (t : Tok) : (mixKind prog w).is (.inl i) (.int i t) = true := keyIs_int i t
theorem mixKind_str (prog : Program) (w : World) (x : Str) (t : Tok) : (mixKind prog w).is (.inr x) (.str x t) = true := keyIs_str x t
end L2

namespace L2
open PySem PySem.Spec PyProof.Rows

inductive V where
  | non | bl (b : Bool) | int (i : Int) | str (x : Str) | byt (b : Array UInt8) | flt (b : UInt64) | ref (a : Addr) | ty (n : String)
  deriving DecidableEq

noncomputable def RelV : V → Value → Prop
  | .non, u => u = Value.none
  | .bl b, u => u = Value.bool b
  | .int i, u => ∃ t, u = Value.int i t
  | .str x, u => ∃ t, u = Value.str x t
  | .byt b, u => ∃ t, u = Value.bytes b t
  | .flt b, u => ∃ t, u = Value.float b t
  | .ref a, u => u = Value.ref a
  | .ty n, u => u = Value.type n

noncomputable abbrev Vals : List V → List Value → Prop := Paired RelV
theorem Vals.length {xs : List V} {us : List Value} (r : Vals xs us) : xs.length = us.length := Paired.length r
theorem Vals.get : ∀ {xs : List V} {us : List Value} {i : Nat} {x : V}, Vals xs us → xs[i]? = some x → ∃ u, us[i]? = some u ∧ RelV x u
  | _, _, _, _, .nil, e => by simp at e
  | _, _, 0, _, .cons r _, e => by simp at e; subst e; exact ⟨_, rfl, r⟩
  | _, _, i + 1, x, .cons _ t, e => by
    obtain ⟨u, h1, h2⟩ := Vals.get (i := i) (x := x) t (by simpa using e)
    exact ⟨u, by simpa using h1, h2⟩
theorem Vals.set {x : V} {u : Value} (r : RelV x u) : ∀ {xs : List V} {us : List Value} (i : Nat), Vals xs us → Vals (xs.set i x) (us.set i u)
  | _, _, _, .nil => .nil
  | _, _, 0, .cons _ t => .cons r t
  | _, _, i + 1, .cons q t => .cons q (Vals.set r i t)
theorem Vals.append : ∀ {xs ys : List V} {us ws : List Value}, Vals xs us → Vals ys ws → Vals (xs ++ ys) (us ++ ws)
  | _, _, _, _, .nil, s => s
  | _, _, _, _, .cons r t, s => .cons r (Vals.append t s)
theorem Vals.take : ∀ {xs : List V} {us : List Value} (n : Nat), Vals xs us → Vals (xs.take n) (us.take n)
  | _, _, 0, _ => .nil
  | _, _, _ + 1, .nil => .nil
  | _, _, n + 1, .cons r t => .cons r (Vals.take n t)
theorem Vals.drop : ∀ {xs : List V} {us : List Value} (n : Nat), Vals xs us → Vals (xs.drop n) (us.drop n)
  | _, _, 0, r => r
  | _, _, _ + 1, .nil => .nil
  | _, _, n + 1, .cons _ t => Vals.drop n t
theorem Vals.none_of : ∀ {xs : List V} {us : List Value} {i : Nat}, Vals xs us → xs[i]? = none → us[i]? = none := fun {xs us i} r e => by
  have h1 := r.length
  have h2 : xs.length ≤ i := List.getElem?_eq_none_iff.mp e
  exact List.getElem?_eq_none_iff.mpr (by omega)

noncomputable def RelO : Option V → Option Value → Prop
  | some v, some u => RelV v u
  | none, none => True
  | _, _ => False
noncomputable def KV {κ : Type} : List (κ × V) → List (κ × Value) → Prop := Paired fun (p : κ × V) (q : κ × Value) => p.1 = q.1 ∧ RelV p.2 q.2

noncomputable def kV : Key → V
  | .inl i => .int i
  | .inr x => .str x

inductive HO where
    | lst (xs : List V)
    | tup (xs : List V)
    | dK (kvs : List (Key × V)) | dT (kvs : List (List Key × V))
    | set (S : Int → Bool) (n : Nat)
    | ins (C dx : Addr) (fs : List (Str × V))
    | own (x : Addr)
    | xd (fs : List (Str × V))
    | met (f x : Addr)
    | rng (lo hi : Int)
    | frz (o : Obj) (u : HO)
    | tbl (ps : Array Value)
    | ext (φ : Heap → Prop)

noncomputable abbrev Hp := Addr → Option HO
noncomputable def upd (H : Hp) (a : Addr) (o : HO) : Hp := fun b => if b = a then some o else H b
theorem upd_same {H : Hp} {a : Addr} {o : HO} : upd H a o a = some o := by unfold upd; rw [if_pos rfl]
theorem upd_ne {H : Hp} {a b : Addr} {o : HO} (h : b ≠ a) : upd H a o b = H b := by unfold upd; rw [if_neg h]
theorem ne_of {H : Hp} {a b : Addr} {o u : HO} (h : H a = some o) (h' : H b = some u) (d : o ≠ u) : a ≠ b := by
  intro e; subst e; rw [h] at h'; exact d (Option.some.inj h')
theorem ne_of_none {H : Hp} {a b : Addr} {o : HO} (h : H a = some o) (h' : H b = none) : a ≠ b := by
  intro e; subst e; rw [h] at h'; cases h'

section
variable (P : Program) (w : World)
noncomputable def ObjOk (H : Hp) (h : Heap) (a : Addr) : HO → Prop
  | .lst xs => xs.length ≤ sizeLine ∧ ∃ (its : List Value) (n : Nat), Vals xs its ∧ h.get? a = some { cls := .type "list", data := .seq its.toArray n }
  | .tup xs => xs.length ≤ sizeLine ∧ ∃ its : List Value, Vals xs its ∧ IsTup h a its.toArray
  | .dK kvs => kvs.length ≤ sizeLine ∧ (a == sysModules) = false ∧ ∃ vs, KV kvs vs ∧ h.DictOf (mixKind P w) a vs
  | .dT kvs => kvs.length ≤ sizeLine ∧ (a == sysModules) = false ∧ ∃ xs : List (List Key × Addr × Value),
      Paired (fun (p : List Key × V) (q : List Key × Addr × Value) => p.1 = q.1 ∧ H q.2.1 = some (.tup (p.1.map kV)) ∧ RelV p.2 q.2.2) kvs xs ∧
      ∃ o es ep, h.get? a = some o ∧ o.ExactDict ∧ o.data = .dict es ep ∧ es.toList = xs.map (entryOfKey (tupleKind (mixKind P w))) ∧ (xs.map (·.1)).Nodup
  | .set S n => h.SetOf (intKind P w) a S n
  | .ins C dx fs => H dx = some (.own a) ∧ fs.length ≤ 1000 ∧ dx ≠ a ∧ h.get? a = some (PySem.W.instObj C dx) ∧
      ∃ mA, h.Ns1 dx mA ∧ (∀ f, RelO (fs.lookup f) (mA f)) ∧ PySem.Within mA (fs.map (·.1))
  | .own _ => ∃ o, h.get? a = some o
  | .xd fs => ∃ mA, h.Ns1 a mA ∧ ∀ f, RelO (fs.lookup f) (mA f)
  | .rng lo hi => ∃ t u v, h.get? a = some { cls := .type "range", data := .fields #[.int lo t, .int hi u, .int 1 v] }
  | .frz o u => h.get? a = some o ∧ ObjOk H h a u
  | .tbl ps => h.get? a = some { cls := .none, data := .fields ps }
  | .met f x => h.get? a = some (PySem.W.methodObj (.ref f) (.ref x))
  | .ext φ => φ h ∧ (∃ o, h.get? a = some o) ∧ ∀ h1 h2 : Heap, φ h1 → (∀ o, h1.get? a = some o → h2.get? a = some o) → φ h2
noncomputable def HOk (H : Hp) (h : Heap) : Prop := ∀ a o, H a = some o → ObjOk P w H h a o
end

section
variable {P : Program} {w : World} {H H' : Hp} {h h' : Heap} {a : Addr} {o : HO}
theorem ObjOk.lt (x : ObjOk P w H h a o) : a < h.objs.size := by
  cases o with
  | lst xs => obtain ⟨_, _, _, _, e⟩ := x; exact Heap.lt_size e
  | tup xs => obtain ⟨_, _, _, p⟩ := x; exact p.lt
  | dK kvs => obtain ⟨_, _, _, _, o, _, _, e, _⟩ := x; exact Heap.lt_size e
  | dT kvs => obtain ⟨_, _, _, _, o, _, _, e, _⟩ := x; exact Heap.lt_size e
  | set S n => obtain ⟨o, _, _, _, e, _⟩ := x; exact Heap.lt_size e
  | ins C dx fs => obtain ⟨_, _, _, e, _⟩ := x; exact Heap.lt_size e
  | own y => obtain ⟨_, e⟩ := x; exact Heap.lt_size e
  | xd fs => obtain ⟨_, ⟨_, _, _, e, _⟩, _⟩ := x; exact Heap.lt_size e
  | rng lo hi => obtain ⟨_, _, _, e⟩ := x; exact Heap.lt_size e
  | frz ob u => obtain ⟨e, _⟩ := x; exact Heap.lt_size e
  | tbl ps => exact Heap.lt_size (show h.get? a = some _ from x)
  | met f y => exact Heap.lt_size (show h.get? a = some _ from x)
  | ext φ => obtain ⟨_, ⟨_, e⟩, _⟩ := x; exact Heap.lt_size e
theorem Paired.mapP {α β : Type} {F G : α → β → Prop} : ∀ {l₁ : List α} {l₂ : List β}, Paired F l₁ l₂ → (∀ a b, F a b → G a b) → Paired G l₁ l₂
  | _, _, .nil, _ => .nil
  | _, _, .cons r t, f => .cons (f _ _ r) (Paired.mapP t f)
theorem ObjOk.stay (x : ObjOk P w H h a o) (k : ∀ b u, (b = a ∨ H b = some (.own a)) → h.get? b = some u → h'.get? b = some u)
    (ho : ∀ b, H b = some (.own a) → H' b = some (.own a)) (ht : ∀ b xs, H b = some (.tup xs) → H' b = some (.tup xs)) : ObjOk P w H' h' a o := by
  induction o with
  | lst xs => obtain ⟨z, its, n, r, e⟩ := x; exact ⟨z, its, n, r, k _ _ (.inl rfl) e⟩
  | tup xs => obtain ⟨z, its, r, ob, e, c⟩ := x; exact ⟨z, its, r, ob, k _ _ (.inl rfl) e, c⟩
  | dK kvs => obtain ⟨z, y, vs, r, ob, es, ep, e, c⟩ := x; exact ⟨z, y, vs, r, ob, es, ep, k _ _ (.inl rfl) e, c⟩
  | dT kvs =>
    obtain ⟨z, y, xs, r, ob, es, ep, e, c⟩ := x
    exact ⟨z, y, xs, Paired.mapP r fun p q z => ⟨z.1, ht _ _ z.2.1, z.2.2⟩, ob, es, ep, k _ _ (.inl rfl) e, c⟩
  | set S n => obtain ⟨ob, es, ep, t, e, c⟩ := x; exact ⟨ob, es, ep, t, k _ _ (.inl rfl) e, c⟩
  | ins C dx fs =>
    obtain ⟨d, z, ne, e, mA, ⟨od, es, ep, e2, c⟩, r⟩ := x
    exact ⟨ho _ d, z, ne, k _ _ (.inl rfl) e, mA, ⟨od, es, ep, k _ _ (.inr d) e2, c⟩, r⟩
  | own y => obtain ⟨ob, e⟩ := x; exact ⟨ob, k _ _ (.inl rfl) e⟩
  | xd fs => obtain ⟨mA, ⟨od, es, ep, e, c⟩, r⟩ := x; exact ⟨mA, ⟨od, es, ep, k _ _ (.inl rfl) e, c⟩, r⟩
  | rng lo hi => obtain ⟨t, u, v, e⟩ := x; exact ⟨t, u, v, k _ _ (.inl rfl) e⟩
  | frz ob u ih => obtain ⟨e, q⟩ := x; exact ⟨k _ _ (.inl rfl) e, ih q⟩
  | tbl ps =>
    have e : h.get? a = some { cls := .none, data := .fields ps } := x
    show h'.get? a = some { cls := .none, data := .fields ps }
    exact k a _ (.inl rfl) e
  | met f y =>
    have e : h.get? a = some (PySem.W.methodObj (.ref f) (.ref y)) := x
    show h'.get? a = some (PySem.W.methodObj (.ref f) (.ref y))
    exact k a _ (.inl rfl) e
  | ext φ => obtain ⟨p, ⟨o, e⟩, st⟩ := x; exact ⟨st _ _ p fun o q => k _ _ (.inl rfl) q, ⟨o, k _ _ (.inl rfl) e⟩, st⟩
theorem HOk.lt (x : HOk P w H h) (e : H a = some o) : a < h.objs.size := (x a o e).lt
theorem HOk.fresh (x : HOk P w H h) (e : h.objs.size ≤ a) : H a = none := by
  cases q : H a with
  | none => rfl
  | some u => exact absurd (Nat.lt_of_lt_of_le (x.lt q) e) (Nat.lt_irrefl _)
theorem HOk.kept (x : HOk P w H h) (k : ∀ b u, h.get? b = some u → h'.get? b = some u) : HOk P w H h' := fun a o e =>
  (x a o e).stay (fun b u _ q => k b u q) (fun _ q => q) fun _ _ q => q
theorem HOk.laid (x : HOk P w H h) (k : ∀ b u, h.get? b = some u → h'.get? b = some u) (hp : h.objs.size ≤ a) (new : ObjOk P w (upd H a o) h' a o) : HOk P w (upd H a o) h' := fun b u e => by
  have hn := x.fresh hp
  by_cases hb : b = a
  · subst hb; rw [upd_same] at e; cases e; exact new
  · rw [upd_ne hb] at e
    exact (x b u e).stay (fun c v _ q => k c v q) (fun c q => by rw [upd_ne (ne_of_none q hn)]; exact q) fun c xs q => by rw [upd_ne (ne_of_none q hn)]; exact q
end

noncomputable def Rd (H : Hp) (a : Addr) (u : HO) : Prop := H a = some u ∨ ∃ o, H a = some (.frz o u)
theorem Rd.of {H : Hp} {a : Addr} {u : HO} (h : H a = some u) : Rd H a u := .inl h
theorem Rd.ok {P : Program} {w : World} {H : Hp} {h : Heap} {a : Addr} {u : HO} (r : Rd H a u) (x : HOk P w H h) : ObjOk P w H h a u := by
  rcases r with r | ⟨o, r⟩
  · exact x a u r
  · obtain ⟨_, q⟩ := x a _ r
    exact q
noncomputable def Mut : Option HO → Prop
  | some (.lst _) => True
  | some (.dK _) => True
  | some (.dT _) => True
  | some (.set _ _) => True
  | some (.ins _ _ _) => True
  | some (.ext _) => True
  | _ => False
section
variable {P : Program} {w : World} {H : Hp} {h h' : Heap} {x e : Addr} {o' : HO}
theorem HOk.write (ok : HOk P w H h) (mu : Mut (H x)) (he : e = x ∨ H e = some (.own x)) (k : ∀ b u, b ≠ e → h.get? b = some u → h'.get? b = some u) (heo : ∃ u, h'.get? e = some u)
    (new : ObjOk P w (upd H x o') h' x o') : HOk P w (upd H x o') h' := fun b u q => by
  have nown : ∀ c y, H c = some (.own y) → c ≠ x := fun c y r z => by subst z; rw [r] at mu; exact mu
  have ntup : ∀ c xs, H c = some (.tup xs) → c ≠ x := fun c xs r z => by subst z; rw [r] at mu; exact mu
  by_cases hb : b = x
  · subst hb; rw [upd_same] at q; cases q; exact new
  · rw [upd_ne hb] at q
    by_cases hbe : b = e
    · have q' : H b = some (.own x) := by
        rcases he with z | z
        · exact absurd (hbe.trans z) hb
        · rw [hbe]; exact z
      rw [q] at q'; cases q'
      obtain ⟨v, hv⟩ := heo
      exact ⟨v, by rw [hbe]; exact hv⟩
    · refine (ok b u q).stay (fun c v hc r => k c v ?_ r) (fun c r => by rw [upd_ne (nown c b r)]; exact r) fun c xs r => by rw [upd_ne (ntup c xs r)]; exact r
      rcases hc with rfl | hc
      · exact hbe
      · rintro rfl
        rcases he with z | z
        · exact nown c b hc z
        · rw [hc] at z; cases z; exact hb rfl
end

structure Un (fs ex : List Addr) (H H' : Hp) (h h' : Heap) : Prop where
  keep : ∀ b o, h.get? b = some o → H b = none → b ∉ fs → b ∉ ex → h'.get? b = some o
  slot : ∀ b o, h.get? b = some o → H b = none → b ∈ fs → b ∉ ex → ∃ sl, h'.get? b = some { o with slots := sl }
  free : ∀ b o, h.get? b = some o → H b = none → b ∉ ex → H' b = none
  there : ∀ b o, h.get? b = some o → b ∉ ex → ∃ o', h'.get? b = some o'
  tups : ∀ b xs, H b = some (.tup xs) → H' b = some (.tup xs)
  frzs : ∀ b o u, H b = some (.frz o u) → H' b = some (.frz o u)
  tbls : ∀ b ps, H b = some (.tbl ps) → ∃ more, H' b = some (.tbl (ps ++ more))
section
variable {fs fs' ex ex' : List Addr} {H H1 H2 : Hp} {h h1 h2 h' : Heap} {a x e : Addr} {o : HO}
theorem Un.any (u : Un fs ex H H1 h h1) {b : Addr} {ob : Obj} (q : h.get? b = some ob) (n : H b = none) (hx : b ∉ ex) : ∃ sl, h1.get? b = some { ob with slots := sl } := by
  by_cases hb : b ∈ fs
  · exact u.slot b ob q n hb hx
  · exact ⟨ob.slots, u.keep b ob q n hb hx⟩
theorem Un.trans (a : Un fs ex H H1 h h1) (b : Un fs ex H1 H2 h1 h2) : Un fs ex H H2 h h2 where
  keep := fun c ob q n hc hx => b.keep c ob (a.keep c ob q n hc hx) (a.free c ob q n hx) hc hx
  slot := fun c ob q n hc hx => by
    obtain ⟨sl, e1⟩ := a.slot c ob q n hc hx
    obtain ⟨sl', e2⟩ := b.slot c _ e1 (a.free c ob q n hx) hc hx
    exact ⟨sl', e2⟩
  free := fun c ob q n hx => by
    obtain ⟨o', e1⟩ := a.there c ob q hx
    exact b.free c o' e1 (a.free c ob q n hx) hx
  there := fun c ob q hx => by
    obtain ⟨o', e1⟩ := a.there c ob q hx
    exact b.there c o' e1 hx
  tups := fun c xs q => b.tups c xs (a.tups c xs q)
  frzs := fun c ob xs q => b.frzs c ob xs (a.frzs c ob xs q)
  tbls := fun c ps q => by
    obtain ⟨m1, e1⟩ := a.tbls c ps q
    obtain ⟨m2, e2⟩ := b.tbls c _ e1
    exact ⟨m1 ++ m2, by rw [e2, Array.append_assoc]⟩
theorem Un.kept (k : ∀ b u, h.get? b = some u → h'.get? b = some u) : Un fs ex H H h h' :=
  ⟨fun b ob q _ _ _ => k b ob q, fun b ob q _ _ _ => ⟨ob.slots, k b ob q⟩, fun _ _ _ n _ => n, fun b ob q _ => ⟨ob, k b ob q⟩, fun _ _ q => q, fun _ _ _ q => q, fun _ ps q => ⟨#[], by rw [q]; simp⟩⟩
theorem Un.refl : Un fs ex H H h h := Un.kept fun _ _ q => q
theorem Un.laid (k : ∀ b u, h.get? b = some u → h'.get? b = some u) (hp : h.objs.size ≤ a) (hn : H a = none) : Un fs ex H (upd H a o) h h' where
  keep := fun b u q _ _ _ => k b u q
  slot := fun b u q _ _ _ => ⟨u.slots, k b u q⟩
  free := fun b u q n _ => by rw [upd_ne (Nat.ne_of_lt (Nat.lt_of_lt_of_le (Heap.lt_size q) hp))]; exact n
  there := fun b u q _ => ⟨u, k b u q⟩
  tups := fun b xs q => by rw [upd_ne (ne_of_none q hn)]; exact q
  frzs := fun b u xs q => by rw [upd_ne (ne_of_none q hn)]; exact q
  tbls := fun b ps q => ⟨#[], by rw [upd_ne (ne_of_none q hn), q]; simp⟩
theorem Un.write (mu : Mut (H x)) (he : e = x ∨ H e = some (.own x)) (k : ∀ b u, b ≠ e → h.get? b = some u → h'.get? b = some u) (heo : ∃ u, h'.get? e = some u) : Un fs ex H (upd H x o) h h' := by
  have hx : ∀ b, H b = none → b ≠ x := fun b n z => by subst z; rw [n] at mu; exact mu
  have hb : ∀ b, H b = none → b ≠ e := fun b n z => by
    subst z
    rcases he with r | r
    · exact hx b n r
    · rw [n] at r; cases r
  have hm : ∀ b u, H b = some u → ¬ Mut (some u) → b ≠ x := fun b u q nm z => by subst z; rw [q] at mu; exact nm mu
  refine ⟨fun b u q n _ _ => k b u (hb b n) q, fun b u q n _ _ => ⟨u.slots, k b u (hb b n) q⟩, fun b u q n _ => by rw [upd_ne (hx b n)]; exact n, fun b u q _ => ?_,
    fun b xs q => by rw [upd_ne (hm b _ q fun z => z)]; exact q, fun b u xs q => by rw [upd_ne (hm b _ q fun z => z)]; exact q, fun b ps q => ⟨#[], by rw [upd_ne (hm b _ q fun z => z), q]; simp⟩⟩
  by_cases hbe : b = e
  · subst hbe; exact heo
  · exact ⟨u, k b u hbe q⟩
theorem Un.mono (u : Un fs ex H H1 h h1) (hs : ∀ b ∈ fs, b ∈ fs') (hx : ∀ b ∈ ex, b ∈ ex') : Un fs' ex' H H1 h h1 :=
  ⟨fun b ob q n hb he => u.keep b ob q n (fun z => hb (hs b z)) fun z => he (hx b z), fun _ _ q n _ he => u.any q n fun z => he (hx _ z), fun b ob q n he => u.free b ob q n fun z => he (hx b z), fun b ob q he => u.there b ob q fun z => he (hx b z), u.tups, u.frzs, u.tbls⟩
end

noncomputable def trk (h : Heap) (H : Hp) : List Addr := (List.range h.objs.size).filter fun a => (H a).isSome
noncomputable def hidT (h : Heap) (H : Hp) : Heap := PySem.W.hideAll h (trk h H)
theorem hidT_size (h : Heap) (H : Hp) : (hidT h H).objs.size = h.objs.size := PySem.W.hideAll_size _ _
theorem hidT_get {h : Heap} {H : Hp} {b : Addr} {o : Obj} (e : h.get? b = some o) (n : H b = none) : (hidT h H).get? b = some o :=
  PySem.W.hideAll_get _ e fun hm => by
    have q : (H b).isSome = true := (List.mem_filter.mp hm).2
    rw [n] at q; simp at q
theorem of_hidT {h : Heap} {H : Hp} {b : Addr} {o : Obj} (e : (hidT h H).get? b = some o) : h.get? b = some o ∧ H b = none := by
  have e' : h.get? b = some o := PySem.W.of_hideAll (trk h H) e
  refine ⟨e', ?_⟩
  cases q : H b with
  | none => rfl
  | some x =>
    have hm : b ∈ trk h H := List.mem_filter.mpr ⟨List.mem_range.mpr (Heap.lt_size e'), by simp [q]⟩
    have z : (hidT h H).get? b = none := PySem.W.hideAll_none (trk h H) hm
    rw [z] at e; cases e

noncomputable def allNews (g h : Heap) (L : Addr) : List (Addr × Obj) := (List.range h.objs.size).filterMap fun a => if a = L ∨ (g.get? a).isSome = true then none else (h.get? a).map fun o => (a, o)
noncomputable def rest (g h : Heap) (L d : Addr) : List (Addr × Obj) := (allNews g h L).filter fun p => decide (p.1 ≠ d)
end L2

namespace L2
open PySem PySem.Spec PyProof.Rows

structure Mod (K : PySem.W.Frag) (mg : Str → Option Value) (base : Heap) : Prop where
  kin : K.In base
  glob : base.Ns mainGlobals mg
  blt : ∃ mb, base.Ns builtinsNs mb ∧ ∀ x : Str, x ≠ "__name__" → mb x = bootBuiltins x
  nolimit : base.NoLimit

structure Cx where
  prog : Program
  w : World
  K : PySem.W.Frag
  mg : Str → Option Value
  base : Heap
  A : Around
  N : List Str
  s₀ : Shared
  H₀ : Hp
  env : Env
  outer : List Env
  stack : List Env
  ex : List Addr
  fn : Str → Bool
  calm : Bool
  pn : List (Addr × Obj)
  xe : Value → Shared → Prop
noncomputable def frs (l : List Env) : List Addr := l.filterMap (·.frame)
noncomputable abbrev Cx.fs (X : Cx) : List Addr := frs X.outer

noncomputable def Vis (sc : Scope) (x : Str) : Prop := sc.names.lookup x = some .local ∨ sc.names.lookup x = some .cell ∨ sc.names.lookup x = some .free
noncomputable def Loc (sc : Scope) (x : Str) : Prop := sc.names.lookup x = some .local ∨ sc.names.lookup x = some .cell
noncomputable def Look (env : Env) (h : Heap) (m : Str → Option Value) (x : Str) (u : Value) : Prop :=
  (env.kindOf x = some .local ∧ m x = some u) ∨ ((env.kindOf x = some .cell ∨ env.kindOf x = some .free) ∧ ∃ c, env.cells.lookup x = some c ∧ h.IsCell c (some u))

structure Cx.Ok (X : Cx) : Prop where
  mod : Mod X.K X.mg X.base
  kind : X.env.scope.kind = .function
  glob : X.env.globals = mainGlobals
  blt : X.env.builtins = builtinsNs
  above : X.s₀.heap.objs.size ≤ X.env.locals
  inj : ∀ x y c, X.env.cells.lookup x = some c → X.env.cells.lookup y = some c → x = y
  has : ∀ x, (X.env.kindOf x = some .cell ∨ X.env.kindOf x = some .free) → ∃ c, X.env.cells.lookup x = some c
  cab : ∀ x c, X.fn x = true → X.env.cells.lookup x = some c → X.s₀.heap.objs.size ≤ c
  hd : X.calm = true → X.A.handled = none
  frames : X.A.frames = some X.stack
  stk : X.stack = X.outer ∨ (X.stack = X.env :: X.outer ∧ X.env.frame = some X.env.locals)
  exf : ∀ b ∈ X.ex, b ≠ X.env.locals ∧ ∀ x c, X.env.cells.lookup x = some c → c ≠ b
  bs : ∀ b o, X.base.get? b = some o → X.s₀.heap.get? b = some o ∧ X.H₀ b = none
  bsz : X.base.objs.size ≤ X.s₀.heap.objs.size
  noex : ∀ b o, X.base.get? b = some o → b ∉ X.ex
  exfs : ∀ b ∈ X.ex, b ∉ X.fs
  funs : X.s₀.heap.FunFrames X.base X.outer
  frf : ∀ b ∈ X.fs, X.H₀ b = none

structure Inv (X : Cx) (pins : List (Addr × Obj)) (σ : List (Option V)) (H : Hp) (s : Shared) : Prop where
  ok : X.Ok
  os : s.os = X.s₀.os
  bare : AllBare s.gens
  base : Un X.fs X.ex X.H₀ H X.s₀.heap s.heap
  loc : ∃ m, s.heap.Ns X.env.locals m ∧ ∀ (i : Nat) (x : Str) (v : V), X.N[i]? = some x → σ[i]? = some (some v) → Vis X.env.scope x → ∃ u, RelV v u ∧ Look X.env s.heap m x u
  cell : ∀ x c, X.env.cells.lookup x = some c → ∃ v, s.heap.IsCell c v
  free : H X.env.locals = none
  freeC : ∀ x c, X.env.cells.lookup x = some c → H c = none
  pin : ∀ p ∈ X.pn ++ pins, s.heap.get? p.1 = some p.2 ∧ H p.1 = none ∧ p.1 ≠ X.env.locals ∧ p.1 ∉ X.fs ∧ ∀ v, p.2.data ≠ .cell v
  hok : HOk X.prog X.w H s.heap
  len : σ.length = X.N.length

section
variable {X : Cx} {pins : List (Addr × Obj)} {σ : List (Option V)} {H H' : Hp} {s : Shared} {h' : Heap}

theorem Cx.Ok.nofr (ok : X.Ok) {b : Addr} {o : Obj} (e : X.base.get? b = some o) : b ∉ X.fs := fun hb => by
  have := (ok.funs.mem hb).1
  rw [e] at this; cases this
theorem Inv.bs (I : Inv X pins σ H s) : ∀ b o, X.base.get? b = some o → s.heap.get? b = some o ∧ H b = none := fun b o e =>
  ⟨I.base.keep b o (I.ok.bs b o e).1 (I.ok.bs b o e).2 (I.ok.nofr e) (I.ok.noex b o e), I.base.free b o (I.ok.bs b o e).1 (I.ok.bs b o e).2 (I.ok.noex b o e)⟩
theorem Inv.bk (I : Inv X pins σ H s) : ∀ b o, X.base.get? b = some o → s.heap.get? b = some o := fun b o e => (I.bs b o e).1
theorem Inv.mod (I : Inv X pins σ H s) : Mod X.K X.mg X.base := I.ok.mod
theorem Inv.kIn (I : Inv X pins σ H s) : X.K.In s.heap := I.ok.mod.kin.keeps I.bk
theorem Inv.nolimit (I : Inv X pins σ H s) : s.heap.NoLimit := I.ok.mod.nolimit.keeps I.bk
theorem Inv.fr (I : Inv X pins σ H s) : ∃ m, Fr X.base X.env.locals s.heap m :=
  let ⟨m, hn, _⟩ := I.loc
  ⟨m, hn, I.bk, Nat.le_trans I.ok.bsz I.ok.above⟩
theorem Inv.lt (I : Inv X pins σ H s) : X.env.locals < s.heap.objs.size := let ⟨_, hn, _⟩ := I.loc; hn.lt
theorem Inv.sz (I : Inv X pins σ H s) : X.s₀.heap.objs.size ≤ s.heap.objs.size := Nat.le_trans I.ok.above (Nat.le_of_lt I.lt)
theorem Inv.nofs (I : Inv X pins σ H s) {a : Addr} (h : s.heap.objs.size ≤ a) : a ∉ X.fs := fun hb => by
  obtain ⟨_, o, ho, _⟩ := I.ok.funs.mem hb
  exact absurd (Nat.lt_of_lt_of_le (Heap.lt_size ho) (Nat.le_trans I.sz h)) (Nat.lt_irrefl _)
theorem Inv.cne (I : Inv X pins σ H s) : ∀ x c, X.env.cells.lookup x = some c → c ≠ X.env.locals := fun x c e z => by
  obtain ⟨v, o, ho, hd⟩ := I.cell x c e
  obtain ⟨m, ⟨o', es, ep, ho', hd', _⟩, _⟩ := I.loc
  rw [z, ho'] at ho; cases ho; rw [hd'] at hd; cases hd
theorem Inv.funs (I : Inv X pins σ H s) : s.heap.FunFrames X.base X.outer := by
  have all : ∀ (l : List Env), (∀ b ∈ frs l, b ∈ X.fs) → X.s₀.heap.FunFrames X.base l → s.heap.FunFrames X.base l := by
    intro l
    induction l with
    | nil => intro _ _; trivial
    | cons env r ih =>
      intro hs hl
      obtain ⟨hk, ⟨L, o, hf, hn, ho, hd⟩, hr⟩ := hl
      have hL : L ∈ X.fs := hs L (by unfold frs; rw [List.filterMap_cons, hf]; exact List.mem_cons_self)
      obtain ⟨sl, e⟩ := I.base.slot L o ho (I.ok.frf L hL) hL fun z => I.ok.exfs L z hL
      exact ⟨hk, ⟨L, _, hf, hn, e, hd⟩, ih (fun b hb => hs b (by unfold frs; rw [List.filterMap_cons, hf]; exact List.mem_cons_of_mem _ hb)) hr⟩
  exact all X.outer (fun _ hb => hb) I.ok.funs

theorem Inv.stack (I : Inv X pins σ H s) : s.heap.FunFrames X.base X.stack := by
  rcases I.ok.stk with e | ⟨e, hf⟩
  · rw [e]; exact I.funs
  · rw [e]
    obtain ⟨m, hn, _⟩ := I.loc
    refine .cons (by rw [I.ok.kind]; decide) hf hn ?_ I.funs
    exact Heap.get?_none_of_le (Nat.le_trans I.ok.bsz I.ok.above)
theorem Inv.stkSub (I : Inv X pins σ H s) : ∀ b ∈ frs X.stack, b ∈ X.env.locals :: X.fs := fun b hb => by
  rcases I.ok.stk with e | ⟨e, hf⟩
  · rw [e] at hb; exact List.mem_cons_of_mem _ hb
  · rw [e] at hb
    unfold frs at hb
    rw [List.filterMap_cons, hf] at hb
    exact hb
theorem Inv.stkFree (I : Inv X pins σ H s) : ∀ b ∈ frs X.stack, H b = none := fun b hb => by
  rcases List.mem_cons.mp (I.stkSub b hb) with e | hb
  · rw [e]; exact I.free
  · obtain ⟨_, o, ho, _⟩ := I.ok.funs.mem hb
    exact I.base.free b o ho (I.ok.frf b hb) fun z => I.ok.exfs b z hb

theorem Inv.step {g' : Array GenState} {t' : Nat} {d' : Drawn} {ch : List Addr} (I : Inv X pins σ H s)
    (hch : ∀ b ∈ ch, (b ∈ X.ex ∨ X.s₀.heap.objs.size ≤ b) ∧ b ≠ X.env.locals ∧ (∀ x c, X.env.cells.lookup x = some c → c ≠ b) ∧ ∀ p ∈ X.pn ++ pins, p.1 ≠ b)
    (keep : ∀ b o, b ≠ X.env.locals → b ∉ X.fs → b ∉ ch → s.heap.get? b = some o → H b = none → h'.get? b = some o)
    (slot : ∀ b o, b ≠ X.env.locals → b ∈ X.fs → b ∉ ch → s.heap.get? b = some o → H b = none → ∃ sl, h'.get? b = some { o with slots := sl }) (free : ∀ b o, b ∉ ch → s.heap.get? b = some o → H b = none → H' b = none)
    (there : ∀ b o, b ∉ ch → s.heap.get? b = some o → ∃ o', h'.get? b = some o')
    (tups : ∀ b xs, H b = some (.tup xs) → H' b = some (.tup xs)) (frzs : ∀ b o u, H b = some (.frz o u) → H' b = some (.frz o u)) (tbls : ∀ b ps, H b = some (.tbl ps) → ∃ more, H' b = some (.tbl (ps ++ more)))
    (ns : ∀ m, s.heap.Ns X.env.locals m → h'.Ns X.env.locals m) (hok : HOk X.prog X.w H' h') (hg : AllBare g') :
    Inv X pins σ H' { s with heap := h', gens := g', drawn := d', toks := t' } := by
  have neL : ∀ b o, X.s₀.heap.get? b = some o → b ≠ X.env.locals := fun b o e => Nat.ne_of_lt (Nat.lt_of_lt_of_le (Heap.lt_size e) I.ok.above)
  have neC : ∀ b o, X.s₀.heap.get? b = some o → b ∉ X.ex → b ∉ ch := fun b o e hx hb => by
    rcases (hch b hb).1 with z | z
    · exact hx z
    · exact absurd (Nat.lt_of_lt_of_le (Heap.lt_size e) z) (Nat.lt_irrefl _)
  have cellK : ∀ x c, X.env.cells.lookup x = some c → ∀ v, s.heap.IsCell c v → h'.IsCell c v := fun x c e v ⟨o, ho, hd⟩ => by
    have nch : c ∉ ch := fun z => (hch c z).2.2.1 x c e rfl
    by_cases hc : c ∈ X.fs
    · obtain ⟨sl, q⟩ := slot c o (I.cne x c e) hc nch ho (I.freeC x c e)
      exact ⟨_, q, hd⟩
    · exact ⟨o, keep c o (I.cne x c e) hc nch ho (I.freeC x c e), hd⟩
  refine ⟨I.ok, I.os, hg, ⟨fun b o e n hb hx => ?_, fun b o e n hb hx => ?_, fun b o e n hx => ?_, fun b o e hx => ?_, fun b xs e => tups b xs (I.base.tups b xs e), fun b o xs e => frzs b o xs (I.base.frzs b o xs e), fun b ps e => ?_⟩, ?_, fun x c e => ?_, ?_, fun x c e => ?_, fun p hp => ?_, hok, I.len⟩
  · exact keep b o (neL b o e) hb (neC b o e hx) (I.base.keep b o e n hb hx) (I.base.free b o e n hx)
  · obtain ⟨sl, e1⟩ := I.base.slot b o e n hb hx
    obtain ⟨sl', e2⟩ := slot b _ (neL b o e) hb (neC b o e hx) e1 (I.base.free b o e n hx)
    exact ⟨sl', e2⟩
  · obtain ⟨o', e1⟩ := I.base.there b o e hx
    exact free b o' (neC b o e hx) e1 (I.base.free b o e n hx)
  · obtain ⟨o', e1⟩ := I.base.there b o e hx
    exact there b o' (neC b o e hx) e1
  · obtain ⟨m1, e1⟩ := I.base.tbls b ps e
    obtain ⟨m2, e2⟩ := tbls b _ e1
    exact ⟨m1 ++ m2, by rw [e2, Array.append_assoc]⟩
  · obtain ⟨m, hn, hl⟩ := I.loc
    refine ⟨m, ns m hn, fun i x v e1 e2 e3 => ?_⟩
    obtain ⟨u, r, l⟩ := hl i x v e1 e2 e3
    refine ⟨u, r, ?_⟩
    rcases l with l | ⟨k, c, e, z⟩
    · exact .inl l
    · exact .inr ⟨k, c, e, cellK x c e _ z⟩
  · obtain ⟨v, z⟩ := I.cell x c e
    exact ⟨v, cellK x c e v z⟩
  · obtain ⟨m, ⟨o, _, _, ho, _⟩, _⟩ := I.loc
    exact free _ o (fun z => (hch _ z).2.1 rfl) ho I.free
  · obtain ⟨v, o, ho, hd⟩ := I.cell x c e
    exact free c o (fun z => (hch c z).2.2.1 x c e rfl) ho (I.freeC x c e)
  · obtain ⟨e, n, ne, nf, d⟩ := I.pin p hp
    have nch : p.1 ∉ ch := fun z => (hch p.1 z).2.2.2 p hp rfl
    exact ⟨keep p.1 p.2 ne nf nch e n, free p.1 p.2 nch e n, ne, nf, d⟩
theorem Inv.un {t' : Nat} (I : Inv X pins σ H s) (u : Un X.fs [] H H' s.heap h') (hok : HOk X.prog X.w H' h') : Inv X pins σ H' { s with heap := h', toks := t' } := by
  obtain ⟨m, ⟨o, es, ep, ho, r⟩, _⟩ := id I.loc
  obtain ⟨sl, hL⟩ := u.any ho I.free (by simp)
  exact I.step (g' := s.gens) (d' := s.drawn) (ch := []) (fun _ z => nomatch z) (fun b o _ hb _ e n => u.keep b o e n hb (by simp)) (fun b o _ hb _ e n => u.slot b o e n hb (by simp)) (fun b o _ e n => u.free b o e n (by simp)) (fun b o _ e => u.there b o e (by simp)) u.tups u.frzs u.tbls (fun m' hm => by
    obtain ⟨o', es', ep', ho', r'⟩ := hm
    rw [ho] at ho'; cases ho'
    exact ⟨_, es', ep', hL, r'⟩) hok I.bare
theorem Inv.call {g' : Array GenState} {t' : Nat} {d' : Drawn} {ch : List Addr} (I : Inv X pins σ H s) (u : Un (frs X.stack) ch H H' s.heap h') (hok : HOk X.prog X.w H' h') (hg : AllBare g')
    (hch : ∀ b ∈ ch, (b ∈ X.ex ∨ X.s₀.heap.objs.size ≤ b) ∧ b ≠ X.env.locals ∧ (∀ x c, X.env.cells.lookup x = some c → c ≠ b) ∧ ∀ p ∈ X.pn ++ pins, p.1 ≠ b) :
    Inv X pins σ H' { s with heap := h', gens := g', drawn := d', toks := t' } := by
  obtain ⟨m, ⟨o, es, ep, ho, r⟩, _⟩ := id I.loc
  obtain ⟨sl, hL⟩ := u.any ho I.free fun z => (hch _ z).2.1 rfl
  exact I.step (ch := ch) hch (fun b o hL hb hc e n => u.keep b o e n (fun z => (List.mem_cons.mp (I.stkSub b z)).elim hL hb) hc) (fun b o _ _ hc e n => u.any e n hc) (fun b o hc e n => u.free b o e n hc) (fun b o hc e => u.there b o e hc) u.tups u.frzs u.tbls (fun m' hm => by
    obtain ⟨o', es', ep', ho', r'⟩ := hm
    rw [ho] at ho'; cases ho'
    exact ⟨_, es', ep', hL, r'⟩) hok hg
theorem Inv.turned {t' : Nat} {it : Addr} (I : Inv X pins σ H s) (k : ∀ b o, b ≠ it → s.heap.get? b = some o → h'.get? b = some o) (hn : H it = none) (hL : it ≠ X.env.locals)
    (h1 : it ∈ X.ex ∨ X.s₀.heap.objs.size ≤ it) (h2 : ∀ x c, X.env.cells.lookup x = some c → c ≠ it) (h3 : ∀ p ∈ X.pn ++ pins, p.1 ≠ it) : Inv X pins σ H { s with heap := h', toks := t' } := by
  have nit : ∀ b u, H b = some u → b ≠ it := fun b u e z => by rw [z, hn] at e; cases e
  refine I.step (g' := s.gens) (d' := s.drawn) (ch := [it]) (fun b hb => ?_) (fun b o _ _ hc e _ => k b o (fun z => hc (by simp [z])) e) (fun b o _ _ hc e _ => ⟨o.slots, k b o (fun z => hc (by simp [z])) e⟩) (fun _ _ _ _ n => n)
    (fun b o hc e => ⟨o, k b o (fun z => hc (by simp [z])) e⟩) (fun _ _ e => e) (fun _ _ _ e => e) (fun b ps e => ⟨#[], by rw [e]; simp⟩) (fun m hm => ?_) (fun b u e => ?_) I.bare
  · have e : b = it := by simpa using hb
    subst e
    exact ⟨h1, hL, h2, h3⟩
  · obtain ⟨o, es, ep, ho, r⟩ := hm
    exact ⟨o, es, ep, k _ o (Ne.symm hL) ho, r⟩
  · refine (I.hok b u e).stay (fun c v hc q => k c v ?_ q) (fun _ q => q) fun _ _ q => q
    rcases hc with z | z
    · rw [z]; exact nit b u e
    · exact nit c _ z
theorem Inv.tok (I : Inv X pins σ H s) (t : Nat) : Inv X pins σ H { s with toks := t } := I.un (h' := s.heap) (t' := t) Un.refl I.hok
theorem Inv.kept {t' : Nat} (I : Inv X pins σ H s) (k : ∀ b u, s.heap.get? b = some u → h'.get? b = some u) : Inv X pins σ H { s with heap := h', toks := t' } := I.un (Un.kept k) (I.hok.kept k)
theorem Inv.laid {a : Addr} {o : HO} {t' : Nat} (I : Inv X pins σ H s) (k : ∀ b u, s.heap.get? b = some u → h'.get? b = some u) (hp : s.heap.objs.size ≤ a) (new : ObjOk X.prog X.w (upd H a o) h' a o) :
    Inv X pins σ (upd H a o) { s with heap := h', toks := t' } := I.un (Un.laid k hp (I.hok.fresh hp)) (I.hok.laid k hp new)
theorem Inv.write {x e : Addr} {o : HO} {t' : Nat} (I : Inv X pins σ H s) (mu : Mut (H x)) (he : e = x ∨ H e = some (.own x)) (k : ∀ b u, b ≠ e → s.heap.get? b = some u → h'.get? b = some u) (heo : ∃ u, h'.get? e = some u)
    (new : ObjOk X.prog X.w (upd H x o) h' x o) : Inv X pins σ (upd H x o) { s with heap := h', toks := t' } := I.un (Un.write mu he k heo) (I.hok.write mu he k heo new)
theorem Inv.weak {σ' : List (Option V)} (I : Inv X pins σ H s) (hl : σ'.length = σ.length) (w : ∀ (i : Nat) v, σ'[i]? = some (some v) → σ[i]? = some (some v)) : Inv X pins σ' H s :=
  ⟨I.ok, I.os, I.bare, I.base, let ⟨m, hn, hl'⟩ := I.loc; ⟨m, hn, fun i x v e1 e2 e3 => hl' i x v e1 (w i v e2) e3⟩, I.cell, I.free, I.freeC, I.pin, I.hok, hl.trans I.len⟩
theorem Inv.pins_of {pins' : List (Addr × Obj)} (I : Inv X pins σ H s) (h : ∀ p ∈ pins', s.heap.get? p.1 = some p.2 ∧ H p.1 = none ∧ p.1 ≠ X.env.locals ∧ p.1 ∉ X.fs ∧ ∀ v, p.2.data ≠ .cell v) : Inv X pins' σ H s :=
  ⟨I.ok, I.os, I.bare, I.base, I.loc, I.cell, I.free, I.freeC, fun p hp => (List.mem_append.mp hp).elim (fun z => I.pin p (List.mem_append_left _ z)) (h p), I.hok, I.len⟩

theorem nodup_ix {N : List Str} (hN : N.Nodup) {i j : Nat} {x : Str} (a : N[i]? = some x) (b : N[j]? = some x) : i = j := by
  obtain ⟨h1, e1⟩ := List.getElem?_eq_some_iff.mp a
  obtain ⟨h2, e2⟩ := List.getElem?_eq_some_iff.mp b
  exact (List.getElem_inj hN).mp (e1.trans e2.symm)

theorem store_ok2 {M : Model} {A : Around} {E : Value → Shared → Prop} {i : Nat} {x : Str} {v : V} {u : Value} {Q : Unit → Shared → Prop} (I : Inv X pins σ H s) (hN : X.N.Nodup) (hi : X.N[i]? = some x) (hx : Loc X.env.scope x) (r : RelV v u)
    (h : ∀ s', Inv X pins (σ.set i (some v)) H s' → (∃ a, Heap.SameBut a s.heap s'.heap ∧ (a = X.env.locals ∨ X.env.cells.lookup x = some a)) → Q () s') (hf : X.fn x = true ∨ X.env.scope.names.lookup x = some .local := by first | exact .inl rfl | exact .inr rfl | assumption) : wpAny M A (storeName X.env x u) Q E s := by
  obtain ⟨m, hn, hl⟩ := id I.loc
  have hcls : (X.env.scope.kind == .class || (X.env.scope.kind == .module && X.env.locals != X.env.globals)) = false := by rw [I.ok.kind]; rfl
  have hiσ : i < σ.length := by rw [I.len]; exact (List.getElem?_eq_some_iff.mp hi).1
  have cne := I.cne
  have tracked : ∀ {a : Addr} {h' : Heap}, (∃ o, s.heap.get? a = some o ∧ H a = none) → Heap.SameBut a s.heap h' → HOk X.prog X.w H h' := fun {a h'} ha hs b ob e => by
    obtain ⟨_, _, hfree⟩ := ha
    refine (I.hok b ob e).stay (fun c w' hc q => (hs.2 c ?_).trans q) (fun _ q => q) fun _ _ q => q
    rintro rfl
    rcases hc with rfl | hc
    · rw [hfree] at e; cases e
    · rw [hfree] at hc; cases hc
  rcases hx with hk | hk
  · refine wpAny_storeName_local hk hn (fun h' hn' hs => ?_) hcls
    obtain ⟨oL, _, _, hoL, _⟩ := id hn
    refine h _ ⟨I.ok, I.os, I.bare, ⟨fun b o e n hb hx => ?_, fun b o e n hb hx => ?_, I.base.free, fun b o e hx => ?_, I.base.tups, I.base.frzs, I.base.tbls⟩, ⟨_, hn', fun j y v' e1 e2 e3 => ?_⟩, fun y c e => ?_, I.free, I.freeC, fun p hp => ?_, tracked ⟨oL, hoL, I.free⟩ hs, by simpa using I.len⟩ ⟨_, hs, .inl rfl⟩
    · exact (hs.2 b (Nat.ne_of_lt (Nat.lt_of_lt_of_le (Heap.lt_size e) I.ok.above))).trans (I.base.keep b o e n hb hx)
    · obtain ⟨sl, e1⟩ := I.base.slot b o e n hb hx
      exact ⟨sl, (hs.2 b (Nat.ne_of_lt (Nat.lt_of_lt_of_le (Heap.lt_size e) I.ok.above))).trans e1⟩
    · obtain ⟨o', e1⟩ := I.base.there b o e hx
      exact ⟨o', (hs.2 b (Nat.ne_of_lt (Nat.lt_of_lt_of_le (Heap.lt_size e) I.ok.above))).trans e1⟩
    · by_cases hj : j = i
      · subst hj
        rw [hi] at e1; cases e1
        rw [List.getElem?_set_self hiσ] at e2
        cases e2
        exact ⟨u, r, .inl ⟨hk, by simp⟩⟩
      · rw [List.getElem?_set_ne (Ne.symm hj)] at e2
        obtain ⟨u', r', q⟩ := hl j y v' e1 e2 e3
        refine ⟨u', r', ?_⟩
        rcases q with ⟨k, e⟩ | ⟨k, c, e, z⟩
        · refine .inl ⟨k, ?_⟩
          have : y ≠ x := fun e => hj (nodup_ix hN e1 (e ▸ hi))
          simp [this, e]
        · exact .inr ⟨k, c, e, z.sameBut hs (cne y c e)⟩
    · obtain ⟨w', z⟩ := I.cell y c e
      exact ⟨w', z.sameBut hs (cne y c e)⟩
    · obtain ⟨e, n, ne, nf, d⟩ := I.pin p hp
      exact ⟨(hs.2 p.1 ne).trans e, n, ne, nf, d⟩
  · have hfn : X.fn x = true := by
      rcases hf with z | z
      · exact z
      · rw [z] at hk; cases hk
    obtain ⟨c, hc⟩ := I.ok.has x (.inl hk)
    obtain ⟨w', z⟩ := I.cell x c hc
    refine wpAny_storeName_cell I.ok.kind hk hc z (fun h' hc' hs => ?_)
    obtain ⟨oc, hoc, hocd⟩ := id z
    refine h { s with heap := h' } ⟨I.ok, I.os, I.bare, ⟨fun b o e n hb hx => ?_, fun b o e n hb hx => ?_, I.base.free, fun b o e hx => ?_, I.base.tups, I.base.frzs, I.base.tbls⟩, ⟨m, hn.sameBut hs (Ne.symm (cne x c hc)), fun j y v' e1 e2 e3 => ?_⟩, fun y c' e => ?_, I.free, I.freeC, fun p hp => ?_, tracked ⟨oc, hoc, I.freeC x c hc⟩ hs, by simpa using I.len⟩ ⟨c, hs, .inr hc⟩
    · exact (hs.2 b (Nat.ne_of_lt (Nat.lt_of_lt_of_le (Heap.lt_size e) (I.ok.cab x c hfn hc)))).trans (I.base.keep b o e n hb hx)
    · obtain ⟨sl, e1⟩ := I.base.slot b o e n hb hx
      exact ⟨sl, (hs.2 b (Nat.ne_of_lt (Nat.lt_of_lt_of_le (Heap.lt_size e) (I.ok.cab x c hfn hc)))).trans e1⟩
    · obtain ⟨o', e1⟩ := I.base.there b o e hx
      exact ⟨o', (hs.2 b (Nat.ne_of_lt (Nat.lt_of_lt_of_le (Heap.lt_size e) (I.ok.cab x c hfn hc)))).trans e1⟩
    · by_cases hj : j = i
      · subst hj
        rw [hi] at e1; cases e1
        rw [List.getElem?_set_self hiσ] at e2
        cases e2
        exact ⟨u, r, .inr ⟨.inl hk, c, hc, hc'⟩⟩
      · rw [List.getElem?_set_ne (Ne.symm hj)] at e2
        obtain ⟨u', r', q⟩ := hl j y v' e1 e2 e3
        refine ⟨u', r', ?_⟩
        rcases q with q | ⟨k, c', e, z'⟩
        · exact .inl q
        · refine .inr ⟨k, c', e, z'.sameBut hs ?_⟩
          rintro rfl
          exact hj (nodup_ix hN e1 (I.ok.inj _ _ _ e hc ▸ hi))
    · by_cases hcc : c' = c
      · subst hcc; exact ⟨_, hc'⟩
      · obtain ⟨w2, z2⟩ := I.cell y c' e
        exact ⟨w2, z2.sameBut hs hcc⟩
    · obtain ⟨e, n, ne, nf, d⟩ := I.pin p hp
      refine ⟨(hs.2 p.1 ?_).trans e, n, ne, nf, d⟩
      intro q
      rw [q, hoc] at e
      have q' : oc = p.2 := Option.some.inj e
      exact d w' (by rw [← q']; exact hocd)
theorem store_ok {M : Model} {A : Around} {E : Value → Shared → Prop} {i : Nat} {x : Str} {v : V} {u : Value} {Q : Unit → Shared → Prop} (I : Inv X pins σ H s) (hN : X.N.Nodup) (hi : X.N[i]? = some x) (hx : Loc X.env.scope x) (r : RelV v u)
    (h : ∀ s', Inv X pins (σ.set i (some v)) H s' → Q () s') (hf : X.fn x = true ∨ X.env.scope.names.lookup x = some .local := by first | exact .inl rfl | exact .inr rfl | assumption) : wpAny M A (storeName X.env x u) Q E s :=
  store_ok2 I hN hi hx r (fun s' I' _ => h s' I') hf
theorem Inv.call' {s' : Shared} {ch : List Addr} (I : Inv X pins σ H s) (ho : s'.os = s.os) (u : Un (frs X.stack) ch H H' s.heap s'.heap) (hok : HOk X.prog X.w H' s'.heap) (hg : AllBare s'.gens)
    (hch : ∀ b ∈ ch, (b ∈ X.ex ∨ X.s₀.heap.objs.size ≤ b) ∧ b ≠ X.env.locals ∧ (∀ x c, X.env.cells.lookup x = some c → c ≠ b) ∧ ∀ p ∈ X.pn ++ pins, p.1 ≠ b) : Inv X pins σ H' s' := by
  obtain ⟨h', g', d', t', o'⟩ := s'
  have e : o' = s.os := ho
  subst e
  exact I.call (g' := g') (t' := t') (d' := d') u hok hg hch
end

noncomputable abbrev XK := Value → Option Addr → Hp → Prop
noncomputable abbrev St := List (Option V)
noncomputable abbrev VK := V → Hp → Prop
noncomputable abbrev TE := St → Hp → VK → Prop
noncomputable abbrev TT := St → Hp → (Bool → Hp → Prop) → Prop
noncomputable abbrev TA := St → Hp → (List V → Hp → Prop) → Prop
structure Ends where
  nx : St → Hp → Prop
  rt : VK
  bk : St → Hp → Prop := fun _ _ => False
  ct : St → Hp → Prop := fun _ _ => False
noncomputable abbrev TS := Ends → St → Hp → Prop

noncomputable def EP (X : Cx) (pins : List (Addr × Obj)) (σ : St) (Q : VK) (u : Value) (s' : Shared) : Prop := ∃ v H', Inv X pins σ H' s' ∧ RelV v u ∧ Q v H'
noncomputable def TP (X : Cx) (pins : List (Addr × Obj)) (σ : St) (Q : Bool → Hp → Prop) (b : Bool) (s' : Shared) : Prop := ∃ H', Inv X pins σ H' s' ∧ Q b H'
noncomputable def AP (X : Cx) (pins : List (Addr × Obj)) (σ : St) (Q : List V → Hp → Prop) (us : List Value) (s' : Shared) : Prop := ∃ vs H', Inv X pins σ H' s' ∧ Vals vs us ∧ Q vs H'
noncomputable def SP (X : Cx) (pins : List (Addr × Obj)) (D : Ends) (f : Flow) (s' : Shared) : Prop :=
  match f with
  | .next => ∃ σ' H', Inv X pins σ' H' s' ∧ D.nx σ' H'
  | .brk => ∃ σ' H', Inv X pins σ' H' s' ∧ D.bk σ' H'
  | .cont => ∃ σ' H', Inv X pins σ' H' s' ∧ D.ct σ' H'
  | .ret u => ∃ v σ' H', Inv X pins σ' H' s' ∧ RelV v u ∧ D.rt v H'

noncomputable def PE (X : Cx) (e : Expr) (t : TE) : Prop :=
  ∀ (pins : List (Addr × Obj)) (s : Shared) (σ : St) (H : Hp) (Q : VK), Inv X pins σ H s → t σ H Q → wpAny (model X.prog X.w) X.A (eval e X.env) (EP X pins σ Q) X.xe s
noncomputable def PT (X : Cx) (e : Expr) (t : TT) : Prop :=
  ∀ (pins : List (Addr × Obj)) (s : Shared) (σ : St) (H : Hp) (Q : Bool → Hp → Prop), Inv X pins σ H s → t σ H Q → wpAny (model X.prog X.w) X.A (isTrue e X.env (eval e X.env)) (TP X pins σ Q) X.xe s
noncomputable def PW (X : Cx) (e : Expr) (t : TT) : Prop :=
  ∀ (whole : Sem Value) (pins : List (Addr × Obj)) (s : Shared) (σ : St) (H : Hp) (Q : Bool → Hp → Prop), Inv X pins σ H s → t σ H Q → wpAny (model X.prog X.w) X.A (isTrue e X.env whole) (TP X pins σ Q) X.xe s
theorem PW.pt {X : Cx} {e : Expr} {t : TT} (h : PW X e t) : PT X e t := h _
noncomputable def PA (X : Cx) (es : List Expr) (t : TA) : Prop :=
  ∀ (pos : Pos) (pins : List (Addr × Obj)) (s : Shared) (σ : St) (H : Hp) (Q : List V → Hp → Prop), Inv X pins σ H s → t σ H Q → wpAny (model X.prog X.w) X.A (spliced (backTo pos (starEach es X.env))) (AP X pins σ Q) X.xe s
noncomputable def PS (X : Cx) (st : Stmt) (t : TS) : Prop :=
  ∀ (pins : List (Addr × Obj)) (s : Shared) (σ : St) (H : Hp) (D : Ends), Inv X pins σ H s → t D σ H → wpAny (model X.prog X.w) X.A (exec st X.env) (SP X pins D) X.xe s
noncomputable def PSs (X : Cx) (st : List Stmt) (t : TS) : Prop :=
  ∀ (pins : List (Addr × Obj)) (s : Shared) (σ : St) (H : Hp) (D : Ends), Inv X pins σ H s → t D σ H → wpAny (model X.prog X.w) X.A (execs st X.env) (SP X pins D) X.xe s
theorem thn {α : Type} {t : Sem α} {Q Q' : α → Shared → Prop} {M : Model} {A : Around} {E : Value → Shared → Prop} {s : Shared} (h : wpAny M A t Q E s) (hQ : ∀ a s, Q a s → Q' a s) : wpAny M A t Q' E s := wpAny_mono h hQ fun _ _ x => x
end L2

namespace L2
open PySem PySem.Spec PyProof.Rows
section
variable {X : Cx}

noncomputable def tVar (i : Nat) : TE := fun σ H Q => ∃ v, σ[i]? = some (some v) ∧ Q v H
noncomputable def tC (v : V) : TE := fun _ H Q => Q v H
theorem pe_var {i : Nat} {x : Str} {pos : Pos} (hN : X.N[i]? = some x) (hv : Vis X.env.scope x) (hd : (x == ("__debug__" : Str)) = false := by decide) (hcd : (x == ("__classdict__" : Str)) = false := by decide) : PE X (.Name x pos) (tVar i) := by
  intro pins s σ H Q I h
  obtain ⟨v, e, h⟩ := h
  obtain ⟨m, hn, hl⟩ := I.loc
  obtain ⟨u, r, l⟩ := hl i x v hN e hv
  have fin : EP X pins σ Q u s := ⟨v, H, I, r, h⟩
  rcases l with ⟨hk, hm⟩ | ⟨hk, c, hc, hcell⟩
  · exact wpAny_Name (wpAny_loadName_local I.ok.kind hk hn hm fin) hd
  · rcases hk with hk | hk
    · exact wpAny_Name (wpAny_loadName_cell I.ok.kind hk hc hcell fin) hd
    · exact wpAny_Name (wpAny_loadName_free I.ok.kind hk hc hcell fin hcd) hd
theorem pe_int {i j pos} : PE X (.Constant (.int i) j pos) (tC (.int i)) := fun _ _ _ H _ I h => wpAny_Constant_int ⟨.int i, H, I.tok _, ⟨_, rfl⟩, h⟩
theorem pe_bl {b j pos} : PE X (.Constant (.bool b) j pos) (tC (.bl b)) := fun _ _ _ H _ I h => Constant_bool ⟨.bl b, H, I, rfl, h⟩
theorem pe_non {j pos} : PE X (.Constant .none j pos) (tC .non) := fun _ _ _ H _ I h => Constant_none ⟨.non, H, I, rfl, h⟩
noncomputable def Gl (X : Cx) (x : Str) : Prop := X.env.kindOf x = some .globalImplicit
theorem ld_glob {E : Value → Shared → Prop} {pins : List (Addr × Obj)} {s : Shared} {σ : St} {H : Hp} {x : Str} {u : Value} {pos : Pos} {Q : Value → Shared → Prop} (I : Inv X pins σ H s) (hg : Gl X x) (hm : X.mg x = some u) (h : Q u s)
    (hd : (x == ("__debug__" : Str)) = false := by decide) : wpAny (model X.prog X.w) X.A (eval (.Name x pos) X.env) Q E s :=
  Calls.Name_function_global I.ok.kind hg (Calls.loadGlobal_global (by rw [I.ok.glob]; exact I.mod.glob.keeps I.bk) hm h) hd
theorem ld_blt {E : Value → Shared → Prop} {pins : List (Addr × Obj)} {s : Shared} {σ : St} {H : Hp} {x : Str} {u : Value} {pos : Pos} {Q : Value → Shared → Prop} (I : Inv X pins σ H s) (hg : Gl X x) (hm : X.mg x = none) (hv : bootBuiltins x = some u) (h : Q u s)
    (hn : x ≠ "__name__" := by decide) (hd : (x == ("__debug__" : Str)) = false := by decide) : wpAny (model X.prog X.w) X.A (eval (.Name x pos) X.env) Q E s := by
  obtain ⟨mb, h1, h2⟩ := I.mod.blt
  exact Calls.Name_function_global I.ok.kind hg (Calls.loadGlobal_builtin (by rw [I.ok.glob]; exact I.mod.glob.keeps I.bk) hm (by rw [I.ok.blt]; exact h1.keeps I.bk) ((h2 x hn).trans hv) h) hd
theorem pe_bltn {x : Str} {v : V} {u : Value} {pos : Pos} (hg : Gl X x) (hm : X.mg x = none) (hv : bootBuiltins x = some u) (r : RelV v u) (hn : x ≠ "__name__" := by decide) (hd : (x == ("__debug__" : Str)) = false := by decide) : PE X (.Name x pos) (tC v) :=
  fun _ _ _ H _ I h => ld_blt I hg hm hv ⟨v, H, I, r, h⟩ hn hd

variable {a b : Expr} {ta tb : TE} {pos : Pos}
variable {tA tB' : TT} {rest : List Expr}
noncomputable def tOr (t u : TT) : TT := fun σ H Q => t σ H fun c H1 => if c = true then Q true H1 else u σ H1 Q
noncomputable def tNot (t : TT) : TT := fun σ H Q => t σ H fun c H1 => Q (!c) H1
theorem pw_or1 (ha : PT X a tA) : PW X (.BoolOp .Or [a] pos) tA := by
  intro wh pins s σ H Q I h
  refine isTrue_or (thn (ha pins s σ H Q I h) fun c s1 e => ?_)
  cases c with
  | false => exact isTrue_or_nil e
  | true => exact e
theorem pw_or (ha : PT X a tA) (hb : PW X (.BoolOp .Or (b :: rest) pos) tB') : PW X (.BoolOp .Or (a :: b :: rest) pos) (tOr tA tB') := by
  intro wh pins s σ H Q I h
  refine isTrue_or (thn (ha pins s σ H _ I h) fun c s1 ⟨H1, I1, q1⟩ => ?_)
  cases c with
  | true => exact ⟨H1, I1, q1⟩
  | false => exact hb wh pins s1 σ H1 Q I1 q1
theorem pt_not (ha : PT X a tA) : PT X (.UnaryOp .Not a pos) (tNot tA) := by
  intro pins s σ H Q I h
  exact isTrue_not (ha pins s σ H (fun c H1 => Q (!c) H1) I h)
noncomputable def tAndV (ta tb : TE) : TE := fun σ H Q => ta σ H fun x H1 => ∃ c, x = .bl c ∧ if c = true then tb σ H1 Q else Q (.bl false) H1
noncomputable def tNotV (ta : TE) : TE := fun σ H Q => ta σ H fun x H1 => ∃ c, x = .bl c ∧ Q (.bl (!c)) H1
theorem pe_one {op} {t : TE} (h : PE X a t) : PE X (.BoolOp op [a] pos) t := fun pins s σ H Q I hw => BoolOp_one (h pins s σ H Q I hw)
theorem pe_and (ha : PE X a ta) (hb : PE X (.BoolOp .And (b :: rest) pos) tb) : PE X (.BoolOp .And (a :: b :: rest) pos) (tAndV ta tb) := by
  intro pins s σ H Q I h
  refine BoolOp_and (thn (ha pins s σ H _ I h) fun v s1 ⟨x, H1, I1, r1, q1⟩ => ?_)
  obtain ⟨c, rfl, q1⟩ := q1
  cases r1
  refine wpAny_truthy_bool ?_
  cases c with
  | true => exact hb pins s1 σ H1 Q I1 q1
  | false => exact ⟨.bl false, H1, I1, rfl, q1⟩
theorem pe_not (ha : PE X a ta) : PE X (.UnaryOp .Not a pos) (tNotV ta) := by
  intro pins s σ H Q I h
  refine UnaryOp_ (thn (ha pins s σ H _ I h) fun v s1 ⟨x, H1, I1, r1, q1⟩ => ?_)
  obtain ⟨c, rfl, q1⟩ := q1
  cases r1
  exact not_of (wpAny_truthy_bool ⟨.bl (!c), H1, I1, rfl, q1⟩)
end
end L2

namespace L2
open PySem PySem.Spec PyProof.Rows

noncomputable def SqL (K : PySem.W.Frag) (H : Hp) (a : Addr) (xs : List V) : Prop :=
  Rd H a (.lst xs) ∨
    ∃ (o : Obj) (its : Array Value) (n : Nat), K.lookup a = some o ∧ o.cls = .type "list" ∧ o.dict = none ∧ o.data = .seq its n ∧ its.size ≤ sizeLine ∧ Vals xs its.toList
noncomputable def SqT (K : PySem.W.Frag) (H : Hp) (a : Addr) (xs : List V) : Prop :=
  Rd H a (.tup xs) ∨
    ∃ (o : Obj) (its : Array Value) (n : Nat), K.lookup a = some o ∧ o.cls = .type "tuple" ∧ o.data = .seq its n ∧ its.size ≤ sizeLine ∧ Vals xs its.toList
noncomputable def absV : Value → Option V
  | .none => some .non
  | .bool b => some (.bl b)
  | .int i _ => some (.int i)
  | .str x _ => some (.str x)
  | .bytes b _ => some (.byt b)
  | .float b _ => some (.flt b)
  | .ref a => some (.ref a)
  | .type n => some (.ty n)
  | _ => none
theorem RelV.abs {x : V} {u : Value} (r : RelV x u) : absV u = some x := by
  cases x with
  | non => cases r; rfl
  | bl _ => cases r; rfl
  | int _ => obtain ⟨t, rfl⟩ := r; rfl
  | str _ => obtain ⟨t, rfl⟩ := r; rfl
  | byt _ => obtain ⟨t, rfl⟩ := r; rfl
  | flt _ => obtain ⟨t, rfl⟩ := r; rfl
  | ref _ => cases r; rfl
  | ty _ => cases r; rfl
theorem RelV.inj {x y : V} {u : Value} (r : RelV x u) (q : RelV y u) : x = y := Option.some.inj (r.abs.symm.trans q.abs)
theorem Vals.inj : ∀ {xs ys : List V} {us : List Value}, Vals xs us → Vals ys us → xs = ys
  | _, _, _, .nil, .nil => rfl
  | _, _, _, .cons r t, .cons r' t' => by rw [r.inj r', Vals.inj t t']
section
variable {X : Cx} {pins : List (Addr × Obj)} {σ : St} {H : Hp} {s : Shared} {a : Addr} {xs ys : List V}
theorem SqL.of {K : PySem.W.Frag} (h : H a = some (.lst xs)) : SqL K H a xs := .inl (.inl h)
theorem SqT.of {K : PySem.W.Frag} (h : H a = some (.tup xs)) : SqT K H a xs := .inl (.inl h)
theorem Inv.list (I : Inv X pins σ H s) (h : SqL X.K H a xs) : ∃ its : List Value, Vals xs its ∧ PlainL s.heap a its.toArray ∧ xs.length ≤ sizeLine := by
  rcases h with h | ⟨o, its, n, hk, hc, hd, hs, hz, r⟩
  · obtain ⟨z, its, n, r, e⟩ := h.ok I.hok
    exact ⟨its, r, ⟨_, n, e, rfl, rfl, rfl⟩, z⟩
  · refine ⟨its.toList, r, ⟨o, n, I.kIn a o hk, hc, hd, by simpa using hs⟩, ?_⟩
    have e := r.length
    simp only [Array.length_toList] at e
    omega
theorem Inv.tuple (I : Inv X pins σ H s) (h : SqT X.K H a xs) : ∃ its : List Value, Vals xs its ∧ IsTup s.heap a its.toArray ∧ xs.length ≤ sizeLine := by
  rcases h with h | ⟨o, its, n, hk, hc, hs, hz, r⟩
  · obtain ⟨z, its, r, p⟩ := h.ok I.hok
    exact ⟨its, r, p, z⟩
  · refine ⟨its.toList, r, ⟨o, I.kIn a o hk, hc, n, by simpa using hs⟩, ?_⟩
    have e := r.length
    simp only [Array.length_toList] at e
    omega
theorem Inv.list_inj (I : Inv X pins σ H s) (h : SqL X.K H a xs) (h' : SqL X.K H a ys) : xs = ys := by
  obtain ⟨its, r, ⟨o, n, e, _, _, d⟩, _⟩ := I.list h
  obtain ⟨its', r', ⟨o', n', e', _, _, d'⟩, _⟩ := I.list h'
  rw [e] at e'; cases e'
  rw [d] at d'
  injection d' with d1 _
  have : its = its' := by simpa using congrArg Array.toList d1
  subst this
  exact r.inj r'
theorem Inv.tuple_inj (I : Inv X pins σ H s) (h : SqT X.K H a xs) (h' : SqT X.K H a ys) : xs = ys := by
  obtain ⟨its, r, ⟨o, e, _, n, d⟩, _⟩ := I.tuple h
  obtain ⟨its', r', ⟨o', e', _, n', d'⟩, _⟩ := I.tuple h'
  rw [e] at e'; cases e'
  rw [d] at d'
  injection d' with d1 _
  have : its = its' := by simpa using congrArg Array.toList d1
  subst this
  exact r.inj r'
end

noncomputable abbrev Cx.wish (X : Cx) (E : Value → Shared → Prop) : Cx := { X with xe := E }
noncomputable abbrev Cx.nox (X : Cx) : Cx := X.wish fun _ _ => False
theorem Cx.Ok.wish {X : Cx} (ok : X.Ok) (E : Value → Shared → Prop) : (X.wish E).Ok :=
  ⟨ok.mod, ok.kind, ok.glob, ok.blt, ok.above, ok.inj, ok.has, ok.cab, ok.hd, ok.frames, ok.stk, ok.exf, ok.bs, ok.bsz, ok.noex, ok.exfs, ok.funs, ok.frf⟩
theorem Cx.Ok.unwish {X : Cx} {E : Value → Shared → Prop} (ok : (X.wish E).Ok) : X.Ok :=
  ⟨ok.mod, ok.kind, ok.glob, ok.blt, ok.above, ok.inj, ok.has, ok.cab, ok.hd, ok.frames, ok.stk, ok.exf, ok.bs, ok.bsz, ok.noex, ok.exfs, ok.funs, ok.frf⟩
section
variable {X : Cx} {pins : List (Addr × Obj)} {σ : St} {H : Hp} {s : Shared} {E : Value → Shared → Prop}
theorem Inv.wish (I : Inv X pins σ H s) (E : Value → Shared → Prop) : Inv (X.wish E) pins σ H s := ⟨I.ok.wish E, I.os, I.bare, I.base, I.loc, I.cell, I.free, I.freeC, I.pin, I.hok, I.len⟩
theorem Inv.unwish (I : Inv (X.wish E) pins σ H s) : Inv X pins σ H s := ⟨I.ok.unwish, I.os, I.bare, I.base, I.loc, I.cell, I.free, I.freeC, I.pin, I.hok, I.len⟩
theorem SP.unwish {D : Ends} {f : Flow} {s' : Shared} (h : SP (X.wish E) pins D f s') : SP X pins D f s' := by
  cases f with
  | next => obtain ⟨σ', H', I, q⟩ := h; exact ⟨σ', H', I.unwish, q⟩
  | brk => obtain ⟨σ', H', I, q⟩ := h; exact ⟨σ', H', I.unwish, q⟩
  | cont => obtain ⟨σ', H', I, q⟩ := h; exact ⟨σ', H', I.unwish, q⟩
  | ret u => obtain ⟨v, σ', H', I, r, q⟩ := h; exact ⟨v, σ', H', I.unwish, r, q⟩
theorem PE.nox {e : Expr} {t : TE} (h : PE X.nox e t) : PE X e t := fun pins s σ H Q I hw =>
  wpAny_mono (h pins s σ H Q (I.wish _) hw) (fun _ _ ⟨v, H', I', r, q⟩ => ⟨v, H', I'.unwish, r, q⟩) fun _ _ z => False.elim z
theorem PT.nox {e : Expr} {t : TT} (h : PT X.nox e t) : PT X e t := fun pins s σ H Q I hw =>
  wpAny_mono (h pins s σ H Q (I.wish _) hw) (fun _ _ ⟨H', I', q⟩ => ⟨H', I'.unwish, q⟩) fun _ _ z => False.elim z
theorem PSs.nox {st : List Stmt} {t : TS} (h : PSs X.nox st t) : PSs X st t := fun pins s σ H D I hw =>
  wpAny_mono (h pins s σ H D (I.wish _) hw) (fun _ _ q => q.unwish) fun _ _ z => False.elim z
end

section
variable {X : Cx} {st : Stmt} {rest : List Stmt} {t u : TS} {e : Expr} {te : TE} {pos : Pos}
noncomputable def tNext : TS := fun D σ H => D.nx σ H
noncomputable def tSeq (t u : TS) : TS := fun D σ H => t { D with nx := u D } σ H
theorem pss_nil : PSs X [] tNext := fun _ _ σ H _ I h => wpAny_execs_nil ⟨σ, H, I, h⟩
theorem pss_cons (h1 : PS X st t) (h2 : PSs X rest u) : PSs X (st :: rest) (tSeq t u) := by
  intro pins s σ H D I h
  refine wpAny_execs_cons (thn (h1 pins s σ H { D with nx := u D } I h) fun f s1 q => ?_)
  cases f with
  | next =>
    obtain ⟨σ', H', I', q⟩ := q
    exact h2 pins s1 σ' H' D I' q
  | ret v => exact q
  | brk => exact q
  | cont => exact q
theorem pss_one (h1 : PS X st t) : PSs X [st] t := by
  intro pins s σ H D I h
  refine wpAny_execs_cons (thn (h1 pins s σ H D I h) fun f s1 q => ?_)
  cases f with
  | next => exact wpAny_execs_nil q
  | ret v => exact q
  | brk => exact q
  | cont => exact q
theorem Inv.quiet {pins : List (Addr × Obj)} {σ : St} {H : Hp} {s : Shared} (I : Inv X pins σ H s) : interactive X.env = false := by simp [interactive, I.ok.kind]
noncomputable def tDrop (te : TE) : TS := fun D σ H => te σ H fun _ H1 => D.nx σ H1
theorem ps_expr (he : PE X e te) (hs : swapsWith e none pos.line X.env = pure false := by rfl) : PS X (.Expr e pos) (tDrop te) := by
  intro pins s σ H D I h
  exact wpAny_Expr_any (thn (he pins s σ H _ I h) fun v s1 ⟨x, H1, I1, r1, q1⟩ => ⟨σ, H1, I1, q1⟩) I.quiet hs
noncomputable def tRet (te : TE) : TS := fun D σ H => te σ H D.rt
theorem ps_ret (he : PE X e te) : PS X (.Return (some e) pos) (tRet te) := by
  intro pins s σ H D I h
  exact wpAny_Return_some (thn (he pins s σ H _ I h) fun v s1 ⟨x, H1, I1, r1, q1⟩ => ⟨x, σ, H1, I1, r1, q1⟩)
noncomputable def tIfS (c : TT) (t u : TS) : TS := fun D σ H => c σ H fun b H1 => if b = true then t D σ H1 else u D σ H1
theorem ps_if {c : Expr} {a b : List Stmt} {tc : TT} (hc : PT X c tc) (ha : PSs X a t) (hb : PSs X b u) : PS X (.If c a b pos) (tIfS tc t u) := by
  intro pins s σ H D I h
  refine wpAny_If (thn (hc pins s σ H _ I h) fun d s1 ⟨H1, I1, q1⟩ => ?_)
  cases d with
  | true => exact ha pins s1 σ H1 D I1 q1
  | false => exact hb pins s1 σ H1 D I1 q1
end

noncomputable abbrev TG := V → St → Hp → (St → Hp → Prop) → Prop
noncomputable abbrev TGs := List V → St → Hp → (St → Hp → Prop) → Prop
noncomputable def PG (X : Cx) (target : Expr) (t : TG) : Prop :=
  ∀ (pins : List (Addr × Obj)) (s : Shared) (σ : St) (H : Hp) (v : V) (u : Value) (Q : St → Hp → Prop), Inv X pins σ H s → RelV v u → t v σ H Q →
    wpAny (model X.prog X.w) X.A (assign target X.env u) (fun _ s' => ∃ σ' H', Inv X pins σ' H' s' ∧ Q σ' H') X.xe s
noncomputable def PGs (X : Cx) (ts : List Expr) (t : TGs) : Prop :=
  ∀ (pins : List (Addr × Obj)) (s : Shared) (σ : St) (H : Hp) (vs : List V) (us : List Value) (Q : St → Hp → Prop), Inv X pins σ H s → Vals vs us → t vs σ H Q →
    wpAny (model X.prog X.w) X.A (assignInOrder ((assignEach ts X.env).map (·.2)) us) (fun _ s' => ∃ σ' H', Inv X pins σ' H' s' ∧ Q σ' H') X.xe s
section
variable {X : Cx} {pos : Pos}
noncomputable def gName (i : Nat) : TG := fun v σ H Q => Q (σ.set i (some v)) H
theorem pg_name {i : Nat} {x : Str} (hN : X.N.Nodup) (hi : X.N[i]? = some x) (hx : Loc X.env.scope x) (hf : X.fn x = true ∨ X.env.scope.names.lookup x = some .local := by first | exact .inl rfl | exact .inr rfl | assumption) : PG X (.Name x pos) (gName i) := by
  intro pins s σ H v u Q I r h
  exact wpAny_assign_Name (store_ok I hN hi hx r (fun s' I' => ⟨_, H, I', h⟩) hf)
noncomputable def gNil : TGs := fun vs σ H Q => vs = [] ∧ Q σ H
noncomputable def gCons (t : TG) (u : TGs) : TGs := fun vs σ H Q => ∃ v r, vs = v :: r ∧ t v σ H fun σ' H' => u r σ' H' Q
theorem pgs_nil : PGs X [] gNil := by
  intro pins s σ H vs us Q I r h
  obtain ⟨e, h⟩ := h
  subst e
  cases r
  exact assignInOrder_nil ⟨σ, H, I, h⟩
theorem pgs_cons {e : Expr} {es : List Expr} {t : TG} {u : TGs} (h1 : PG X e t) (h2 : PGs X es u)
    (hs : (assignEach (e :: es) X.env).map (·.2) = assign e X.env :: (assignEach es X.env).map (·.2) := by rfl) : PGs X (e :: es) (gCons t u) := by
  intro pins s σ H vs us Q I r h
  obtain ⟨v, vr, e1, h⟩ := h
  subst e1
  cases r with
  | cons r rr =>
    rw [hs]
    refine assignInOrder_cons (thn (h1 pins s σ H _ _ _ I r h) fun _ s1 ⟨σ1, H1, I1, q1⟩ => ?_)
    exact h2 pins s1 σ1 H1 _ _ Q I1 rr q1
noncomputable def gTup (K : PySem.W.Frag) (n : Nat) (t : TGs) : TG := fun v σ H Q => ∃ a xs, v = .ref a ∧ SqT K H a xs ∧ xs.length = n ∧ t xs σ H Q
theorem pg_tup {es : List Expr} {k : Nat} {t : TGs} {n : Nat} (hc : X.calm = true) (h : PGs X es t)
    (hn : (assignEach es X.env).length = n := by rfl) (hst : (assignEach es X.env).findIdx? (·.1) = none := by rfl) : PG X (.Tuple es k pos) (gTup X.K n t) := by
  intro pins s σ H v u Q I r hw
  obtain ⟨a, xs, e1, hq, hl, hw⟩ := hw
  subst e1
  cases r
  obtain ⟨its, rv, ht, hz⟩ := I.tuple hq
  refine assign_Tuple_tuple (I.ok.hd hc) ht (by simp [hn, ← hl, rv.length]) hst fun h' hx => ?_
  have I1 : Inv X pins σ H { s with heap := h' } := I.kept (t' := s.toks) fun b o e => hx b o (Nat.ne_of_lt (Heap.lt_size e)) e
  exact h pins _ σ H xs _ Q I1 (by simpa using rv) hw
noncomputable def tAsg (te : TE) (g : TG) : TS := fun D σ H => te σ H fun x H1 => g x σ H1 D.nx
theorem ps_asg {tg e : Expr} {te : TE} {g : TG} (he : PE X e te) (hg : PG X tg g) (hs : swapsWithSole [tg] e pos.line X.env = pure false := by rfl) (hw : swappedStores [tg] e X.env = pure none := by rfl)
    (h1 : (assignEach [tg] X.env).map (·.2) = [assign tg X.env] := by rfl) : PS X (.Assign [tg] e pos) (tAsg te g) := by
  intro pins s σ H D I h
  refine wpAny_Assign_stores (thn (he pins s σ H _ I h) fun v s1 ⟨x, H1, I1, r1, q1⟩ => ?_) hs hw
  rw [h1]
  exact thn (hg pins s1 σ H1 x v _ I1 r1 q1) fun _ s2 q => q
theorem ps_set {i : Nat} {x : Str} {e : Expr} {te : TE} {pos' : Pos} (hN : X.N.Nodup) (hi : X.N[i]? = some x) (hx : Loc X.env.scope x) (he : PE X e te) (hs : swapsWith e (some (.Name x pos')) pos.line X.env = pure false := by rfl) (hf : X.fn x = true ∨ X.env.scope.names.lookup x = some .local := by first | exact .inl rfl | exact .inr rfl | assumption) :
    PS X (.Assign [.Name x pos'] e pos) (tAsg te (gName i)) := by
  intro pins s σ H D I h
  refine wpAny_Assign_Name (thn (he pins s σ H _ I h) fun v s1 ⟨y, H1, I1, r1, q1⟩ => ?_) hs
  exact store_ok I1 hN hi hx r1 (fun s2 I2 => ⟨_, H1, I2, q1⟩) hf
end

section
variable {X : Cx} {pos : Pos}
noncomputable def tWhile (c : TT) (tb : TS) : TS := fun D σ H => ∃ W : Nat → St → Hp → Prop, (∃ m, W m σ H) ∧ ∀ m σ H, W m σ H →
  c σ H fun b H1 => if b = true then ∃ N : St → Hp → Prop, (∀ σ' H', N σ' H' → ∃ m', m' < m ∧ W m' σ' H') ∧ tb { D with nx := N, ct := N, bk := D.nx } σ H1 else D.nx σ H1
theorem ps_while {c : Expr} {body : List Stmt} {tc : TT} {tb : TS} (hp : PassesOwn (model X.prog X.w) X.A X.env X.xe) (hc : PT X c tc) (hb : PSs X body tb) : PS X (.While c body [] pos) (tWhile tc tb) := by
  intro pins s σ H D I h
  obtain ⟨W, ⟨m0, w0⟩, turn⟩ := h
  refine wpAny_While (codeAny_whileLoop (fun n s' => ∃ σ' H', Inv X pins σ' H' s' ∧ W n σ' H') ?_ m0 ⟨σ, H, I, w0⟩)
  rintro n s1 ⟨σ1, H1, I1, w1⟩
  refine wpAny_passesOwn hp (thn (hc pins s1 σ1 H1 _ I1 (turn n σ1 H1 w1)) fun b s2 ⟨H2, I2, q2⟩ => ?_)
  cases b with
  | true =>
    obtain ⟨N, hN, q2⟩ := q2
    rw [if_pos rfl]
    refine wpAny_passesOwn hp (thn (hb pins s2 σ1 H2 _ I2 q2) fun f s3 q3 => ?_)
    cases f with
    | next =>
      obtain ⟨σ3, H3, I3, n3⟩ := q3
      obtain ⟨m', hm, w3⟩ := hN σ3 H3 n3
      exact ⟨m', hm, σ3, H3, I3, w3⟩
    | cont =>
      obtain ⟨σ3, H3, I3, n3⟩ := q3
      obtain ⟨m', hm, w3⟩ := hN σ3 H3 n3
      exact ⟨m', hm, σ3, H3, I3, w3⟩
    | brk => exact q3
    | ret v => exact q3
  | false =>
    rw [if_neg Bool.false_ne_true]
    exact wpAny_execs_nil ⟨σ1, H2, I2, q2⟩
end

structure It where
  go : Nat → Hp → Prop
  yld : Nat → Hp → V → Hp → Prop
  stop : Nat → Hp → Prop
noncomputable def FpOk (X : Cx) (pins : List (Addr × Obj)) (H : Hp) (b : Addr) : Prop :=
  H b = none ∧ b ≠ X.env.locals ∧ b ∉ X.fs ∧ (b ∈ X.ex ∨ X.s₀.heap.objs.size ≤ b) ∧ (∀ x c, X.env.cells.lookup x = some c → c ≠ b) ∧ ∀ p ∈ X.pn ++ pins, p.1 ≠ b
theorem Inv.fpOk {X : Cx} {pins : List (Addr × Obj)} {σ : St} {H H' : Hp} {s : Shared} {b : Addr} (I : Inv X pins σ H s) (hb : s.heap.objs.size ≤ b) (hn : H' b = none) : FpOk X pins H' b := by
  refine ⟨hn, Nat.ne_of_gt (Nat.lt_of_lt_of_le I.lt hb), I.nofs hb, .inr (Nat.le_trans I.sz hb), fun x c e z => ?_, fun p hp z => ?_⟩
  · obtain ⟨v, q⟩ := I.cell x c e
    exact absurd (Nat.lt_of_lt_of_le q.lt (by rw [z]; exact hb)) (Nat.lt_irrefl _)
  · exact absurd (Nat.lt_of_lt_of_le (Heap.lt_size (I.pin p hp).1) (by rw [z]; exact hb)) (Nat.lt_irrefl _)
structure Turn (P : Program) (w : World) (K : PySem.W.Frag) (tg : Expr) (J : It) (fp : List Addr) (it : Addr) (tn : Nat → Heap → Prop) : Prop where
  mem : it ∈ fp
  obj : ∀ i h, tn i h → ∀ b ∈ fp, ∃ o, h.get? b = some o ∧ ∀ v, o.data ≠ .cell v
  keep : ∀ i h h', tn i h → (∀ b ∈ fp, ∀ o, h.get? b = some o → h'.get? b = some o) → tn i h'
  item : ∀ (X : Cx), X.prog = P → X.w = w → X.K = K → X.calm = true → ∀ (i : Nat) (pins : List (Addr × Obj)) (s : Shared) (σ : St) (H : Hp) (E : Value → Shared → Prop), Inv X pins σ H s → (∀ b ∈ fp, FpOk X pins H b) → tn i s.heap → J.go i H →
    wpAny (model P w) X.A (pyNext (.ref it)) (fun r s1 => ∃ u, r = some u ∧
      wpAny (model P w) X.A (letOwnedTupleGo tg (.ref it) u) (fun _ s2 => ∃ x H', Inv X pins σ H' s2 ∧ RelV x u ∧ J.yld i H x H' ∧ tn (i + 1) s2.heap ∧ ∀ b ∈ fp, H' b = none) E s1) E s
  done : ∀ (X : Cx), X.prog = P → X.w = w → X.K = K → X.calm = true → ∀ (i : Nat) (pins : List (Addr × Obj)) (s : Shared) (σ : St) (H : Hp) (E : Value → Shared → Prop), Inv X pins σ H s → (∀ b ∈ fp, FpOk X pins H b) → tn i s.heap → J.stop i H →
    wpAny (model P w) X.A (pyNext (.ref it)) (fun r s1 => r = none ∧ Inv X pins σ H s1) E s
  self : ∀ (A : Around) (i : Nat) (s : Shared) (Q : Value → Shared → Prop) (E : Value → Shared → Prop), tn i s.heap → Q (.ref it) s → wpAny (model P w) A (pyIter (.ref it)) Q E s
noncomputable abbrev TI := St → Hp → (It → Hp → Prop) → Prop
noncomputable def PIE (X : Cx) (pins : List (Addr × Obj)) (σ : St) (tg : Expr) (R : It → Hp → Prop) (itv : Value) (s2 : Shared) : Prop :=
  ∃ (it : Addr) (fp : List Addr) (tn : Nat → Heap → Prop) (J : It) (H' : Hp), itv = .ref it ∧ Inv X pins σ H' s2 ∧ Turn X.prog X.w X.K tg J fp it tn ∧ tn 0 s2.heap ∧ (∀ b ∈ fp, FpOk X pins H' b) ∧ R J H'
noncomputable def PI (X : Cx) (tg iter : Expr) (wi : TI) : Prop :=
  ∀ (pins : List (Addr × Obj)) (s : Shared) (σ : St) (H : Hp) (R : It → Hp → Prop), Inv X pins σ H s → wi σ H R →
    wpAny (model X.prog X.w) X.A (eval iter X.env) (fun v s1 => wpAny (model X.prog X.w) X.A (pyIter v) (PIE X pins σ tg R) X.xe s1) X.xe s

theorem go_of {M : Model} {A : Around} {E : Value → Shared → Prop} {s : Shared} {tg : Expr} {it : Addr} {u : Value} {o : Obj} {n : String} {vs : Array Value} {Q : Unit → Shared → Prop} (ho : s.heap.get? it = some o) (hc : o.cls = .type n) (hd : o.data = .fields vs)
    (hn : ["enumerate", "zip", "dict_itemiterator", "dict_reverseitemiterator", "odict_iterator", "itertools.zip_longest", "itertools.pairwise"].contains n = false) (hQ : Q () s) : wpAny M A (letOwnedTupleGo tg (.ref it) u) Q E s := by
  unfold letOwnedTupleGo
  cases tg <;> first
    | exact wpAny_pure hQ
    | (cases u <;> first
        | exact wpAny_pure hQ
        | (refine wpAny_bind (wpAny_load ho ?_)
           rw [hc, hd]
           show wpAny M A (if (["enumerate", "zip", "dict_itemiterator", "dict_reverseitemiterator", "odict_iterator", "itertools.zip_longest", "itertools.pairwise"].contains n && vs[0]? == some (rawInt _)) = true then _ else _) Q E s
           rw [if_neg (by intro h; rw [hn, Bool.false_and] at h; cases h)]
           exact wpAny_pure hQ))

noncomputable def Itl (K : PySem.W.Frag) (a : Addr) : It :=
  ⟨fun i H => ∃ xs x, SqL K H a xs ∧ xs[i]? = some x, fun i H x H' => H' = H ∧ ∀ xs, SqL K H a xs → xs[i]? = some x, fun i H => ∃ xs, SqL K H a xs ∧ xs.length ≤ i⟩
noncomputable def Itt (K : PySem.W.Frag) (a : Addr) : It :=
  ⟨fun i H => ∃ xs x, SqT K H a xs ∧ xs[i]? = some x, fun i H x H' => H' = H ∧ ∀ xs, SqT K H a xs → xs[i]? = some x, fun i H => ∃ xs, SqT K H a xs ∧ xs.length ≤ i⟩
noncomputable def Itr (lo : Int) (n : Nat) : It := ⟨fun i _ => i < n, fun i H x H' => H' = H ∧ x = .int (lo + i), fun i _ => n ≤ i⟩
theorem turn_list {P : Program} {w : World} {K : PySem.W.Frag} {tg : Expr} (a it : Addr) : Turn P w K tg (Itl K a) [it] it (fun i h => h.IsListIter it a i) where
  mem := by simp
  obj := fun i h st b hb => by
    have e : b = it := by simpa using hb
    subst e
    obtain ⟨o, e, c, d⟩ := st
    exact ⟨o, e, fun v z => by rw [d] at z; cases z⟩
  keep := fun i h h' st k => st.at fun o e => k it (by simp) o e
  item := by
    intro X hP hw hK hc i pins s σ H E I hf st hg
    subst hP hw hK
    obtain ⟨xs, x, hq, hx⟩ := hg
    obtain ⟨its, rv, p, hz⟩ := I.list hq
    obtain ⟨u, hu, ru⟩ := rv.get hx
    obtain ⟨f0, f1, f2, f3, f4, f5⟩ := hf it (by simp)
    refine wpAny_pyNext_list_item st p.isList (x := u) (by simpa using hu) fun h' st' sb => ?_
    have I1 : Inv X pins σ H { s with heap := h' } := I.turned (t' := s.toks) (fun b o hb e => (sb.2 b hb).trans e) f0 f1 f3 f4 f5
    obtain ⟨o, e, c, d⟩ := id st'
    exact ⟨u, rfl, go_of (s := { s with heap := h' }) e c d (by decide) ⟨x, H, I1, ru, ⟨rfl, fun ys hy => by rw [I.list_inj hy hq]; exact hx⟩, st', fun b hb => (hf b hb).1⟩⟩
  done := by
    intro X hP hw hK hc i pins s σ H E I hf st hg
    subst hP hw hK
    obtain ⟨xs, hq, hx⟩ := hg
    obtain ⟨its, rv, p, hz⟩ := I.list hq
    obtain ⟨f0, f1, f2, f3, f4, f5⟩ := hf it (by simp)
    have hl := rv.length
    exact wpAny_pyNext_list_end (I.ok.hd hc) st p.isList (by simp; omega) fun h' eb => ⟨rfl, I.turned (t' := s.toks) (fun b o hb e => eb b o hb e) f0 f1 f3 f4 f5⟩
  self := fun _ _ _ _ _ st h => wpAny_pyIter_listiter st h
theorem turn_tuple {P : Program} {w : World} {K : PySem.W.Frag} {tg : Expr} (a it : Addr) : Turn P w K tg (Itt K a) [it] it (fun i h => h.IsTupleIter it a i) where
  mem := by simp
  obj := fun i h st b hb => by
    have e : b = it := by simpa using hb
    subst e
    obtain ⟨o, e, c, d⟩ := st
    exact ⟨o, e, fun v z => by rw [d] at z; cases z⟩
  keep := fun i h h' st k => st.at fun o e => k it (by simp) o e
  item := by
    intro X hP hw hK hc i pins s σ H E I hf st hg
    subst hP hw hK
    obtain ⟨xs, x, hq, hx⟩ := hg
    obtain ⟨its, rv, p, hz⟩ := I.tuple hq
    obtain ⟨u, hu, ru⟩ := rv.get hx
    obtain ⟨f0, f1, f2, f3, f4, f5⟩ := hf it (by simp)
    refine wpAny_pyNext_tuple_item st (show s.heap.IsTuple a its.toArray from p) (x := u) (by simpa using hu) fun h' st' sb => ?_
    have I1 : Inv X pins σ H { s with heap := h' } := I.turned (t' := s.toks) (fun b o hb e => (sb.2 b hb).trans e) f0 f1 f3 f4 f5
    obtain ⟨o, e, c, d⟩ := id st'
    exact ⟨u, rfl, go_of (s := { s with heap := h' }) e c d (by decide) ⟨x, H, I1, ru, ⟨rfl, fun ys hy => by rw [I.tuple_inj hy hq]; exact hx⟩, st', fun b hb => (hf b hb).1⟩⟩
  done := by
    intro X hP hw hK hc i pins s σ H E I hf st hg
    subst hP hw hK
    obtain ⟨xs, hq, hx⟩ := hg
    obtain ⟨its, rv, p, hz⟩ := I.tuple hq
    obtain ⟨f0, f1, f2, f3, f4, f5⟩ := hf it (by simp)
    have hl := rv.length
    exact wpAny_pyNext_tuple_end (I.ok.hd hc) st (show s.heap.IsTuple a its.toArray from p) (by simp; omega) fun h' eb => ⟨rfl, I.turned (t' := s.toks) (fun b o hb e => eb b o hb e) f0 f1 f3 f4 f5⟩
  self := fun _ _ _ _ _ st h => wpAny_pyIter_tupleiter st h
theorem turn_range {P : Program} {w : World} {K : PySem.W.Frag} {tg : Expr} (it : Addr) (lo : Int) (n : Nat) : Turn P w K tg (Itr lo n) [it] it (fun i h => IsRangeIter h it (lo + (i : Nat) * 1) ((n : Int) - (i : Nat)) 1) where
  mem := by simp
  obj := fun i h st b hb => by
    have e : b = it := by simpa using hb
    subst e
    exact ⟨_, st, fun v z => by
      have z' : Data.fields _ = Data.cell v := z
      cases z'⟩
  keep := fun i h h' st k => k it (by simp) _ st
  item := by
    intro X hP hw hK hc i pins s σ H E I hf st hg
    subst hP hw hK
    obtain ⟨f0, f1, f2, f3, f4, f5⟩ := hf it (by simp)
    have W := Walks.range (prog := X.prog) (w := X.w) (I.ok.hd hc) it lo 1 n
    refine W.item i s _ _ hg st fun v h' tk hv st' kk => ?_
    obtain ⟨t, rfl⟩ := hv
    have I1 : Inv X pins σ H { s with heap := h', toks := tk } := I.turned (fun b o hb e => kk b o (by simpa using hb) e) f0 f1 f3 f4 f5
    refine ⟨_, rfl, go_of (s := { s with heap := h', toks := tk }) (n := "range_iterator") st' rfl rfl (by decide) ⟨.int (lo + i), H, I1, ⟨t, ?_⟩, ⟨rfl, rfl⟩, st', fun b hb => (hf b hb).1⟩⟩
    rw [Int.mul_one]
  done := by
    intro X hP hw hK hc i pins s σ H E I hf st hg
    subst hP hw hK
    obtain ⟨f0, f1, f2, f3, f4, f5⟩ := hf it (by simp)
    exact wpAny_pyNext_range_end (I.ok.hd hc) st (by have : n ≤ i := hg; omega) fun h' eb => ⟨rfl, I.turned (t' := s.toks) (fun b o hb e => eb b o hb e) f0 f1 f3 f4 f5⟩
  self := fun _ _ _ _ _ st h => wpAny_pyIter_rangeiter st h
end L2

namespace L2
open PySem PySem.Spec PyProof.Rows
section
variable {X : Cx} {tg : Expr}
theorem range_it {pins : List (Addr × Obj)} {σ : St} {H : Hp} {s : Shared} {R : It → Hp → Prop} {E : Value → Shared → Prop} {lo hi : Int} {t u v : Tok} {tk : Nat} (I : Inv X pins σ H s) (h1 : -(2 ^ 62) ≤ lo) (h2 : lo < 2 ^ 62) (h3 : -(2 ^ 62) ≤ hi) (h4 : hi < 2 ^ 62)
    (q : R (Itr lo (hi - lo).toNat) H) : wpAny (model X.prog X.w) X.A (pyIter (.ref s.heap.objs.size)) (PIE X pins σ tg R) E { s with heap := s.heap.push { cls := .type "range", data := .fields #[.int lo t, .int hi u, .int 1 v] }, toks := tk } := by
  refine wpAny_pyIter_range (IsRange.new ..) (small_one h1 h2 h3 h4) ?_
  have I1 : Inv X pins σ H { s with heap := s.heap.push { cls := .type "range", data := .fields #[.int lo t, .int hi u, .int 1 v] }, toks := tk } := I.kept fun b o e => Heap.get?_push_of_some _ e
  refine ⟨(s.heap.push { cls := .type "range", data := .fields #[.int lo t, .int hi u, .int 1 v] }).objs.size, [(s.heap.push { cls := .type "range", data := .fields #[.int lo t, .int hi u, .int 1 v] }).objs.size], _, _, H, rfl,
    I1.kept (t' := tk) fun b o e => Heap.get?_push_of_some _ e, turn_range _ lo (hi - lo).toNat, ?_, fun b hb => ?_, q⟩
  · have e1 : lo + ((0 : Nat) : Int) * 1 = lo := by simp
    have e2 : (((hi - lo).toNat : Nat) : Int) - ((0 : Nat) : Int) = Builtin.Range.rangeSize lo hi 1 := by rw [rangeSize_one]; split <;> omega
    show IsRangeIter _ _ (lo + ((0 : Nat) : Int) * 1) ((((hi - lo).toNat : Nat) : Int) - ((0 : Nat) : Int)) 1
    rw [e1, e2]
    exact Heap.get?_push_size _ rfl
  · have e : b = (s.heap.push { cls := .type "range", data := .fields #[.int lo t, .int hi u, .int 1 v] }).objs.size := by simpa using hb
    subst e
    exact I1.fpOk (Nat.le_refl _) (I1.hok.fresh (Nat.le_refl _))
noncomputable def iRng1 (ta : TA) : TI := fun σ H R => ta σ H fun vs H1 => ∃ j : Int, vs = [.int j] ∧ -(2 ^ 62) ≤ j ∧ j < 2 ^ 62 ∧ R (Itr 0 j.toNat) H1
theorem pi_range1 {a : Expr} {ta : TA} {p pos : Pos} (hg : Gl X "range") (hm : X.mg "range" = none) (ha : PA X [a] ta) (hs : starEach [a] X.env = [(false, eval a X.env)] := by rfl) : PI X tg (.Call (.Name "range" p) [a] [] pos) (iRng1 ta) := by
  intro pins s σ H R I h
  refine Call_ (ld_blt I hg hm boot_range (PyProof.Rows.callWith_type1 (thn (ha pos pins s σ H _ I h) fun us s1 ⟨vs, H1, I1, r1, q1⟩ => ?_) hs rfl))
  obtain ⟨j, e, q1, q2, q⟩ := q1
  subst e
  cases r1 with
  | cons r rr =>
    cases rr
    obtain ⟨t, rfl⟩ := r
    exact call_range_1 (range_it I1 (by omega) (by omega) q1 q2 (by simpa using q))
noncomputable def tFor (wi : TI) (g : TG) (tb : TS) : TS := fun D σ H => wi σ H fun J H1 => ∃ W : Nat → Nat → St → Hp → Prop, (∃ m, W 0 m σ H1) ∧ ∀ i m σ H, W i m σ H →
  (J.stop i H ∧ D.nx σ H) ∨ (J.go i H ∧ ∃ N : St → Hp → Prop, (∀ σ' H', N σ' H' → ∃ m', m' < m ∧ W (i + 1) m' σ' H') ∧ ∀ x H', J.yld i H x H' → g x σ H' fun σ2 H2 => tb { D with nx := N, ct := N, bk := D.nx } σ2 H2)
noncomputable def pinsAt (fp : List Addr) (h : Heap) : List (Addr × Obj) := fp.filterMap fun b => (h.get? b).map fun o => (b, o)
theorem mem_pinsAt {fp : List Addr} {h : Heap} {b : Addr} {o : Obj} (hb : b ∈ fp) (e : h.get? b = some o) : (b, o) ∈ pinsAt fp h := List.mem_filterMap.mpr ⟨b, hb, by rw [e]; rfl⟩
theorem of_pinsAt {fp : List Addr} {h : Heap} {p : Addr × Obj} (hp : p ∈ pinsAt fp h) : p.1 ∈ fp ∧ h.get? p.1 = some p.2 := by
  obtain ⟨b, hb, e⟩ := List.mem_filterMap.mp hp
  cases q : h.get? b with
  | none => rw [q] at e; cases e
  | some o =>
    rw [q] at e
    have e' : (b, o) = p := Option.some.inj e
    subst e'
    exact ⟨hb, q⟩
theorem Inv.pinned {pins : List (Addr × Obj)} {σ : St} {H : Hp} {s : Shared} {fp : List Addr} (I : Inv X pins σ H s) (hf : ∀ b ∈ fp, FpOk X pins H b) (ho : ∀ b ∈ fp, ∃ o, s.heap.get? b = some o ∧ ∀ v, o.data ≠ .cell v) : Inv X (pins ++ pinsAt fp s.heap) σ H s :=
  I.pins_of fun p hp => (List.mem_append.mp hp).elim (fun z => I.pin p (List.mem_append_right _ z)) fun z => by
    obtain ⟨hb, e⟩ := of_pinsAt z
    obtain ⟨f0, f1, f2, _⟩ := hf p.1 hb
    obtain ⟨o, e', d⟩ := ho p.1 hb
    rw [e] at e'; cases e'
    exact ⟨e, f0, f1, f2, d⟩
theorem Inv.unpinned {pins pl : List (Addr × Obj)} {σ : St} {H : Hp} {s : Shared} (I : Inv X (pins ++ pl) σ H s) : Inv X pins σ H s := I.pins_of fun p hp => I.pin p (List.mem_append_right _ (List.mem_append_left _ hp))
theorem ps_for {iter : Expr} {body : List Stmt} {wi : TI} {g : TG} {tb : TS} {pos : Pos} (hp : PassesOwn (model X.prog X.w) X.A X.env X.xe) (hc : X.calm = true) (hi : PI X tg iter wi) (hg : PG X tg g) (hb : PSs X body tb)
    (hs : ∀ x, foldedSetIterable iter X.env x = pure x := by intro _; rfl) : PS X (.For tg iter body [] pos) (tFor wi g tb) := by
  intro pins s σ H D I h
  refine wpAny_For (thn (hi pins s σ H _ I h) fun v s1 h1 => thn h1 fun itv s2 h2 => ?_) hs
  obtain ⟨it, fp, tn, J, H2, e, I2, T, st2, f2, W, ⟨m0, w0⟩, turn⟩ := h2
  subst e
  
  have stat : ∀ {H' : Hp}, (∀ b ∈ fp, H' b = none) → ∀ b ∈ fp, FpOk X pins H' b := fun hn b hb => ⟨hn b hb, (f2 b hb).2⟩
  refine codeAny_forLoop_any (fun n s' => ∃ i σ' H', Inv X pins σ' H' s' ∧ tn i s'.heap ∧ (∀ b ∈ fp, H' b = none) ∧ W i n σ' H') ?_ m0 ⟨0, σ, H2, I2, st2, fun b hb => (f2 b hb).1, w0⟩
  rintro n s3 ⟨i, σ3, H3, I3, st3, fr3, w3⟩
  rcases turn i n σ3 H3 w3 with ⟨stop, qn⟩ | ⟨go, N, hN, step⟩
  · refine wpAny_passesOwn hp (thn (T.done X rfl rfl rfl hc i pins s3 σ3 H3 X.xe I3 (stat fr3) st3 stop) fun r s4 ⟨hr, I4⟩ => ?_)
    subst hr
    exact wpAny_execs_nil ⟨σ3, H3, I4, qn⟩
  · refine wpAny_passesOwn hp (thn (T.item X rfl rfl rfl hc i pins s3 σ3 H3 X.xe I3 (stat fr3) st3 go) fun r s4 ⟨u, hr, h4⟩ => ?_)
    subst hr
    refine wpAny_passesOwn hp (thn h4 fun _ s5 ⟨x, H5, I5, r5, y5, st5, fr5⟩ => ?_)
    have I5' := I5.pinned (stat fr5) (T.obj _ _ st5)
    refine wpAny_passesOwn hp (thn (hg _ s5 σ3 H5 x u _ I5' r5 (step x H5 y5)) fun _ s6 ⟨σ6, H6, I6, q6⟩ => ?_)
    refine wpAny_passesOwn hp (thn (hb _ s6 σ6 H6 _ I6 q6) fun f s7 q7 => ?_)
    have again : ∀ {σ7 : St} {H7 : Hp}, Inv X (pins ++ pinsAt fp s5.heap) σ7 H7 s7 → N σ7 H7 → ∃ m, m < n ∧ ∃ i σ' H', Inv X pins σ' H' s7 ∧ tn i s7.heap ∧ (∀ b ∈ fp, H' b = none) ∧ W i m σ' H' := fun {σ7 H7} I7 n7 => by
      obtain ⟨m', hm, w7⟩ := hN σ7 H7 n7
      refine ⟨m', hm, i + 1, σ7, H7, I7.unpinned, T.keep _ _ _ st5 fun b hb o e => (I7.pin (b, o) (List.mem_append_right _ (List.mem_append_right _ (mem_pinsAt hb e)))).1, fun b hb => ?_, w7⟩
      obtain ⟨o, e, d⟩ := T.obj _ _ st5 b hb
      exact (I7.pin (b, o) (List.mem_append_right _ (List.mem_append_right _ (mem_pinsAt hb e)))).2.1
    cases f with
    | next => obtain ⟨σ7, H7, I7, n7⟩ := q7; exact again I7 n7
    | cont => obtain ⟨σ7, H7, I7, n7⟩ := q7; exact again I7 n7
    | brk => obtain ⟨σ7, H7, I7, q7⟩ := q7; exact ⟨σ7, H7, I7.unpinned, q7⟩
    | ret v => obtain ⟨x7, σ7, H7, I7, r7, q7⟩ := q7; exact ⟨x7, σ7, H7, I7.unpinned, r7, q7⟩
end

end L2

namespace L2
open PySem PySem.Spec PyProof.Rows

noncomputable abbrev R2 := V → V → Hp → VK → Prop
noncomputable def OpR (X : Cx) (f : Value → Value → Sem Value) (r : R2) : Prop :=
  ∀ (pins : List (Addr × Obj)) (s : Shared) (σ : St) (H : Hp) (x y : V) (v u : Value) (Q : VK), Inv X pins σ H s → RelV x v → RelV y u → r x y H Q →
    wpAny (model X.prog X.w) X.A (f v u) (EP X pins σ Q) X.xe s
noncomputable def CallR (X : Cx) (f : Value) (r : List V → Hp → VK → Prop) : Prop :=
  ∀ (pins : List (Addr × Obj)) (s : Shared) (σ : St) (H : Hp) (xs : List V) (us : List Value) (Q : VK), Inv X pins σ H s → Vals xs us → r xs H Q →
    wpAny (model X.prog X.w) X.A (call f us) (EP X pins σ Q) X.xe s
noncomputable def TruR (X : Cx) (r : V → Hp → (Bool → Hp → Prop) → Prop) : Prop :=
  ∀ (pins : List (Addr × Obj)) (s : Shared) (σ : St) (H : Hp) (x : V) (v : Value) (Q : Bool → Hp → Prop), Inv X pins σ H s → RelV x v → r x H Q →
    wpAny (model X.prog X.w) X.A (truthy v) (TP X pins σ Q) X.xe s

noncomputable def tOp (r : R2) (ta tb : TE) : TE := fun σ H Q => ta σ H fun x H1 => tb σ H1 fun y H2 => r x y H2 Q
noncomputable def rI (C : Int → Int → Prop) (g : Int → Int → V) : R2 := fun x y H Q => ∃ i j, x = .int i ∧ y = .int j ∧ C i j ∧ Q (g i j) H
noncomputable def rI0 (g : Int → Int → V) : R2 := fun x y H Q => ∃ i j, x = .int i ∧ y = .int j ∧ Q (g i j) H
section
variable {X : Cx} {a b c : Expr} {ta tb tc : TE} {pos : Pos}

theorem binT (ha : PE X a ta) (hb : PE X b tb) {pins : List (Addr × Obj)} {s : Shared} {σ : St} {H : Hp} {R : V → V → Hp → Prop} (I : Inv X pins σ H s)
    (h : ta σ H fun x H1 => tb σ H1 fun y H2 => R x y H2) {Q : Value → Shared → Prop} {f : Value → Value → Sem Value}
    (hf : ∀ v u s2 x y H2, Inv X pins σ H2 s2 → RelV x v → RelV y u → R x y H2 → wpAny (model X.prog X.w) X.A (f v u) Q X.xe s2) :
    wpAny (model X.prog X.w) X.A (eval a X.env) (fun v s₁ => wpAny (model X.prog X.w) X.A (eval b X.env) (fun u s₂ => wpAny (model X.prog X.w) X.A (f v u) Q X.xe s₂) X.xe s₁) X.xe s := by
  refine thn (ha pins s σ H _ I h) fun v s1 ⟨x, H1, I1, r1, q1⟩ => ?_
  refine thn (hb pins s1 σ H1 _ I1 q1) fun u s2 ⟨y, H2, I2, r2, q2⟩ => ?_
  exact hf v u s2 x y H2 I2 r1 r2 q2

theorem pe_op {op : Operator} {r : R2} (ho : OpR X (binaryOp op) r) (ha : PE X a ta) (hb : PE X b tb) : PE X (.BinOp a op b pos) (tOp r ta tb) := by
  intro pins s σ H Q I h
  exact wpAny_BinOp (binT ha hb I h fun v u s2 x y H2 I2 rx ry q => ho pins s2 σ H2 x y v u Q I2 rx ry q)
theorem opI {f : Value → Value → Sem Value} {C : Int → Int → Prop} {g : Int → Int → Int}
    (rule : ∀ (i j : Int) (t u : Tok) (s : Shared) (Q : Value → Shared → Prop) (E : Value → Shared → Prop), C i j → Q (.int (g i j) s.toks) { s with toks := s.toks + 1 } → wpAny (model X.prog X.w) X.A (f (.int i t) (.int j u)) Q E s) :
    OpR X f (rI C fun i j => .int (g i j)) := by
  intro pins s σ H x y v u Q I rx ry h
  obtain ⟨i, j, rfl, rfl, hc, q⟩ := h
  obtain ⟨t, rfl⟩ := rx
  obtain ⟨t', rfl⟩ := ry
  exact rule i j t t' s _ _ hc ⟨.int (g i j), H, I.tok _, ⟨_, rfl⟩, q⟩
theorem opI0 {f : Value → Value → Sem Value} {g : Int → Int → Int}
    (rule : ∀ (i j : Int) (t u : Tok) (s : Shared) (Q : Value → Shared → Prop) (E : Value → Shared → Prop), Q (.int (g i j) s.toks) { s with toks := s.toks + 1 } → wpAny (model X.prog X.w) X.A (f (.int i t) (.int j u)) Q E s) :
    OpR X f (rI0 fun i j => .int (g i j)) := by
  intro pins s σ H x y v u Q I rx ry h
  obtain ⟨i, j, rfl, rfl, q⟩ := h
  obtain ⟨t, rfl⟩ := rx
  obtain ⟨t', rfl⟩ := ry
  exact rule i j t t' s _ _ ⟨.int (g i j), H, I.tok _, ⟨_, rfl⟩, q⟩
theorem opB0 {f : Value → Value → Sem Value} {g : Int → Int → Bool}
    (rule : ∀ (i j : Int) (t u : Tok) (s : Shared) (Q : Value → Shared → Prop) (E : Value → Shared → Prop), Q (.bool (g i j)) s → wpAny (model X.prog X.w) X.A (f (.int i t) (.int j u)) Q E s) :
    OpR X f (rI0 fun i j => .bl (g i j)) := by
  intro pins s σ H x y v u Q I rx ry h
  obtain ⟨i, j, rfl, rfl, q⟩ := h
  obtain ⟨t, rfl⟩ := rx
  obtain ⟨t', rfl⟩ := ry
  exact rule i j t t' s _ _ ⟨.bl (g i j), H, I, rfl, q⟩

noncomputable def CMul (i j : Int) : Prop := (-(2 ^ 64) < i ∧ i < 2 ^ 64) ∨ (-(2 ^ 64) < j ∧ j < 2 ^ 64)
theorem CMul.ok {i j : Int} (h : CMul i j) : IntMulOk i j := by
  rcases h with ⟨h1, h2⟩ | ⟨h1, h2⟩
  · exact .of_left (intBits_le_64 h1 h2)
  · exact .of_right (intBits_le_64 h1 h2)
theorem op_add : OpR X (binaryOp .Add) (rI0 fun i j => .int (i + j)) := opI0 fun _ _ _ _ _ _ _ q => add_int q
theorem op_mul : OpR X (binaryOp .Mult) (rI CMul fun i j => .int (i * j)) := opI fun _ _ _ _ _ _ _ hc q => mul_int q hc.ok
theorem op_mod : OpR X (binaryOp .Mod) (rI (fun _ j => 0 < j) fun i j => .int (i % j)) := opI fun i j _ _ _ _ _ hc q => by
  have h1 : (0 : Int) < j := hc
  exact mod_int' (by omega) (by rw [Int.fmod_eq_emod_of_nonneg i (by omega)]; exact q)
end

noncomputable def scal : V → V → Bool
  | .non, .non => true | .non, .int _ => true | .int _, .non => true | .non, .bl _ => true | .bl _, .non => true | .non, .str _ => true | .str _, .non => true
  | .int _, .int _ => true | .bl _, .bl _ => true | .str _, .str _ => true | .byt _, .byt _ => true
  | .int _, .str _ => true | .str _, .int _ => true | .bl _, .str _ => true | .str _, .bl _ => true
  | _, _ => false
noncomputable def rEq : R2 := fun x y H Q => scal x y = true ∧ Q (.bl (decide (x = y))) H
noncomputable def rNe : R2 := fun x y H Q => scal x y = true ∧ Q (.bl (!decide (x = y))) H

theorem dec_int {i j : Int} : decide (V.int i = V.int j) = (i == j) := by
  rw [Bool.eq_iff_iff]
  simp
theorem dec_bl {i j : Bool} : decide (V.bl i = V.bl j) = (i == j) := by
  rw [Bool.eq_iff_iff]
  simp
theorem dec_str {i j : Str} : decide (V.str i = V.str j) = (i == j) := by
  rw [Bool.eq_iff_iff]
  simp
theorem dec_byt {i j : Array UInt8} : decide (V.byt i = V.byt j) = (i.toList == j.toList) := by
  rw [Bool.eq_iff_iff]
  cases i
  cases j
  simp

section
variable {X : Cx} {a b c : Expr} {ta tb tc : TE} {pos : Pos}
theorem fin_bl {pins : List (Addr × Obj)} {σ : St} {H : Hp} {s : Shared} {Q : VK} {k k' : Bool} (I : Inv X pins σ H s) (q : Q (.bl k) H) (e : k = k') : EP X pins σ Q (.bool k') s := by
  subst e
  exact ⟨.bl k, H, I, rfl, q⟩
theorem op_eq : OpR X (compareOp .Eq) rEq := by
  intro pins s σ H x y v u Q I rx ry h
  obtain ⟨hs, q⟩ := h
  cases x with
  | non =>
    cases rx
    cases y with
    | non => cases ry; exact PySem.EqNone.eq_none_none (fin_bl I q (by simp))
    | bl j => cases ry; exact PySem.EqNone.eq_none_bool (fin_bl I q (by simp))
    | int j => obtain ⟨t', rfl⟩ := ry; exact PySem.EqNone.eq_none_int (fin_bl I q (by simp))
    | str j => obtain ⟨t', rfl⟩ := ry; exact PySem.EqNone.eq_none_str (fin_bl I q (by simp))
    | _ => exact absurd (show false = true from hs) Bool.false_ne_true
  | bl i =>
    cases rx
    cases y with
    | non => cases ry; exact PySem.EqNone.eq_bool_none (fin_bl I q (by simp))
    | bl j => cases ry; exact eq_bool (fin_bl I q dec_bl)
    | str j => obtain ⟨t', rfl⟩ := ry; exact PySem.EqMixed.eq_bool_str (fin_bl I q (by simp))
    | _ => exact absurd (show false = true from hs) Bool.false_ne_true
  | int i =>
    obtain ⟨t, rfl⟩ := rx
    cases y with
    | non => cases ry; exact PySem.EqNone.eq_int_none (fin_bl I q (by simp))
    | int j => obtain ⟨t', rfl⟩ := ry; exact eq_int (fin_bl I q dec_int)
    | str j => obtain ⟨t', rfl⟩ := ry; exact PySem.EqMixed.eq_int_str (fin_bl I q (by simp))
    | _ => exact absurd (show false = true from hs) Bool.false_ne_true
  | str i =>
    obtain ⟨t, rfl⟩ := rx
    cases y with
    | non => cases ry; exact PySem.EqNone.eq_str_none (fin_bl I q (by simp))
    | bl j => cases ry; exact PySem.EqMixed.eq_str_bool (fin_bl I q (by simp))
    | int j => obtain ⟨t', rfl⟩ := ry; exact PySem.EqMixed.eq_str_int (fin_bl I q (by simp))
    | str j => obtain ⟨t', rfl⟩ := ry; exact eq_str (fin_bl I q dec_str)
    | _ => exact absurd (show false = true from hs) Bool.false_ne_true
  | byt i =>
    obtain ⟨t, rfl⟩ := rx
    cases y with
    | byt j => obtain ⟨t', rfl⟩ := ry; exact PySem.W.eq_bytes (fin_bl I q dec_byt)
    | _ => exact absurd (show false = true from hs) Bool.false_ne_true
  | _ => cases y <;> exact absurd (show false = true from hs) Bool.false_ne_true
theorem op_ne : OpR X (compareOp .NotEq) rNe := by
  intro pins s σ H x y v u Q I rx ry h
  obtain ⟨hs, q⟩ := h
  cases x with
  | non =>
    cases rx
    cases y with
    | non => cases ry; exact PySem.EqNone.ne_none_none (fin_bl I q (by simp))
    | bl j => cases ry; exact PySem.EqNone.ne_none_bool (fin_bl I q (by simp))
    | int j => obtain ⟨t', rfl⟩ := ry; exact PySem.EqNone.ne_none_int (fin_bl I q (by simp))
    | str j => obtain ⟨t', rfl⟩ := ry; exact PySem.EqNone.ne_none_str (fin_bl I q (by simp))
    | _ => exact absurd (show false = true from hs) Bool.false_ne_true
  | bl i =>
    cases rx
    cases y with
    | non => cases ry; exact PySem.EqNone.ne_bool_none (fin_bl I q (by simp))
    | bl j => cases ry; exact ne_bool (fin_bl I q (congrArg not dec_bl))
    | str j => obtain ⟨t', rfl⟩ := ry; exact PySem.EqMixed.ne_bool_str (fin_bl I q (by simp))
    | _ => exact absurd (show false = true from hs) Bool.false_ne_true
  | int i =>
    obtain ⟨t, rfl⟩ := rx
    cases y with
    | non => cases ry; exact PySem.EqNone.ne_int_none (fin_bl I q (by simp))
    | int j => obtain ⟨t', rfl⟩ := ry; exact ne_int (fin_bl I q (congrArg not dec_int))
    | str j => obtain ⟨t', rfl⟩ := ry; exact PySem.EqMixed.ne_int_str (fin_bl I q (by simp))
    | _ => exact absurd (show false = true from hs) Bool.false_ne_true
  | str i =>
    obtain ⟨t, rfl⟩ := rx
    cases y with
    | non => cases ry; exact PySem.EqNone.ne_str_none (fin_bl I q (by simp))
    | bl j => cases ry; exact PySem.EqMixed.ne_str_bool (fin_bl I q (by simp))
    | int j => obtain ⟨t', rfl⟩ := ry; exact PySem.EqMixed.ne_str_int (fin_bl I q (by simp))
    | str j => obtain ⟨t', rfl⟩ := ry; exact ne_str (fin_bl I q (congrArg not dec_str))
    | _ => exact absurd (show false = true from hs) Bool.false_ne_true
  | byt i =>
    obtain ⟨t, rfl⟩ := rx
    cases y with
    | byt j => obtain ⟨t', rfl⟩ := ry; exact PySem.W.ne_bytes (fin_bl I q (congrArg not dec_byt))
    | _ => exact absurd (show false = true from hs) Bool.false_ne_true
  | _ => cases y <;> exact absurd (show false = true from hs) Bool.false_ne_true

theorem op_lt : OpR X (compareOp .Lt) (rI0 fun i j => .bl (decide (i < j))) := opB0 fun _ _ _ _ _ _ _ q => lt_int q
theorem op_gt : OpR X (compareOp .Gt) (rI0 fun i j => .bl (decide (j < i))) := opB0 fun _ _ _ _ _ _ _ q => gt_int q
theorem op_ge : OpR X (compareOp .GtE) (rI0 fun i j => .bl (decide (j ≤ i))) := opB0 fun _ _ _ _ _ _ _ q => ge_int q
theorem op_in_str : OpR X (compareOp .In) (fun x y H Q => ∃ i j, x = .str i ∧ y = .str j ∧ Q (.bl (!(Builtin.Str.occurrences j i 0 j.length 1).isEmpty)) H) := by
  intro pins s σ H x y v u Q I rx ry h
  obtain ⟨i, j, rfl, rfl, q⟩ := h
  obtain ⟨t, rfl⟩ := rx
  obtain ⟨t', rfl⟩ := ry
  exact in_str (fin_bl I q rfl)

theorem op_notN : OpR X (compareOp .IsNot) (fun x y H Q => y = .non ∧ Q (.bl (!decide (x = .non))) H) := by
  intro pins s σ H x y v u Q I rx ry h
  obtain ⟨rfl, q⟩ := h
  cases ry
  refine isnot_none_gen (fin_bl I q ?_)
  cases x <;> first
    | (cases rx; rfl)
    | (obtain ⟨t, rfl⟩ := rx; rfl)

theorem nomark (b : Expr) {op : CmpOp} (h : op ≠ .In := by decide) (h2 : op ≠ .NotIn := by decide) : behindInMarks op b = false := by
  have e1 : (op == CmpOp.In) = false := by cases op <;> first | rfl | exact absurd rfl h
  have e2 : (op == CmpOp.NotIn) = false := by cases op <;> first | rfl | exact absurd rfl h2
  cases b <;> simp [behindInMarks, e1, e2]
theorem pe_cmpR {op : CmpOp} {r : R2} (ho : OpR X (compareOp op) r) (ha : PE X a ta) (hb : PE X b tb) (hm : behindInMarks op b = false) : PE X (.Compare a [op] [b] pos) (tOp r ta tb) := by
  intro pins s σ H Q I h
  exact wpAny_Compare1 (binT ha hb I h fun v u s2 x y H2 I2 rx ry q => ho pins s2 σ H2 x y v u Q I2 rx ry q) hm
noncomputable def tTest (t : TE) : TT := fun σ H Q => t σ H fun x H' => ∃ k, x = .bl k ∧ Q k H'
theorem pt_cmpR {op : CmpOp} {r : R2} (ho : OpR X (compareOp op) r) (ha : PE X a ta) (hb : PE X b tb) (hm : behindInMarks op b = false) : PT X (.Compare a [op] [b] pos) (tTest (tOp r ta tb)) := by
  intro pins s σ H Q I h
  refine wpAny_isTrue_Compare1 (thn (ha pins s σ H _ I h) fun v s1 ⟨x, H1, I1, r1, q1⟩ => thn (hb pins s1 σ H1 _ I1 q1) fun u s2 ⟨y, H2, I2, r2, q2⟩ =>
    thn (ho pins s2 σ H2 x y v u _ I2 r1 r2 q2) fun c s3 ⟨z, H3, I3, r3, k, e, q3⟩ => ?_) hm
  subst e
  cases r3
  exact wpAny_truthy_bool ⟨H3, I3, q3⟩
noncomputable def TruV (K : PySem.W.Frag) (x : V) (H : Hp) (k : Bool) : Prop :=
  match x with
  | .non => k = false
  | .bl b => k = b
  | .int i => k = (i != 0)
  | .str y => y.length ≤ sizeLine ∧ k = ((y.length : Int) != 0)
  | .byt y => y.size ≤ sizeLine ∧ k = ((y.size : Int) != 0)
  | .ref p => (∃ xs, SqL K H p xs ∧ k = !xs.isEmpty) ∨ (∃ xs, SqT K H p xs ∧ k = !xs.isEmpty) ∨ ∃ kvs, H p = some (.dK kvs) ∧ k = !kvs.isEmpty
  | _ => False
theorem isEmpty_kv {κ : Type} {kvs : List (κ × V)} {vs : List (κ × Value)} (r : KV kvs vs) : (!vs.isEmpty) = !kvs.isEmpty := by
  cases r <;> rfl
theorem isEmpty_of {xs : List V} {its : List Value} (r : Vals xs its) : (!its.toArray.isEmpty) = !xs.isEmpty := by
  cases r <;> simp
theorem line63 : (sizeLine : Nat) < 2 ^ 63 := by rw [sizeLine_eq]; decide
theorem tru_ok : TruR X (fun x H Q => ∃ k, TruV X.K x H k ∧ Q k H) := by
  intro pins s σ H x v Q I rx h
  obtain ⟨k, e, q⟩ := h
  have hl := line63
  have hs : sizeLine = 16777216 := sizeLine_eq
  cases x with
  | non =>
    cases rx
    have e' : k = false := e
    subst e'
    exact truthy_none ⟨H, I, q⟩
  | bl b =>
    cases rx
    have e' : k = b := e
    subst e'
    exact wpAny_truthy_bool ⟨H, I, q⟩
  | int i =>
    obtain ⟨t, rfl⟩ := rx
    have e' : k = (i != 0) := e
    subst e'
    exact PySem.P.truthy_int ⟨H, I, q⟩
  | str y =>
    obtain ⟨t, rfl⟩ := rx
    obtain ⟨hy, e'⟩ : y.length ≤ sizeLine ∧ k = ((y.length : Int) != 0) := e
    subst e'
    exact PySem.P.truthy_str (by omega) ⟨H, I.tok _, q⟩
  | byt y =>
    obtain ⟨t, rfl⟩ := rx
    obtain ⟨hy, e'⟩ : y.size ≤ sizeLine ∧ k = ((y.size : Int) != 0) := e
    subst e'
    exact PySem.W.truthy_bytes (by omega) ⟨H, I.tok _, q⟩
  | ref p =>
    cases rx
    have e' : (∃ xs, SqL X.K H p xs ∧ k = !xs.isEmpty) ∨ (∃ xs, SqT X.K H p xs ∧ k = !xs.isEmpty) ∨ ∃ kvs, H p = some (.dK kvs) ∧ k = !kvs.isEmpty := e
    rcases e' with ⟨xs, hx, e'⟩ | ⟨xs, hx, e'⟩ | ⟨kvs, hx, e'⟩
    · subst e'
      obtain ⟨its, r, pl, hz⟩ := I.list hx
      have hlen := r.length
      exact wpAny_truthy_list pl.isList (by simp only [List.size_toArray]; omega) ⟨H, I.tok _, by rw [isEmpty_of r]; exact q⟩
    · subst e'
      obtain ⟨its, r, pl, hz⟩ := I.tuple hx
      have hlen := r.length
      exact truthy_tuple pl (by simp only [List.size_toArray]; omega) ⟨H, I.tok _, by rw [isEmpty_of r]; exact q⟩
    · subst e'
      obtain ⟨hz, hS, vs, r, m⟩ : kvs.length ≤ sizeLine ∧ (p == sysModules) = false ∧ ∃ vs, KV kvs vs ∧ s.heap.DictOf (mixKind X.prog X.w) p vs := I.hok p _ hx
      have hlen : kvs.length = vs.length := Paired.length r
      exact wpAny_truthy_dict hS m (by omega) ⟨H, I.tok _, by rw [isEmpty_kv r]; exact q⟩
  | _ => exact (show False from e).elim
theorem pt_truth (ha : PE X a ta) (he : ∀ whole, isTrue a X.env whole = (do let v ← whole; standAt a.pos; holding [v] (truthy v))) :
    PT X a (fun σ H Q => ta σ H fun x H' => ∃ k, TruV X.K x H' k ∧ Q k H') := by
  intro pins s σ H Q I h
  exact isTrue_plain (thn (ha pins s σ H _ I h) fun v s1 ⟨x, H1, I1, r1, q1⟩ => tru_ok pins s1 σ H1 x v Q I1 r1 q1) (he _)

theorem op_add_str : OpR X (binaryOp .Add) (fun x y H Q => ∃ i j, x = .str i ∧ y = .str j ∧ i.length + j.length ≤ sizeLine ∧ Q (.str (i ++ j)) H) := by
  intro pins s σ H x y v u Q I rx ry h
  obtain ⟨i, j, rfl, rfl, hz, q⟩ := h
  obtain ⟨t, rfl⟩ := rx
  obtain ⟨t', rfl⟩ := ry
  exact add_str (fun t' tk => ⟨.str (i ++ j), H, I.tok _, ⟨_, rfl⟩, q⟩) hz
theorem vals1 {x : V} {us : List Value} (r : Vals [x] us) : ∃ u, us = [u] ∧ RelV x u := by
  cases r with
  | cons r1 r2 => cases r2; exact ⟨_, rfl, r1⟩
theorem vals2 {x y : V} {us : List Value} (r : Vals [x, y] us) : ∃ u w', us = [u, w'] ∧ RelV x u ∧ RelV y w' := by
  cases r with
  | cons r1 r2 =>
    cases r2 with
    | cons r3 r4 => cases r4; exact ⟨_, _, rfl, r1, r3⟩
theorem call_max2 (hc : X.calm = true) : CallR X (.builtin "max") (fun xs H Q => ∃ i j, xs = [.int i, .int j] ∧ Q (.int (if j > i then j else i)) H) := by
  intro pins s σ H xs us Q I r h
  obtain ⟨i, j, rfl, q⟩ := h
  obtain ⟨u, w', rfl, ⟨t, rfl⟩, ⟨t', rfl⟩⟩ := vals2 r
  refine max_two_ints (I.ok.hd hc) fun h' tk k => ⟨_, H, I.kept k, ?_, q⟩
  by_cases hj : j > i
  · rw [if_pos hj, if_pos hj]; exact ⟨_, rfl⟩
  · rw [if_neg hj, if_neg hj]; exact ⟨_, rfl⟩
theorem call_min2 (hc : X.calm = true) : CallR X (.builtin "min") (fun xs H Q => ∃ i j, xs = [.int i, .int j] ∧ Q (.int (if j < i then j else i)) H) := by
  intro pins s σ H xs us Q I r h
  obtain ⟨i, j, rfl, q⟩ := h
  obtain ⟨u, w', rfl, ⟨t, rfl⟩, ⟨t', rfl⟩⟩ := vals2 r
  refine min_two_ints (I.ok.hd hc) fun h' tk k => ⟨_, H, I.kept k, ?_, q⟩
  by_cases hj : j < i
  · rw [if_pos hj, if_pos hj]; exact ⟨_, rfl⟩
  · rw [if_neg hj, if_neg hj]; exact ⟨_, rfl⟩
end
end L2

namespace L2
open PySem PySem.Spec PyProof.Rows

structure ObjM (h : Heap) (x dx C : Addr) (mA : Str → Option Value) : Prop where
  obj : h.get? x = some (PySem.W.instObj C dx)
  ns : h.Ns1 dx mA
  ne : dx ≠ x

theorem lookIn_ns {h : Heap} {dx : Addr} {mA : Str → Option Value} (n : h.Ns1 dx mA) : ∃ od, h.get? dx = some od ∧ ∀ name, PySem.W.lookIn name od = some (mA name) := by
  obtain ⟨o, es, ep, ho, hd, hk, _, hm⟩ := n
  refine ⟨o, ho, fun name => ?_⟩
  have e := hm name
  unfold nsFind findBy at e
  rw [← Array.find?_toList] at e
  unfold PySem.W.lookIn
  rw [hd]
  dsimp only
  split
  · rename_i y q
    rw [q] at e
    exact congrArg some e
  · rename_i q
    rw [q] at e
    have a : es.toList.any (·.refKey) = false := by
      rw [List.any_eq_false]
      intro y hy
      obtain ⟨z, t, hkey⟩ := hk y (Array.mem_toList_iff.mp hy)
      simp [DictEntry.refKey, hkey]
    have a' : ¬ es.toList.any (·.refKey) = true := by rw [a]; exact Bool.false_ne_true
    rw [if_neg a']
    exact congrArg some e

theorem ObjM.look {h : Heap} {x dx C : Addr} {mA : Str → Option Value} (I : ObjM h x dx C mA) : ∃ od, PySem.W.InstAt h x (PySem.W.instObj C dx) C (some od) ∧ ∀ name, PySem.W.lookIn name od = some (mA name) :=
  let ⟨od, ho, hl⟩ := lookIn_ns I.ns
  ⟨od, ⟨I.obj, rfl, rfl, ho⟩, hl⟩

section
variable {prog : Program} {w : World} {A : Around} {E : Value → Shared → Prop} {s : Shared} {K : PySem.W.Frag} {x dx C f : Addr} {mA : Str → Option Value} {name : Str} {v : Value}

end

theorem RelO.some_of {v : V} {o : Option Value} (r : RelO (some v) o) : ∃ u, o = some u ∧ RelV v u := by
  cases o with
  | none => exact (show False from r).elim
  | some u => exact ⟨u, rfl, r⟩
theorem RelO.none_of {o : Option Value} (r : RelO none o) : o = none := by
  cases o with
  | none => rfl
  | some u => exact (show False from r).elim
section
variable {P : Program} {w : World} {H H' : Hp} {h h' : Heap} {a C dx : Addr} {fs fs' : List (Str × V)}
end

structure Cls (K : PySem.W.Frag) (C : Addr) : Prop where
  pg : PySem.W.plainGet K C Str.empty = true
  hd : PySem.W.hasDictIn K C = true
  po : PySem.W.plainOver K C = true
  sa : PySem.W.findIn K (.ref C) "__setattr__" = some (some (.builtin "object.__setattr__"))
theorem Cls.get {K : PySem.W.Frag} {C : Addr} (c : Cls K C) (f : Str) : PySem.W.plainGet K C f = true := c.pg
noncomputable def NoAttr (K : PySem.W.Frag) (C : Addr) (f : Str) : Prop := PySem.W.findIn K (.ref C) f = some none
structure Con (K : PySem.W.Frag) (C : Addr) (f : Str) (v : V) (u : Value) : Prop where
  at_ : PySem.W.findIn K (.ref C) f = some (some u)
  rel : RelV v u
  get : PySem.W.specialIn K u "__get__" = some none
  cp : PySem.W.copiedNames.contains f = false
structure Meth (K : PySem.W.Frag) (C : Addr) (m : Str) (f : Addr) : Prop where
  at_ : PySem.W.findIn K (.ref C) m = some (some (.ref f))
  fn : PySem.W.isFn K (.ref f) = true
  kp : PySem.W.keepIn K (.ref f) = true

section
variable {X : Cx} {pins : List (Addr × Obj)} {σ : St} {H : Hp} {s : Shared} {a C dx : Addr} {fs : List (Str × V)} {f : Str} {v : V} {A : Around} {E : Value → Shared → Prop}

theorem Inv.made (I : Inv X pins σ H s) : Inv X pins σ (upd (upd H s.heap.objs.size (.own (s.heap.objs.size + 1))) (s.heap.objs.size + 1) (.ins C s.heap.objs.size []))
    { s with heap := (s.heap.push PySem.W.emptyDict).push (PySem.W.instObj C s.heap.objs.size) } := by
  have e1 : (s.heap.push PySem.W.emptyDict).get? s.heap.objs.size = some PySem.W.emptyDict := Heap.get?_push_size s.heap rfl
  have e2 : ((s.heap.push PySem.W.emptyDict).push (PySem.W.instObj C s.heap.objs.size)).get? (s.heap.objs.size + 1) = some (PySem.W.instObj C s.heap.objs.size) := by
    have := Heap.get?_push_size (s.heap.push PySem.W.emptyDict) (o := PySem.W.instObj C s.heap.objs.size) rfl
    rwa [Heap.size_push] at this
  have e3 : (s.heap.push PySem.W.emptyDict).Ns s.heap.objs.size (fun _ => none) := ⟨PySem.W.emptyDict, #[], _, e1, rfl, (fun e he => absurd he (by simp)), fun _ => rfl⟩
  have I1 := I.laid (a := s.heap.objs.size) (o := .own (s.heap.objs.size + 1)) (h' := s.heap.push PySem.W.emptyDict) (t' := s.toks) (fun b u q => Heap.get?_push_of_some _ q) (Nat.le_refl _) ⟨_, e1⟩
  refine I1.laid (a := s.heap.objs.size + 1) (o := .ins C s.heap.objs.size []) (t' := s.toks) (fun b u q => Heap.get?_push_of_some _ q) (Nat.le_of_eq (Heap.size_push _ _)) ?_
  have ne : s.heap.objs.size ≠ s.heap.objs.size + 1 := Nat.ne_of_lt (Nat.lt_succ_self _)
  refine ⟨by rw [upd_ne ne, upd_same], Nat.zero_le _, ne, e2, fun _ => none, (Heap.Ns1.of_empty e3).at fun o q => Heap.get?_push_of_some _ q, fun _ => True.intro, fun y hy => absurd rfl hy⟩

end

section
variable {X : Cx} {o e value : Expr} {f : Str} {pos pos' tpos : Pos} {ta tv : TE}
end

section
variable {X : Cx} {pins : List (Addr × Obj)} {σ : St} {H : Hp} {s : Shared} {A : Around} {E : Value → Shared → Prop} {Q : Value → Shared → Prop} {c : Value} {b : Bool}
inductive TyOf (K : PySem.W.Frag) (H : Hp) : V → Value → Prop where
  | non : TyOf K H .non (.type "NoneType")
  | bl (x : Bool) : TyOf K H (.bl x) (.type "bool")
  | int (i : Int) : TyOf K H (.int i) (.type "int")
  | str (x : Str) : TyOf K H (.str x) (.type "str")
  | flt (x : UInt64) : TyOf K H (.flt x) (.type "float")
  | lst {a : Addr} {xs : List V} (e : H a = some (.lst xs)) : TyOf K H (.ref a) (.type "list")
  | frz {a : Addr} {o : Obj} {xs : List V} (e : H a = some (.frz o (.lst xs))) : TyOf K H (.ref a) (.type "list")
  | tup {a : Addr} {xs : List V} (e : H a = some (.tup xs)) : TyOf K H (.ref a) (.type "tuple")
  | dK {a : Addr} {kvs : List (Key × V)} (e : H a = some (.dK kvs)) : TyOf K H (.ref a) (.type "dict")
  | dT {a : Addr} {kvs : List (List Key × V)} (e : H a = some (.dT kvs)) : TyOf K H (.ref a) (.type "dict")
  | ins {a C dx : Addr} {fs : List (Str × V)} (e : H a = some (.ins C dx fs)) (cl : Cls K C) (ha : PySem.W.findIn K (.ref C) "__class__" = some (some (.builtin "object.__class__")))
      (hn : PySem.W.specialIn K (.builtin "object.__class__") "__get__" = some (some (.builtin "getset_descriptor.__get__"))) (htk : PySem.W.takesIn K (.builtin "object.__class__") = some true)
      (hm : PySem.W.mroIn K C (.type "object") = some true) : TyOf K H (.ref a) (.ref C)
end
end L2

namespace L2
open PySem PySem.Spec PyProof.Rows

structure Room (k : Nat) (A : Around) : Prop where
  hd : A.handled = none
  dp : A.depth + 3 * k + 5 < recursionLimit
  un : A.units + 16 * k + 200 < cLine
theorem Room.mono {j k : Nat} {A : Around} (r : Room k A) (h : j ≤ k) : Room j A := ⟨r.hd, by have := r.dp; omega, by have := r.un; omega⟩
theorem Room.deeper {k : Nat} {A : Around} (r : Room (k + 1) A) (env : Env) : Room k (A.deeper env) :=
  ⟨r.hd, by have := r.dp; show A.depth + 1 + 3 * k + 5 < _; omega, by have := r.un; show A.units + 3 + 16 * k + 200 < _; omega⟩
theorem Room.in1 {k : Nat} {A : Around} (r : Room (k + 1) A) : Room k A.in1 :=
  ⟨r.hd, by have := r.dp; show A.depth + 3 * k + 5 < _; omega, by have := r.un; show A.units + 1 + 16 * k + 200 < _; omega⟩
theorem Room.depth {k : Nat} {A : Around} (r : Room k A) : A.depth < recursionLimit := by have := r.dp; omega
theorem Room.units {k : Nat} {A : Around} (r : Room k A) : A.units + 64 < cLine := by have := r.un; omega
noncomputable def tNil : TA := fun _ H Q => Q [] H
noncomputable def tCons (ta : TE) (tr : TA) : TA := fun σ H Q => ta σ H fun x H1 => tr σ H1 fun xs H2 => Q (x :: xs) H2
section
variable {X : Cx} {e : Expr} {es : List Expr} {te : TE} {t : TA} {pos : Pos}
theorem pa_nil : PA X [] tNil := fun _ _ _ _ H Q I h => Calls.spliced_nil ⟨[], H, I, .nil, h⟩
theorem pa_cons (ha : PE X e te) (hr : PA X es t) (hs : starEach (e :: es) X.env = (false, eval e X.env) :: starEach es X.env := by rfl) : PA X (e :: es) (tCons te t) := by
  intro pos pins s σ H Q I h
  rw [hs]
  show wpAny _ _ (spliced ((false, eval e X.env) :: backTo pos (starEach es X.env))) _ _ s
  refine Calls.spliced_cons (thn (ha pins s σ H _ I h) fun u s1 ⟨x, H1, I1, r1, q1⟩ => ?_)
  exact thn (hr pos pins s1 σ H1 _ I1 q1) fun us s2 ⟨xs, H2, I2, r2, q2⟩ => ⟨x :: xs, H2, I2, .cons r1 r2, q2⟩

noncomputable def tTup (t : TA) : TE := fun σ H Q => t σ H fun xs H1 => xs.length ≤ sizeLine ∧ ∀ p, H1 p = none → Q (.ref p) (upd H1 p (.tup xs))
noncomputable def tLst (t : TA) : TE := fun σ H Q => t σ H fun xs H1 => xs.length ≤ sizeLine ∧ ∀ p, H1 p = none → Q (.ref p) (upd H1 p (.lst xs))
theorem pe_tup {x1} (h : PA X es t) : PE X (.Tuple es x1 pos) (tTup t) := by
  intro pins s σ H Q I hq
  refine wpAny_Tuple_spliced (thn (h pos pins s σ H _ I hq) fun us s1 ⟨xs, H1, I1, r, z, q⟩ => ⟨by rw [← r.length]; exact z, ?_⟩)
  have hf : H1 s1.heap.objs.size = none := I1.hok.fresh (Nat.le_refl _)
  refine ⟨.ref s1.heap.objs.size, upd H1 s1.heap.objs.size (.tup xs), I1.laid (t' := s1.toks) (fun b u e => Heap.get?_push_of_some _ e) (Nat.le_refl _) ?_, rfl, q _ hf⟩
  exact ⟨z, us, r, ⟨_, Heap.get?_push_size _ rfl, rfl, _, rfl⟩⟩
theorem pe_lst (h : PA X es t) : PE X (.List es pos) (tLst t) := by
  intro pins s σ H Q I hq
  refine wpAny_List_spliced (thn (h pos pins s σ H _ I hq) fun us s1 ⟨xs, H1, I1, r, z, q⟩ => ⟨by rw [← r.length]; exact z, ?_⟩)
  have hf : H1 s1.heap.objs.size = none := I1.hok.fresh (Nat.le_refl _)
  refine ⟨.ref s1.heap.objs.size, upd H1 s1.heap.objs.size (.lst xs), I1.laid (t' := s1.toks) (fun b u e => Heap.get?_push_of_some _ e) (Nat.le_refl _) ?_, rfl, q _ hf⟩
  exact ⟨z, us, 0, r, Heap.get?_push_size _ rfl⟩
end

noncomputable abbrev Sp := List V → Hp → VK → XK → Prop
noncomputable abbrev CXT := List Env → Hp → Shared → XK → Value → Shared → Prop

structure Env0 (P : Program) (w : World) (K : PySem.W.Frag) (mg : Str → Option Value) (base : Heap) (A : Around) (outer : List Env) (s : Shared) (H : Hp) : Prop where
  frames : A.frames = some outer
  mod : Mod K mg base
  bs : ∀ b o, base.get? b = some o → s.heap.get? b = some o ∧ H b = none
  bsz : base.objs.size ≤ s.heap.objs.size
  funs : s.heap.FunFrames base outer
  frf : ∀ b ∈ frs outer, H b = none
  hok : HOk P w H s.heap
  bare : AllBare s.gens
noncomputable def CE (outer : List Env) (P : Program) (w : World) (H : Hp) (s : Shared) (Q : VK) (u : Value) (s' : Shared) : Prop :=
  ∃ v H', s'.os = s.os ∧ AllBare s'.gens ∧ Un (frs outer) [] H H' s.heap s'.heap ∧ HOk P w H' s'.heap ∧ RelV v u ∧ Q v H'
noncomputable def CR (CX : CXT) (outer : List Env) (P : Program) (w : World) (H : Hp) (s : Shared) (Q : VK) (E : XK) (r : Result) (s' : Shared) : Prop :=
  match r with
  | .ok (.ret u) => CE outer P w H s Q u s'
  | .ok _ => False
  | .error e => CX outer H s E e s'
structure FnOk (P : Program) (w : World) (K : PySem.W.Frag) (mg : Str → Option Value) (base : Heap) (CX : CXT) (k : Nat) (f : Addr) (fd : FuncData) (ps : List Str) (sp : Sp) : Prop where
  len : ∀ vs H Q E, sp vs H Q E → vs.length = ps.length
  run : ∀ (A : Around) (outer : List Env) (s : Shared) (H : Hp) (args : Args) (us : List Value) (vs : List V) (Q : VK) (E : XK), Room k A → Env0 P w K mg base A outer s H → BindsTo s fd args (ps.zip us) → Vals vs us → sp vs H Q E →
    codeAny (model P w) A (.call (.ref f) args) (CR CX outer P w H s Q E) s
theorem FnOk.mono {P : Program} {w : World} {K : PySem.W.Frag} {mg : Str → Option Value} {base : Heap} {CX : CXT} {j k : Nat} {f : Addr} {fd : FuncData} {ps : List Str} {sp : Sp} (F : FnOk P w K mg base CX j f fd ps sp) (h : j ≤ k) :
    FnOk P w K mg base CX k f fd ps sp := ⟨F.len, fun A outer s H args us vs Q E hr => F.run A outer s H args us vs Q E (hr.mono h)⟩
theorem FnOk.imp {P : Program} {w : World} {K : PySem.W.Frag} {mg : Str → Option Value} {base : Heap} {CX : CXT} {k : Nat} {f : Addr} {fd : FuncData} {ps : List Str} {sp sp' : Sp} (F : FnOk P w K mg base CX k f fd ps sp)
    (h : ∀ vs H Q E, sp' vs H Q E → sp vs H Q E) : FnOk P w K mg base CX k f fd ps sp' :=
  ⟨fun vs H Q E q => F.len vs H Q E (h _ _ _ _ q), fun A outer s H args us vs Q E hr he hb hv hs => F.run A outer s H args us vs Q E hr he hb hv (h _ _ _ _ hs)⟩

theorem Env0.in1 {P : Program} {w : World} {K : PySem.W.Frag} {mg : Str → Option Value} {base : Heap} {A : Around} {outer : List Env} {s : Shared} {H : Hp} (e : Env0 P w K mg base A outer s H) :
    Env0 P w K mg base A.in1 outer s H := ⟨e.frames, e.mod, e.bs, e.bsz, e.funs, e.frf, e.hok, e.bare⟩

section
variable {X : Cx} {pins : List (Addr × Obj)} {σ : St} {H : Hp} {s s' : Shared}
theorem Inv.env0 (I : Inv X pins σ H s) : Env0 X.prog X.w X.K X.mg X.base X.A X.stack s H :=
  ⟨I.ok.frames, I.ok.mod, I.bs, Nat.le_trans I.ok.bsz I.sz, I.stack, I.stkFree, I.hok, I.bare⟩
theorem Inv.after {Q : VK} {u : Value} (I : Inv X pins σ H s) (h : CE X.stack X.prog X.w H s Q u s') : EP X pins σ Q u s' := by
  obtain ⟨v, H', os, bare, un, hok, r, q⟩ := h
  obtain ⟨hh, g, d, t, os'⟩ := s'
  obtain rfl : os' = s.os := os
  exact ⟨v, H', I.call (h' := hh) (g' := g) (d' := d) (t' := t) (ch := []) un hok bare (fun b z => absurd z (by simp)), r, q⟩
end

noncomputable def Binds (K : PySem.W.Frag) (fd : FuncData) (ps : List Str) (ds : List Value) : Prop :=
  ∀ (s : Shared) (us : List Value), K.In s.heap → (us ++ ds).length = ps.length → BindsTo s fd ⟨us, []⟩ (ps.zip (us ++ ds))
theorem Binds.all {K : PySem.W.Frag} {fd : FuncData} {ps : List Str} (h : ∀ us : List Value, us.length = ps.length → bindArgs fd ⟨us, []⟩ = pure (ps.zip us)) : Binds K fd ps [] := fun s us _ hl => by
  rw [List.append_nil] at hl ⊢
  exact .of_eq (h us hl)

section
variable {X : Cx} {CX : CXT} {k : Nat} {f C : Addr} {fd : FuncData} {ps : List Str} {sp : Sp} {dvs : List V} {ds : List Value} {E : XK} {x m : Str} {p pos apos : Pos} {e o : Expr} {es : List Expr} {ta : TE} {t : TA}

structure Mk (K : PySem.W.Frag) (C f : Addr) : Prop where
  makes : PySem.W.makesIn K C = true
  init : PySem.W.findIn K (.ref C) "__init__" = some (some (.ref f))
  fn : PySem.W.isFn K (.ref f) = true
  kp : PySem.W.keepIn K (.ref C) = true

end

section
variable {X : Cx} {CX : CXT} {k : Nat} {f C : Addr} {fd : FuncData} {ps ks : List Str} {sp : Sp} {E : XK} {x m : Str} {p pos apos kpos : Pos} {e o : Expr} {es : List Expr} {kws : List Keyword} {te ta : TE} {t tk : TA} {nm : Option Str}
structure KBinds (K : PySem.W.Frag) (fd : FuncData) (ps ks : List Str) (g : List Value → List Value → List Value) (gV : List V → List V → List V) : Prop where
  to : ∀ (s : Shared) (us ws : List Value), K.In s.heap → (g us ws).length = ps.length → BindsTo s fd ⟨us, ks.zip ws⟩ (ps.zip (g us ws))
  rel : ∀ {vs : List V} {us : List Value} {zs : List V} {ws : List Value}, Vals vs us → Vals zs ws → Vals (gV vs zs) (g us ws)
variable {g : List Value → List Value → List Value} {gV : List V → List V → List V}
end

structure FnScope (N P : List Str) (sc : Scope) : Prop where
  kind : sc.kind = .function
  co : sc.isCoroutine = false
  gen : sc.isGenerator = false
  nd : N.Nodup
  pre : N.take P.length = P
  par : ∀ x ∈ P, sc.names.lookup x = some .local ∨ sc.names.lookup x = some .cell
  nofree : ∀ y ∈ sc.names, y.2 ≠ .free

theorem bindL_out {kindOf : Str → Option NameKind} {x : Str} : ∀ {binds : List (Str × Value)} {m : Str → Option Value}, (∀ v, (x, v) ∉ binds) → bindL kindOf binds m x = m x
  | [], _, _ => rfl
  | (n, v) :: r, m, h => by
    unfold bindL
    rw [bindL_out fun w hw => h w (List.mem_cons_of_mem _ hw)]
    split
    · have : x ≠ n := by rintro rfl; exact h v List.mem_cons_self
      simp [this]
    · rfl
theorem bindC_out {kindOf : Str → Option NameKind} {x : Str} : ∀ {binds : List (Str × Value)} {m : Str → Option Value}, (∀ v, (x, v) ∉ binds) → bindC kindOf binds m x = m x
  | [], _, _ => rfl
  | (n, v) :: r, m, h => by
    unfold bindC
    rw [bindC_out fun w hw => h w (List.mem_cons_of_mem _ hw)]
    split
    · rfl
    · have : x ≠ n := by rintro rfl; exact h v List.mem_cons_self
      simp [this]
theorem bindL_get {kindOf : Str → Option NameKind} {x : Str} {v : Value} : ∀ {P : List Str} {vs : List Value} {i : Nat} {m : Str → Option Value}, P.Nodup → P[i]? = some x → vs[i]? = some v → kindOf x = some .local →
    bindL kindOf (P.zip vs) m x = some v
  | [], _, _, _, _, h, _, _ => by simp at h
  | _ :: _, [], _, _, _, _, h, _ => by simp at h
  | p :: P, w :: vs, 0, m, nd, h1, h2, hk => by
    simp at h1 h2; subst h1; subst h2
    show bindL kindOf ((p, w) :: P.zip vs) m p = _
    unfold bindL
    rw [bindL_out fun v hv => (List.nodup_cons.mp nd).1 (List.of_mem_zip hv).1, if_pos hk]
    simp
  | p :: P, w :: vs, i + 1, m, nd, h1, h2, hk => by
    show bindL kindOf ((p, w) :: P.zip vs) m x = _
    unfold bindL
    exact bindL_get (i := i) (List.nodup_cons.mp nd).2 (by simpa using h1) (by simpa using h2) hk
theorem bindC_get {kindOf : Str → Option NameKind} {x : Str} {v : Value} : ∀ {P : List Str} {vs : List Value} {i : Nat} {m : Str → Option Value}, P.Nodup → P[i]? = some x → vs[i]? = some v → kindOf x ≠ some .local →
    bindC kindOf (P.zip vs) m x = some v
  | [], _, _, _, _, h, _, _ => by simp at h
  | _ :: _, [], _, _, _, _, h, _ => by simp at h
  | p :: P, w :: vs, 0, m, nd, h1, h2, hk => by
    simp at h1 h2; subst h1; subst h2
    show bindC kindOf ((p, w) :: P.zip vs) m p = _
    unfold bindC
    rw [bindC_out fun v hv => (List.nodup_cons.mp nd).1 (List.of_mem_zip hv).1, if_neg hk]
    simp
  | p :: P, w :: vs, i + 1, m, nd, h1, h2, hk => by
    show bindC kindOf ((p, w) :: P.zip vs) m x = _
    unfold bindC
    exact bindC_get (i := i) (List.nodup_cons.mp nd).2 (by simpa using h1) (by simpa using h2) hk

noncomputable def start (N : List Str) (vs : List V) : St := vs.map some ++ List.replicate (N.length - vs.length) none

noncomputable def cxOf (CX : CXT) (P : Program) (w : World) (K : PySem.W.Frag) (mg : Str → Option Value) (base : Heap) (N : List Str) (qual : Str) (scope : Scope) (f : Addr) (cd : Value) (A : Around) (outer : List Env) (s : Shared) (H : Hp) (E : XK) : Cx where
  prog := P
  w := w
  K := K
  mg := mg
  base := base
  A := A.deeper (envOfC qual scope s.heap.objs.size f cd)
  N := N
  s₀ := s
  H₀ := H
  env := envOfC qual scope s.heap.objs.size f cd
  outer := outer
  stack := envOfC qual scope s.heap.objs.size f cd :: outer
  ex := []
  calm := true
  fn := fun _ => true
  pn := []
  xe := fun e s' => wpAny (model P w) (A.deeper (envOfC qual scope s.heap.objs.size f cd)) (leaving (envOfC qual scope s.heap.objs.size f cd) e) (fun _ s'' => CX outer H s E e s'') (fun e' s'' => CX outer H s E e' s'') s'

theorem cell_has {sc : Scope} {n : Nat} {x : Str} (h : sc.names.lookup x = some .cell) : ∃ c, (cellsFrom n sc.names []).lookup x = some c := by
  have q := PySem.W.cellsFrom_some sc.names n [] (.inl h)
  exact Option.isSome_iff_exists.mp q

theorem inv_start {CX : CXT} {P : Program} {w : World} {K : PySem.W.Frag} {mg : Str → Option Value} {base : Heap} {N ps : List Str} {qual : Str} {scope : Scope} {f : Addr} {cd : Value} {A : Around} {outer : List Env} {s s1 : Shared} {H : Hp} {E : XK} {us : List Value} {vs : List V}
    (S : FnScope N ps scope) (hd : A.handled = none) (e0 : Env0 P w K mg base A outer s H) (hl : vs.length = ps.length) (r : Vals vs us)
    (x : InCallC s s.heap.objs.size (bindL (envOfC qual scope s.heap.objs.size f cd).kindOf (ps.zip us) fun _ => none) (cellsFrom (s.heap.objs.size + 1) scope.names []) (bindC (envOfC qual scope s.heap.objs.size f cd).kindOf (ps.zip us) fun _ => none) s1) :
    Inv (cxOf CX P w K mg base N qual scope f cd A outer s H E) [] (start N vs) H s1 := by
  have hpl : ps.length ≤ N.length := by have := congrArg List.length S.pre; rw [List.length_take] at this; omega
  obtain ⟨h1, tk, rfl, hk⟩ := x.done
  have noA : ∀ b : Addr, b ∉ (cxOf CX P w K mg base N qual scope f cd A outer s H E).ex := fun b z => absurd (show b ∈ ([] : List Addr) from z) (by simp)
  refine ⟨⟨e0.mod, S.kind, rfl, rfl, Nat.le_refl _, fun y z c h1 h2 => ?_, fun y hy => ?_, fun y c _ h => ?_, fun _ => hd, Around.frames_deeper e0.frames, .inr ⟨rfl, rfl⟩, fun b z => absurd z (noA b), e0.bs, e0.bsz, fun b _ _ => noA b, fun b z => absurd z (noA b), e0.funs, e0.frf⟩,
    rfl, e0.bare, Un.kept hk, ⟨_, x.toInCall.ns, fun i y v h1 h2 h3 => ?_⟩, fun y c h => ⟨_, x.cell y c h⟩, e0.hok.fresh (Nat.le_refl _), fun y c h => ?_, fun p hp => absurd (show p ∈ ([] : List (Addr × Obj)) from hp) (by simp), e0.hok.kept hk, ?_⟩
  · exact name_of_addr x.apart (PySem.mem_of_lookup h1) (PySem.mem_of_lookup h2)
  · have hy : scope.names.lookup y = some .cell ∨ scope.names.lookup y = some .free := hy
    rcases hy with hy | hy
    · exact cell_has hy
    · exact absurd rfl (S.nofree _ (PySem.mem_of_lookup hy))
  · exact Nat.le_of_lt (x.above y c (PySem.mem_of_lookup h))
  · have hi : i < vs.length := by
      unfold start at h2
      by_cases hi : i < vs.length
      · exact hi
      · rw [List.getElem?_append_right (by simpa using hi)] at h2
        rw [List.getElem?_replicate] at h2
        split at h2 <;> cases h2
    have ha : vs[i]? = some v := by
      unfold start at h2
      rw [List.getElem?_append_left (by simpa using hi), List.getElem?_map] at h2
      cases e : vs[i]? with
      | none => rw [e] at h2; cases h2
      | some a => rw [e] at h2; cases h2; rfl
    obtain ⟨u, hu, rv⟩ := r.get ha
    have hp : ps[i]? = some y := by
      rw [← S.pre, List.getElem?_take_of_lt (by omega)]; exact h1
    have ndP : ps.Nodup := by rw [← S.pre]; exact S.nd.sublist (List.take_sublist _ _)
    refine ⟨u, rv, ?_⟩
    rcases S.par y (List.mem_of_getElem? hp) with k | k
    · exact .inl ⟨k, bindL_get ndP hp hu k⟩
    · obtain ⟨c, e⟩ := cell_has (n := s.heap.objs.size + 1) k
      refine .inr ⟨.inl k, c, e, ?_⟩
      have q := x.cell y c e
      rw [bindC_get ndP hp hu (by show scope.names.lookup y ≠ _; rw [k]; decide)] at q
      exact q
  · exact e0.hok.fresh (Nat.le_of_lt (x.above y c (PySem.mem_of_lookup h)))
  · unfold start
    show _ = N.length
    rw [List.length_append, List.length_map, List.length_replicate]
    omega

theorem fn_of {CX : CXT} {P : Program} {w : World} {K : PySem.W.Frag} {mg : Str → Option Value} {base : Heap} {k : Nat} {f : Addr} {name qual : Str} {params : Arguments} {body : List Stmt} {scope : Scope} {dV kV doc pm cdv ct oc : Value} {an od : Option Addr}
    {osl : Array (Option Value)} {N ps : List Str} {sp : Sp} (lk : K.lookup f = some ⟨oc, od, .func (PySem.W.fnOf name qual params body scope dV kV doc pm an cdv ct), osl⟩) (hcd : PySem.W.codeIn K cdv qual = true) (S : FnScope N ps scope)
    (len : ∀ vs H Q E, sp vs H Q E → vs.length = ps.length)
    (hbody : ∀ (A : Around) (outer : List Env) (s : Shared) (H : Hp) (vs : List V) (Q : VK) (E : XK), Room k (A.deeper (envOfC qual scope s.heap.objs.size f cdv)) → sp vs H Q E →
      ∃ t, PSs (cxOf CX P w K mg base N qual scope f cdv A outer s H E) body t ∧ t { nx := fun _ H' => Q .non H', rt := Q } (start N vs) H) :
    FnOk P w K mg base CX (k + 1) f (PySem.W.fnOf name qual params body scope dV kV doc pm an cdv ct) ps sp := by
  refine ⟨len, fun A outer s H args us vs Q E hr e0 hb r hsp => ?_⟩
  have hl := len _ _ _ _ hsp
  have KX : K.In s.heap := e0.mod.kin.keeps fun b o e => (e0.bs b o e).1
  have lim : s.heap.NoLimit := e0.mod.nolimit.keeps fun b o e => (e0.bs b o e).1
  have hkind : ∀ y ∈ ps.zip us, scope.names.lookup y.1 = some .local ∨ (scope.names.lookup y.1 = some .cell ∧ ((cellsFrom (s.heap.objs.size + 1) scope.names []).lookup y.1).isSome = true) := fun ⟨n, v⟩ hy => by
    rcases S.par n (List.of_mem_zip hy).1 with q | q
    · exact .inl q
    · exact .inr ⟨q, PySem.W.cellsFrom_some _ _ _ (.inl q)⟩
  refine codeAny_call_function hr.depth (KX _ _ lk) rfl S.co S.gen rfl (PySem.W.codeRec_of KX hcd) (hb _ _ _ _ ?_)
  refine wpAny_newFunctionEnv_cells S.kind hkind fun env he s1 x => ?_
  subst he
  refine ⟨lim.keeps x.toInCall.keep, codeAny_func ?_⟩
  obtain ⟨t, ht, hq⟩ := hbody A outer s H vs Q E (hr.deeper _) hsp
  have I : Inv (cxOf CX P w K mg base N qual scope f cdv A outer s H E) [] (start N vs) H s1 := inv_start S hr.hd e0 hl r x
  refine wpAny_mono (ht [] s1 (start N vs) H _ I hq) (fun fl s' hs => ?_) fun e s' hs => hs
  have fin : ∀ {σ' : St} {H' : Hp} {v : V} {u : Value}, Inv (cxOf CX P w K mg base N qual scope f cdv A outer s H E) [] σ' H' s' → RelV v u → Q v H' → CE outer P w H s Q u s' :=
    fun {σ' H' v u} J rv q => ⟨v, H', J.os, J.bare, J.base, J.hok, rv, q⟩
  cases fl with
  | ret u =>
    obtain ⟨v, σ', H', J, rv, q⟩ := hs
    exact fin J rv q
  | next =>
    obtain ⟨σ', H', J, q⟩ := hs
    exact fin (v := V.non) (u := Value.none) J rfl q
  | brk =>
    obtain ⟨_, _, _, q⟩ := hs
    exact False.elim q
  | cont =>
    obtain ⟨_, _, _, q⟩ := hs
    exact False.elim q
end L2

namespace L2
open PySem PySem.Spec PyProof.Rows
section
variable {X : Cx} {x : Str} {p pos : Pos} {e : Expr} {es : List Expr} {t : TA} {id T : String} {r : List V → Hp → VK → Prop}

noncomputable def tCB (r : List V → Hp → VK → Prop) (t : TA) : TE := fun σ H Q => t σ H fun vs H1 => r vs H1 Q
theorem pe_callB (hc : CallR X (.builtin id) r) (hg : Gl X x) (hm : X.mg x = none) (hv : bootBuiltins x = some (.builtin id)) (ha : PA X (e :: es) t) (hn : x ≠ "__name__" := by decide) (hdb : (x == ("__debug__" : Str)) = false := by decide)
    (he : starEach (e :: es) X.env = (false, eval e X.env) :: starEach es X.env := by rfl) (hpl : (backTo pos (starEach es X.env)).any (·.1) = false := by rfl) : PE X (.Call (.Name x p) (e :: es) [] pos) (tCB r t) := by
  intro pins s σ H Q I h
  refine wpAny_Call_Name_kw (ld_blt I hg hm hv ?_ hn hdb)
  exact PyProof.Rows.callWith_builtin1 (thn (ha pos pins s σ H _ I h) fun us s1 ⟨vs, H1, I1, r1, q1⟩ => hc pins s1 σ H1 vs us Q I1 r1 q1) he hpl
theorem pe_callTy (hc : CallR X (.type T) r) (hg : Gl X x) (hm : X.mg x = none) (hv : bootBuiltins x = some (.type T)) (ha : PA X (e :: es) t) (hn : x ≠ "__name__" := by decide) (hdb : (x == ("__debug__" : Str)) = false := by decide)
    (he : starEach (e :: es) X.env = (false, eval e X.env) :: starEach es X.env := by rfl) (hpl : (backTo pos (starEach es X.env)).any (·.1) = false := by rfl) : PE X (.Call (.Name x p) (e :: es) [] pos) (tCB r t) := by
  intro pins s σ H Q I h
  refine wpAny_Call_Name_kw (ld_blt I hg hm hv ?_ hn hdb)
  exact PyProof.Rows.callWith_type1 (thn (ha pos pins s σ H _ I h) fun us s1 ⟨vs, H1, I1, r1, q1⟩ => hc pins s1 σ H1 vs us Q I1 r1 q1) he hpl
end
end L2

namespace HT
open PySem PyProof.Rows

section
open PySem.SeqAt
open PySem.AutoSeq1 (wpAny_loadPart')
open PySem.MeetsSeq PySem.MeetsSeq2 PySem.MeetsSeq3

end

section
variable {prog : Program} {w : World} {A : Around} {E : Value → Shared → Prop} {s : Shared}

noncomputable def sIx (n d : Nat) : Option Int → Nat
  | none => d
  | some v => if v < 0 then (v + (n : Int)).toNat else min v.toNat n
end
end HT

namespace L2
open PySem PySem.Spec PyProof.Rows

noncomputable abbrev TO := St → Hp → (Option Int → Hp → Prop) → Prop
noncomputable def PO (X : Cx) (e : Option Expr) (t : TO) : Prop :=
  ∀ (pins : List (Addr × Obj)) (s : Shared) (σ : St) (H : Hp) (Q : Option Int → Hp → Prop), Inv X pins σ H s → t σ H Q →
    wpAny (model X.prog X.w) X.A (evalPart e X.env) (fun u s' => ∃ o H', Inv X pins σ H' s' ∧ IsPart u o ∧ Q o H') X.xe s
section
variable {X : Cx} {e : Expr} {te : TE} {lo hi : Option Expr} {tl th : TO} {pos p2 : Pos}

end
end L2

namespace L2
open PySem PySem.Spec PyProof.Rows

noncomputable def ixN (n : Nat) (i : Int) : Option Nat := if 0 ≤ i then (if i < n then some i.toNat else none) else if -(n : Int) ≤ i then some (i + n).toNat else none
noncomputable def atI {α : Type} (xs : List α) (i : Int) : Option α := (ixN xs.length i).bind fun j => xs[j]?
theorem ixN_seq {n : Nat} {i : Int} {j : Nat} (h : ixN n i = some j) : seqIndex? i n = some j ∧ j < n ∧ -(n : Int) ≤ i ∧ i < n := by
  unfold ixN at h
  by_cases h0 : 0 ≤ i
  · rw [if_pos h0] at h
    by_cases h1 : i < n
    · rw [if_pos h1] at h
      have e : i.toNat = j := Option.some.inj h
      exact ⟨by rw [seqIndex_of h0 h1, e], by omega, by omega, h1⟩
    · rw [if_neg h1] at h; cases h
  · rw [if_neg h0] at h
    by_cases h1 : -(n : Int) ≤ i
    · rw [if_pos h1] at h
      have e : (i + n).toNat = j := Option.some.inj h
      exact ⟨by rw [seqIndex_neg (by omega) h1, e], by omega, h1, by omega⟩
    · rw [if_neg h1] at h; cases h
theorem atI_get {α : Type} {xs : List α} {i : Int} {v : α} (h : atI xs i = some v) : ∃ j, seqIndex? i xs.length = some j ∧ xs[j]? = some v ∧ j < xs.length ∧ -(xs.length : Int) ≤ i ∧ i < xs.length := by
  unfold atI at h
  cases e : ixN xs.length i with
  | none => rw [e] at h; cases h
  | some j =>
    rw [e] at h
    obtain ⟨h1, h2, h3, h4⟩ := ixN_seq e
    exact ⟨j, h1, h, h2, h3, h4⟩
theorem atI_nat {α : Type} {xs : List α} {j : Nat} {v : α} (h : xs[j]? = some v) : atI xs (j : Int) = some v := by
  have hj : j < xs.length := (List.getElem?_eq_some_iff.mp h).1
  have e : ixN xs.length (j : Int) = some j := by
    unfold ixN
    rw [if_pos (by omega), if_pos (by omega)]; simp
  unfold atI; rw [e]; exact h
noncomputable def PlainIx (b : Expr) : Prop := ∀ o i, subscripted b false o i = operate [o, i] (getItem o i)
noncomputable def IxR (X : Cx) (r : R2) : Prop :=
  ∀ (value slice : Expr) (pins : List (Addr × Obj)) (s : Shared) (σ : St) (H : Hp) (x y : V) (v u : Value) (Q : VK), Inv X pins σ H s → RelV x v → RelV y u → r x y H Q →
    subscripted slice false v u = operate [v, u] (getItem v u) → wpAny (model X.prog X.w) X.A (subscriptTail value slice v u) (EP X pins σ Q) X.xe s
noncomputable def MtR (X : Cx) (id : String) (r : V → List V → Hp → VK → Prop) : Prop :=
  ∀ (pins : List (Addr × Obj)) (s : Shared) (σ : St) (H : Hp) (x : V) (xs : List V) (v : Value) (us : List Value) (Q : VK), Inv X pins σ H s → RelV x v → Vals xs us → r x xs H Q →
    wpAny (model X.prog X.w) X.A (call (.builtin id) (v :: us)) (EP X pins σ Q) X.xe s
section
variable {X : Cx} {a b : Expr} {ta tb : TE} {pos : Pos}
theorem pe_ix {r : R2} (hr : IxR X r) (ha : PE X a ta) (hb : PE X b tb) (hs : PlainIx b) : PE X (.Subscript a b pos) (tOp r ta tb) := by
  intro pins s σ H Q I h
  exact Subscript_ (binT ha hb I h fun v u s2 x y H2 I2 rx ry q => hr a b pins s2 σ H2 x y v u Q I2 rx ry q (hs _ _))

noncomputable def rIxL (K : PySem.W.Frag) : R2 := fun x y H Q => ∃ p xs i v, x = .ref p ∧ y = .int i ∧ SqL K H p xs ∧ atI xs i = some v ∧ Q v H
noncomputable def rIxT (K : PySem.W.Frag) : R2 := fun x y H Q => ∃ p xs i v, x = .ref p ∧ y = .int i ∧ SqT K H p xs ∧ atI xs i = some v ∧ Q v H
noncomputable def rIxS : R2 := fun x y H Q => ∃ z i c, x = .str z ∧ y = .int i ∧ z.length ≤ sizeLine ∧ atI z.cps.toList i = some c ∧ Q (.str ⟨#[c]⟩) H
theorem ix_list : IxR X (rIxL X.K) := by
  intro value slice pins s σ H x y v u Q I rx ry h hs
  obtain ⟨p, xs, i, z, rfl, rfl, hq, he, q⟩ := h
  cases rx
  obtain ⟨t, rfl⟩ := ry
  obtain ⟨its, r, pl, hz⟩ := I.list hq
  obtain ⟨j, h1, h2, h3, h4, h5⟩ := atI_get he
  obtain ⟨w, ew, rw'⟩ := r.get h2
  have hl := r.length
  have hn := line63
  have fin : EP X pins σ Q w s := ⟨z, H, I, rw', q⟩
  by_cases h0 : 0 ≤ i
  · have hj : i.toNat = j := by
      rw [seqIndex_of h0 h5] at h1
      exact Option.some.inj h1
    exact item_listR pl.isList h0 (by omega) (by rw [hj]; simpa using ew) fin hs
  · have hj : (i + (its.toArray.size : Int)).toNat = j := by
      rw [seqIndex_neg (by omega) h4] at h1
      rw [List.size_toArray, ← hl]
      exact Option.some.inj h1
    exact subscriptTail_builtinR (x := w) pl.isList.typeIs slot_list_getitem.lookup
      (wpAny_getItem_list_neg (Q := fun r s' => r = w ∧ EP X pins σ Q r s') pl.isList (by omega) (by rw [List.size_toArray] <;> omega) (by omega) (by rw [hj]; simpa using ew) ⟨rfl, fin⟩) hs
theorem ix_tup : IxR X (rIxT X.K) := by
  intro value slice pins s σ H x y v u Q I rx ry h hs
  obtain ⟨p, xs, i, z, rfl, rfl, hq, he, q⟩ := h
  cases rx
  obtain ⟨t, rfl⟩ := ry
  obtain ⟨its, r, pl, hz⟩ := I.tuple hq
  obtain ⟨j, h1, h2, h3, h4, h5⟩ := atI_get he
  obtain ⟨w, ew, rw'⟩ := r.get h2
  have hl := r.length
  have hn := line63
  have fin : EP X pins σ Q w s := ⟨z, H, I, rw', q⟩
  exact subscriptTail_builtinR (x := w) pl.typeIs slot_tuple_getitem.lookup
    (getItem_tuple (j := j) (Q := fun r s' => r = w ∧ EP X pins σ Q r s') pl (by omega) (by omega) (by rw [List.size_toArray, ← hl]; exact h1) (by simpa using ew) ⟨rfl, fin⟩) hs
theorem ix_str : IxR X rIxS := by
  intro value slice pins s σ H x y v u Q I rx ry h hs
  obtain ⟨z, i, c, rfl, rfl, hz, he, q⟩ := h
  obtain ⟨t, rfl⟩ := rx
  obtain ⟨t', rfl⟩ := ry
  obtain ⟨j, h1, h2, h3, h4, h5⟩ := atI_get he
  have hl : z.cps.toList.length = z.length := by simp [Str.length]
  rw [hl] at h1 h4 h5
  have hn := line63
  exact tail_any (typeIs_str s z t) slot_str_getitem.lookup (getItem_str (c := c) (by
    have e1 : decide (i < -(2 ^ 63 : Int)) = false := decide_eq_false (by omega)
    have e2 : decide (i ≥ 2 ^ 63) = false := decide_eq_false (by omega)
    rw [e1, e2, Bool.or_false]) (by rw [h1]; simpa using h2) ⟨.str ⟨#[c]⟩, H, I.tok _, ⟨_, rfl⟩, q⟩) hs
theorem Inv.lst {pins : List (Addr × Obj)} {σ : St} {H : Hp} {s : Shared} {p : Addr} {xs : List V} (I : Inv X pins σ H s) (h : H p = some (.lst xs)) :
    ∃ (its : List Value) (n : Nat), Vals xs its ∧ s.heap.get? p = some { cls := .type "list", data := .seq its.toArray n } ∧ xs.length ≤ sizeLine := by
  obtain ⟨z, its, n, r, e⟩ := I.hok p _ h
  exact ⟨its, n, r, e, z⟩
noncomputable def flatV : V → Bool
  | .non => true
  | .bl _ => true
  | .int _ => true
  | .str _ => true
  | _ => false
noncomputable def eqV : V → V → Bool
  | .non, .non => true
  | .bl a, .bl b => a == b
  | .bl a, .int b => (if a then 1 else 0) == b
  | .int a, .bl b => a == (if b then 1 else 0)
  | .int a, .int b => a == b
  | .str a, .str b => a == b
  | _, _ => false
theorem eqAt_V {A : Around} {s : Shared} {y x : V} {u v : Value} (ry : RelV y u) (rx : RelV x v) (fy : flatV y = true) (fx : flatV x = true) : SeqAt.EqAt A s u v (eqV y x) := by
  cases y with
  | non =>
    cases ry
    cases x with
    | non => cases rx; exact SeqAt.EqAt.same _
    | bl b => cases rx; exact SeqAt.EqAt.none_bool b
    | int b => obtain ⟨t, rfl⟩ := rx; exact SeqAt.EqAt.none_int b t
    | str b => obtain ⟨t, rfl⟩ := rx; exact SeqAt.EqAt.none_str b t
    | _ => exact absurd (show false = true from fx) Bool.false_ne_true
  | bl a =>
    cases ry
    cases x with
    | non => cases rx; exact SeqAt.EqAt.bool_none a
    | bl b => cases rx; exact SeqAt.EqAt.bool_bool a b
    | int b => obtain ⟨t, rfl⟩ := rx; exact SeqAt.EqAt.bool_int a b t
    | str b => obtain ⟨t, rfl⟩ := rx; exact SeqAt.EqAt.bool_str a b t
    | _ => exact absurd (show false = true from fx) Bool.false_ne_true
  | int a =>
    obtain ⟨t', rfl⟩ := ry
    cases x with
    | non => cases rx; exact SeqAt.EqAt.int_none a t'
    | bl b => cases rx; exact SeqAt.EqAt.int_bool a t' b
    | int b => obtain ⟨t, rfl⟩ := rx; exact SeqAt.EqAt.int_int a t' b t
    | str b => obtain ⟨t, rfl⟩ := rx; exact SeqAt.EqAt.int_str a t' b t
    | _ => exact absurd (show false = true from fx) Bool.false_ne_true
  | str a =>
    obtain ⟨t', rfl⟩ := ry
    cases x with
    | non => cases rx; exact SeqAt.EqAt.str_none a t'
    | bl b => cases rx; exact SeqAt.EqAt.str_bool a t' b
    | int b => obtain ⟨t, rfl⟩ := rx; exact SeqAt.EqAt.str_int a t' b t
    | str b => obtain ⟨t, rfl⟩ := rx; exact SeqAt.EqAt.str_str a t' b t
    | _ => exact absurd (show false = true from fx) Bool.false_ne_true
  | _ => exact absurd (show false = true from fy) Bool.false_ne_true
noncomputable def eqU (x : V) (u : Value) : Bool := match u with
  | .none => eqV .non x
  | .bool b => eqV (.bl b) x
  | .int i _ => eqV (.int i) x
  | .str z _ => eqV (.str z) x
  | _ => false
theorem eqU_of {x y : V} {u : Value} (r : RelV y u) (f : flatV y = true) : eqU x u = eqV y x := by
  cases y with
  | non => cases r; rfl
  | bl b => cases r; rfl
  | int i => obtain ⟨t, rfl⟩ := r; rfl
  | str z => obtain ⟨t, rfl⟩ := r; rfl
  | _ => exact absurd (show false = true from f) Bool.false_ne_true
theorem any_eqU {x : V} : ∀ {xs : List V} {us : List Value}, Vals xs us → xs.all flatV = true → us.any (eqU x) = xs.any fun y => eqV y x
  | _, _, .nil, _ => rfl
  | y :: xs, u :: us, .cons r t, f => by
    rw [List.all_cons, Bool.and_eq_true] at f
    rw [List.any_cons, List.any_cons, eqU_of r f.1, any_eqU t f.2]
theorem mem_eqAt {A : Around} {s : Shared} {x : V} {v : Value} (rx : RelV x v) (fx : flatV x = true) : ∀ {xs : List V} {us : List Value}, Vals xs us → xs.all flatV = true → ∀ u ∈ us, SeqAt.EqAt A s u v (eqU x u)
  | _, _, .nil, _ => fun u hu => by cases hu
  | y :: xs, u :: us, .cons r t, f => fun u' hu => by
    rw [List.all_cons, Bool.and_eq_true] at f
    rcases List.mem_cons.mp hu with rfl | hu
    · rw [eqU_of r f.1]; exact eqAt_V r rx f.1 fx
    · exact mem_eqAt rx fx t f.2 u' hu
noncomputable def inV (x : V) (xs : List V) : Bool := xs.any fun y => eqV y x
noncomputable def rIn (K : PySem.W.Frag) (neg : Bool) : R2 := fun x y H Q => ∃ p xs, y = .ref p ∧ (SqL K H p xs ∨ SqT K H p xs) ∧ flatV x = true ∧ xs.all flatV = true ∧ Q (.bl (if neg then !inV x xs else inV x xs)) H
theorem op_in_seq : OpR X (compareOp .In) (rIn X.K false) := by
  intro pins s σ H x y v u Q I rx ry h
  obtain ⟨p, xs, rfl, hq, fx, fs, q⟩ := h
  cases ry
  rcases hq with hq | hq
  · obtain ⟨its, r, pl, hz⟩ := I.list hq
    refine SeqAt.in_listAt (eqU x) pl.isList (fun w hw => mem_eqAt rx fx r fs w (by simpa using hw)) ⟨.bl _, H, I, rfl, ?_⟩
    rw [show its.toArray.any (eqU x) = its.any (eqU x) by simp, any_eqU r fs]
    exact q
  · obtain ⟨its, r, pl, hz⟩ := I.tuple hq
    refine SeqAt.in_tupleAt (eqU x) pl (fun w hw => mem_eqAt rx fx r fs w (by simpa using hw)) ⟨.bl _, H, I, rfl, ?_⟩
    rw [show its.toArray.any (eqU x) = its.any (eqU x) by simp, any_eqU r fs]
    exact q
theorem op_notIn_seq : OpR X (compareOp .NotIn) (rIn X.K true) := by
  intro pins s σ H x y v u Q I rx ry h
  obtain ⟨p, xs, rfl, hq, fx, fs, q⟩ := h
  cases ry
  rcases hq with hq | hq
  · obtain ⟨its, r, pl, hz⟩ := I.list hq
    refine SeqAt.notIn_listAt (eqU x) pl.isList (fun w hw => mem_eqAt rx fx r fs w (by simpa using hw)) ⟨.bl _, H, I, rfl, ?_⟩
    rw [show its.toArray.any (eqU x) = its.any (eqU x) by simp, any_eqU r fs]
    exact q
  · obtain ⟨its, r, pl, hz⟩ := I.tuple hq
    refine SeqAt.notIn_tupleAt (eqU x) pl (fun w hw => mem_eqAt rx fx r fs w (by simpa using hw)) ⟨.bl _, H, I, rfl, ?_⟩
    rw [show its.toArray.any (eqU x) = its.any (eqU x) by simp, any_eqU r fs]
    exact q
theorem op_notIn_str : OpR X (compareOp .NotIn) (fun x y H Q => ∃ i j, x = .str i ∧ y = .str j ∧ Q (.bl (!(!(Builtin.Str.occurrences j i 0 j.length 1).isEmpty))) H) := by
  intro pins s σ H x y v u Q I rx ry h
  obtain ⟨i, j, rfl, rfl, q⟩ := h
  obtain ⟨t, rfl⟩ := rx
  obtain ⟨t', rfl⟩ := ry
  exact notIn_str ⟨.bl _, H, I, rfl, q⟩

theorem call_len_seq : CallR X (.builtin "len") (fun xs H Q => ∃ p ys, xs = [.ref p] ∧ (SqL X.K H p ys ∨ SqT X.K H p ys) ∧ Q (.int ys.length) H) := by
  intro pins s σ H xs us Q I r h
  obtain ⟨p, ys, rfl, hq, q⟩ := h
  obtain ⟨u, rfl, rx⟩ := vals1 r
  cases rx
  have hn := line63
  rcases hq with hq | hq
  · obtain ⟨its, r', pl, hz⟩ := I.list hq
    have hlen := r'.length
    exact Calls.call_len_list pl.isList (by simp only [List.size_toArray] <;> omega) ⟨.int ys.length, H, I.tok _, ⟨s.toks + 1, by rw [List.size_toArray, hlen]⟩, q⟩
  · obtain ⟨its, r', pl, hz⟩ := I.tuple hq
    have hlen := r'.length
    exact len_tuple pl (by simp only [List.size_toArray] <;> omega) ⟨.int ys.length, H, I.tok _, ⟨s.toks + 1, by rw [List.size_toArray, hlen]⟩, q⟩
theorem call_len_str : CallR X (.builtin "len") (fun xs H Q => ∃ z, xs = [.str z] ∧ z.length ≤ sizeLine ∧ Q (.int z.length) H) := by
  intro pins s σ H xs us Q I r h
  obtain ⟨z, rfl, hz, q⟩ := h
  obtain ⟨u, rfl, t, rfl⟩ := vals1 r
  have hn := line63
  exact len_str (by omega) ⟨.int z.length, H, I.tok _, ⟨_, rfl⟩, q⟩
theorem call_list_of : CallR X (.type "list") (fun xs H Q => ∃ p ys, xs = [.ref p] ∧ (SqL X.K H p ys ∨ SqT X.K H p ys) ∧ ∀ l, H l = none → Q (.ref l) (upd H l (.lst ys))) := by
  intro pins s σ H xs us Q I r h
  obtain ⟨p, ys, rfl, hq, q⟩ := h
  obtain ⟨u, rfl, rx⟩ := vals1 r
  cases rx
  have fin : ∀ (its : List Value), Vals ys its → ys.length ≤ sizeLine → ∀ (h' : Heap) (c' : Nat), (∀ b o', s.heap.get? b = some o' → h'.get? b = some o') →
      h'.get? s.heap.objs.size = some { cls := .type "list", dict := none, data := .seq its.toArray c', slots := #[] } → EP X pins σ Q (.ref s.heap.objs.size) { s with heap := h' } := fun its r' hz h' c' kp e =>
    ⟨.ref s.heap.objs.size, _, I.laid (t' := s.toks) kp (Nat.le_refl _) (show ObjOk X.prog X.w _ h' _ (.lst ys) from ⟨hz, its, c', r', e⟩), rfl, q _ (I.hok.fresh (Nat.le_refl _))⟩
  rcases hq with hq | hq
  · obtain ⟨its, r', pl, hz⟩ := I.list hq
    have hlen := r'.length
    obtain ⟨o, ho, hc, n, hd⟩ := pl.isList
    exact call_list_seq p (.inl rfl) ho hc hd (fun h' c' kp e => fin its r' hz h' c' kp e) (by simp only [List.size_toArray] <;> omega)
  · obtain ⟨its, r', pl, hz⟩ := I.tuple hq
    have hlen := r'.length
    obtain ⟨o, ho, hc, n, hd⟩ := pl
    exact call_list_seq p (.inr rfl) ho hc hd (fun h' c' kp e => fin its r' hz h' c' kp e) (by simp only [List.size_toArray] <;> omega)
theorem call_tuple_of : CallR X (.type "tuple") (fun xs H Q => ∃ p ys, xs = [.ref p] ∧ ((SqL X.K H p ys ∧ ∀ l, H l = none → Q (.ref l) (upd H l (.tup ys))) ∨ (SqT X.K H p ys ∧ Q (.ref p) H))) := by
  intro pins s σ H xs us Q I r h
  obtain ⟨p, ys, rfl, h⟩ := h
  obtain ⟨u, rfl, rx⟩ := vals1 r
  cases rx
  rcases h with ⟨hq, q⟩ | ⟨hq, q⟩
  · obtain ⟨its, r', pl, hz⟩ := I.list hq
    have hlen := r'.length
    refine call_tuple_list pl.isList (fun h' kp => ?_) (by simp only [List.size_toArray] <;> omega)
    have I1 : Inv X pins σ H { s with heap := h' } := I.kept (t' := s.toks) kp
    have I2 : Inv X pins σ (upd H h'.objs.size (.tup ys)) { s with heap := h'.push { cls := .type "tuple", data := .seq its.toArray } } :=
      I1.laid (t' := s.toks) (fun b o e => Heap.get?_push_of_some _ e) (Nat.le_refl _) (show ObjOk X.prog X.w _ _ _ (.tup ys) from ⟨hz, its, r', IsTup.new _ _⟩)
    exact ⟨.ref h'.objs.size, _, I2, rfl, q _ (I1.hok.fresh (Nat.le_refl _))⟩
  · obtain ⟨its, r', pl, hz⟩ := I.tuple hq
    exact call_tuple_same pl ⟨.ref p, H, I, rfl, q⟩

noncomputable def tyV (K : PySem.W.Frag) (T : String) (x : V) (H : Hp) : Prop := match x with
  | .str _ => T = "str"
  | .int _ => T = "int"
  | .ref p => (T = "list" ∧ ∃ xs, SqL K H p xs) ∨ (T = "tuple" ∧ ∃ o, K.lookup p = some o ∧ o.cls = .type "tuple" ∧ o.dict = none) ∨
      (T = "dict" ∧ ((∃ kvs, H p = some (.dK kvs)) ∨ ∃ kvs, H p = some (.dT kvs))) ∨ (T = "set" ∧ ∃ S n, H p = some (.set S n))
  | _ => False
theorem tyV_is {pins : List (Addr × Obj)} {σ : St} {H : Hp} {s : Shared} {T : String} {x : V} {v : Value} (I : Inv X pins σ H s) (r : RelV x v) (ty : tyV X.K T x H) :
    s.TypeIs v T ∧ ∀ a, v = .ref a → ∃ ob, s.heap.get? a = some ob ∧ ob.dict = none := by
  cases x with
  | str z =>
    obtain ⟨t, rfl⟩ := r
    cases (show T = "str" from ty)
    exact ⟨typeIs_str s z t, fun _ e => nomatch e⟩
  | int i =>
    obtain ⟨t, rfl⟩ := r
    cases (show T = "int" from ty)
    exact ⟨typeIs_int s i t, fun _ e => nomatch e⟩
  | ref p =>
    cases r
    rcases ty with ⟨rfl, xs, hq⟩ | ⟨rfl, o, hk, hc, hd⟩ | ⟨rfl, hk⟩ | ⟨rfl, S, n, hk⟩
    · obtain ⟨its, _, pl, _⟩ := I.list hq
      refine ⟨pl.isList.typeIs, fun a e => ?_⟩
      cases e
      obtain ⟨o, n, e, c, hd, _⟩ := pl
      exact ⟨o, e, hd⟩
    · refine ⟨⟨o, I.kIn p o hk, hc⟩, fun a e => ?_⟩
      cases e
      exact ⟨o, I.kIn _ o hk, hd⟩
    · have z : ∃ o, s.heap.get? p = some o ∧ o.ExactDict := by
        rcases hk with ⟨kvs, hk⟩ | ⟨kvs, hk⟩
        · obtain ⟨_, _, _, _, o, _, _, e, ex, _⟩ := I.hok p _ hk
          exact ⟨o, e, ex⟩
        · obtain ⟨_, _, _, _, o, _, _, e, ex, _⟩ := I.hok p _ hk
          exact ⟨o, e, ex⟩
      obtain ⟨o, e, ex⟩ := z
      refine ⟨⟨o, e, ex.1⟩, fun a e2 => ?_⟩
      cases e2
      exact ⟨o, e, ex.2.1⟩
    · obtain ⟨o, _, _, _, e, ex, _⟩ := I.hok p _ hk
      refine ⟨⟨o, e, ex.1⟩, fun a e2 => ?_⟩
      cases e2
      exact ⟨o, e, ex.2.1⟩
  | _ => exact False.elim ty
noncomputable def tBM0 (K : PySem.W.Frag) (T : String) (r : V → List V → Hp → VK → Prop) (to : TE) : TE := fun σ H Q => to σ H fun x H1 => tyV K T x H1 ∧ r x [] H1 Q
noncomputable def tBM (K : PySem.W.Frag) (T : String) (r : V → List V → Hp → VK → Prop) (to : TE) (t : TA) : TE := fun σ H Q => to σ H fun x H1 => tyV K T x H1 ∧ t σ H1 fun xs H2 => r x xs H2 Q
variable {o e : Expr} {es : List Expr} {to : TE} {t : TA} {name : Str} {apos cpos : Pos} {T id : String} {r : V → List V → Hp → VK → Prop}
theorem pe_bm0 (pa : PlainAttrs T) (slot : Slot T name id) (hty : typeOf (.builtin id) = pure (.type "method_descriptor")) (hm : MtR X id r) (ho : PE X o to)
    (hbase : attributeBase o name X.env (eval o X.env) = eval o X.env := by rfl) (hline : (apos.endLine == cpos.line) = true := by rfl) : PE X (.Call (.Attribute o name apos) [] [] cpos) (tBM0 X.K T r to) := by
  intro pins s σ H Q I h
  refine wpAny_Call_method0_late hbase hline (thn (ho pins s σ H _ I h) fun v s1 ⟨x, H1, I1, r1, ty, q1⟩ => ?_)
  obtain ⟨h1, h2⟩ := tyV_is I1 r1 ty
  exact ⟨T, id, pa, slot, hty, h1, h2, Calls.callWith_builtin rfl (PySem.evalArgs_none (hm pins s1 σ H1 x [] v [] Q I1 r1 .nil q1))⟩
theorem pe_bm (pa : PlainAttrs T) (slot : Slot T name id) (hty : typeOf (.builtin id) = pure (.type "method_descriptor")) (hm : MtR X id r) (ho : PE X o to) (ha : PA X (e :: es) t)
    (hbase : attributeBase o name X.env (eval o X.env) = eval o X.env := by rfl)
    (hfew : ((backTo cpos (starEach (e :: es) X.env)).all (fun x => !x.1) && (backToKw cpos (keywordEach [] X.env)).all (fun x => x.1.isSome)
      && decide ((e :: es).length + ([] : List Keyword).length + (if ([] : List Keyword).isEmpty then 0 else 1) < 30)) = true := by rfl)
    (hline : (apos.endLine == cpos.line) = true := by rfl) (hs : starEach (e :: es) X.env = (false, eval e X.env) :: starEach es X.env := by rfl) (hplain : (backTo cpos (starEach es X.env)).any (·.1) = false := by rfl) :
    PE X (.Call (.Attribute o name apos) (e :: es) [] cpos) (tBM X.K T r to t) := by
  intro pins s σ H Q I h
  refine wpAny_Call_method_late hbase hfew hline rfl (thn (ho pins s σ H _ I h) fun v s1 ⟨x, H1, I1, r1, ty, q1⟩ => ?_)
  obtain ⟨h1, h2⟩ := tyV_is I1 r1 ty
  refine ⟨T, id, pa, slot, hty, h1, h2, ?_⟩
  have hA := ha cpos pins s1 σ H1 _ I1 q1
  rw [hs] at hA ⊢
  refine Calls.callWith_builtin (by show (false || (backTo cpos (starEach es X.env)).any (·.1)) = false; rw [hplain] <;> rfl) (Calls.evalArgs_plain ?_)
  exact thn hA fun us s2 ⟨vs, H2, I2, r2, q2⟩ => hm pins s2 σ H2 x vs v us Q I2 r1 r2 q2
end
end L2

namespace L2
open PySem PySem.Spec PyProof.Rows

noncomputable def MtM (X : Cx) (id : String) (r : V → List V → Hp → VK → Prop) : Prop :=
  ∀ (pins : List (Addr × Obj)) (s : Shared) (σ : St) (H : Hp) (x : V) (xs : List V) (v : Value) (us : List Value) (Q : VK), Inv X pins σ H s → RelV x v → Vals xs us → r x xs H Q →
    wpAny (model X.prog X.w) X.A (call (.builtin id) (v :: us)) (EP X pins σ Q) X.xe s

theorem Vals.one : ∀ {x : V} {us : List Value}, Vals [x] us → ∃ u, us = [u] ∧ RelV x u
  | _, _, .cons r .nil => ⟨_, rfl, r⟩
theorem Vals.two : ∀ {x y : V} {us : List Value}, Vals [x, y] us → ∃ u v, us = [u, v] ∧ RelV x u ∧ RelV y v
  | _, _, _, .cons r (.cons q .nil) => ⟨_, _, rfl, r, q⟩
theorem Vals.zero : ∀ {us : List Value}, Vals [] us → us = []
  | _, .nil => rfl
theorem Vals.dropLast {xs : List V} {us : List Value} (h : Vals xs us) : Vals xs.dropLast us.dropLast := by
  induction h with
  | nil => exact .nil
  | cons r t ih =>
    cases t with
    | nil => exact .nil
    | cons q t' => exact .cons r ih
theorem Vals.eraseIdx : ∀ {xs : List V} {us : List Value} (i : Nat), Vals xs us → Vals (xs.eraseIdx i) (us.eraseIdx i)
  | _, _, _, .nil => .nil
  | _, _, 0, .cons _ t => t
  | _, _, i + 1, .cons r t => .cons r (Vals.eraseIdx i t)
theorem Vals.reverse {xs : List V} {us : List Value} (h : Vals xs us) : Vals xs.reverse us.reverse := by
  induction h with
  | nil => exact .nil
  | cons r t ih => rw [List.reverse_cons, List.reverse_cons]; exact Vals.append ih (.cons r .nil)
theorem Vals.rep {xs : List V} {us : List Value} (h : Vals xs us) : ∀ k : Nat, Vals (List.replicate k xs).flatten (List.replicate k us).flatten
  | 0 => .nil
  | k + 1 => by
    rw [List.replicate_succ, List.replicate_succ, List.flatten_cons, List.flatten_cons]
    exact Vals.append h (Vals.rep h k)
theorem erase_last {α : Type} (l : List α) : l.eraseIdx (l.length - 1) = l.dropLast := by
  induction l with
  | nil => rfl
  | cons a r ih =>
    cases r with
    | nil => rfl
    | cons b r =>
      have e : (a :: b :: r).length - 1 = ((b :: r).length - 1) + 1 := by
        have h1 : (a :: b :: r).length = r.length + 2 := rfl
        have h2 : (b :: r).length = r.length + 1 := rfl
        omega
      rw [e, List.eraseIdx_cons_succ, ih]
      all_goals rfl
theorem len_erase {α : Type} : ∀ (l : List α) (i : Nat), (l.eraseIdx i).length ≤ l.length
  | [], _ => Nat.le_refl _
  | _ :: _, 0 => Nat.le_succ _
  | _ :: r, i + 1 => Nat.succ_le_succ (len_erase r i)
section
variable {X : Cx} {pins : List (Addr × Obj)} {σ : St} {H : Hp} {s : Shared} {l b : Addr} {xs ys zs : List V}

theorem Inv.lset {its its' : List Value} {n : Nat} {f : Array Value → Array Value} {t' : Nat} (I : Inv X pins σ H s) (hH : H l = some (.lst xs))
    (e : s.heap.get? l = some { cls := .type "list", data := .seq its.toArray n }) (hf : f its.toArray = its'.toArray) (hv : Vals ys its') (hz : ys.length ≤ sizeLine) :
    Inv X pins σ (upd H l (.lst ys)) { s with heap := s.heap.update l (Obj.mapSeq f), toks := t' } := by
  have q := PySem.IsL.update e f
  rw [hf] at q
  refine I.write (x := l) (e := l) (by rw [hH]; exact trivial) (.inl rfl) (fun b' u hb hu => (Heap.get?_update_other s.heap (Obj.mapSeq f) (Ne.symm hb)).trans hu) ⟨_, q⟩ ?_
  exact ⟨hz, its', _, hv, q⟩
theorem Inv.lnew {its : List Value} {t' : Nat} (I : Inv X pins σ H s) (hv : Vals ys its) (hz : ys.length ≤ sizeLine) :
    Inv X pins σ (upd H s.heap.objs.size (.lst ys)) { s with heap := s.heap.push { cls := .type "list", data := .seq its.toArray }, toks := t' } :=
  I.laid (fun _ _ q => Heap.get?_push_of_some _ q) (Nat.le_refl _) ⟨hz, its, 0, hv, Heap.get?_push_size _ rfl⟩
theorem Inv.fresh (I : Inv X pins σ H s) : H s.heap.objs.size = none := I.hok.fresh (Nat.le_refl _)
theorem Inv.lstM (I : Inv X pins σ H s) (hH : H l = some (.lst xs)) : xs.length ≤ sizeLine ∧ ∃ (its : List Value) (n : Nat), Vals xs its ∧ xs.length = its.length ∧ s.heap.get? l = some { cls := .type "list", data := .seq its.toArray n } := by
  obtain ⟨z, its, n, r, e⟩ := I.hok l _ hH
  exact ⟨z, its, n, r, r.length, e⟩

theorem notLongL {n : Nat} (h : n ≤ sizeLine) : Builtin.List.listTooLong n = false := by
  unfold Builtin.List.listTooLong
  exact decide_eq_false (by omega)
end

section
variable {X : Cx}

noncomputable def rAppend : V → List V → Hp → VK → Prop := fun x vs H Q => ∃ l xs y, x = .ref l ∧ vs = [y] ∧ H l = some (.lst xs) ∧ xs.length < sizeLine ∧ Q .non (upd H l (.lst (xs ++ [y])))
theorem mt_append : MtM X "list.append" rAppend := by
  intro pins s σ H x vs v us Q I rx rv h
  obtain ⟨l, xs, y, rfl, rfl, hH, hz, q⟩ := h
  cases rx
  obtain ⟨u, rfl, ru⟩ := rv.one
  obtain ⟨z, its, n, r, hl, e⟩ := I.lstM hH
  refine call_meets F.slot_list_append ⟨_, e, rfl⟩ F.entry_list_append (F.args_list_append_2 _ _) (PySem.list_append l its.toArray n u (by rw [List.size_toArray]; omega)) ⟨e, ?_⟩
  refine ⟨.non, _, I.lset (its' := its ++ [u]) hH e (by simp) (r.append (.cons ru .nil)) ?_, rfl, q⟩
  rw [List.length_append, List.length_singleton]
  omega

noncomputable def rPop : V → List V → Hp → VK → Prop := fun x vs H Q => ∃ l xs y, x = .ref l ∧ vs = [] ∧ H l = some (.lst xs) ∧ xs[xs.length - 1]? = some y ∧ Q y (upd H l (.lst xs.dropLast))
theorem mt_pop : MtM X "list.pop" rPop := by
  intro pins s σ H x vs v us Q I rx rv h
  obtain ⟨l, xs, y, rfl, rfl, hH, hy, q⟩ := h
  cases rx
  have hus := rv.zero
  subst hus
  obtain ⟨z, its, n, r, hl, e⟩ := I.lstM hH
  obtain ⟨u, hu, ru⟩ := r.get hy
  have hy' : its.toArray[its.toArray.size - 1]? = some u := by
    show its.toArray[its.length - 1]? = some u
    rw [← Array.getElem?_toList, ← hl]
    exact hu
  refine call_meets F.slot_list_pop ⟨_, e, rfl⟩ F.entry_list_pop (F.args_list_pop_1 _) (MeetsSeq.list_pop_last l its.toArray n u hy' (by rw [List.size_toArray]; omega)) ⟨e, ?_⟩
  refine ⟨y, _, I.lset (its' := its.dropLast) hH e ?_ r.dropLast ?_, ru, q⟩
  · show its.toArray.eraseIdxIfInBounds (its.toArray.size - 1) = its.dropLast.toArray
    rw [List.size_toArray, List.eraseIdxIfInBounds_toArray, erase_last]
  · rw [List.length_dropLast]
    omega

noncomputable def rPopAt : V → List V → Hp → VK → Prop := fun x vs H Q => ∃ l xs i k y, x = .ref l ∧ vs = [.int i] ∧ H l = some (.lst xs) ∧ -(2 ^ 63) ≤ i ∧ i < 2 ^ 63 ∧ seqIndex? i xs.length = some k ∧ xs[k]? = some y ∧ Q y (upd H l (.lst (xs.eraseIdx k)))
theorem mt_popAt : MtM X "list.pop" rPopAt := by
  intro pins s σ H x vs v us Q I rx rv h
  obtain ⟨l, xs, i, k, y, rfl, rfl, hH, h1, h2, hk, hy, q⟩ := h
  cases rx
  obtain ⟨u, rfl, ru⟩ := rv.one
  obtain ⟨t, rfl⟩ := ru
  obtain ⟨z, its, n, r, hl, e⟩ := I.lstM hH
  obtain ⟨w, hw, rw'⟩ := r.get hy
  refine call_meets F.slot_list_pop ⟨_, e, rfl⟩ F.entry_list_pop (F.args_list_pop_2 _ _)
    (MeetsSeq.list_pop_at l its.toArray n i t k w (fitsIndex_both h1 h2) (by rw [List.size_toArray, ← hl]; exact hk) (by rw [← Array.getElem?_toList]; exact hw) (by rw [List.size_toArray]; omega)) ⟨e, ?_⟩
  refine ⟨y, _, I.lset (its' := its.eraseIdx k) hH e ?_ (r.eraseIdx k) ?_, rw', q⟩
  · show its.toArray.eraseIdxIfInBounds k = (its.eraseIdx k).toArray
    rw [List.eraseIdxIfInBounds_toArray]
  · have := len_erase xs k
    omega

end

section
variable {prog : Program} {w : World} {A : Around} {E : Value → Shared → Prop} {s : Shared}
theorem bounds_run {a c n : Nat} (hac : a ≤ c) (hc : c ≤ n) : sliceBounds (some (a : Int)) (some (c : Int)) none n = ((a : Int), (c : Int), 1) := by
  simp only [sliceBounds, Option.getD_none]
  have h1 : ¬ ((a : Int) < 0) := by omega
  have h2 : ¬ ((c : Int) < 0) := by omega
  simp only [h1, h2, if_false, show (1 : Int) > 0 by decide, if_true]
  congr 1
  · omega
  · congr 1; omega
set_option maxRecDepth 100000 in
theorem setItem_slice {l b sl : Addr} {items new : Array Value} {n n2 : Nat} {vl vu : Value} {a c : Nat} {Q : Unit → Shared → Prop}
    (e : s.heap.get? l = some { cls := .type "list", data := .seq items n }) (e2 : s.heap.get? b = some { cls := .type "list", data := .seq new n2 }) (hne : l ≠ b)
    (hs : s.heap.IsSliceOf sl vl vu .none) (pl : IsPart vl (some (a : Int))) (pu : IsPart vu (some (c : Int))) (hac : a ≤ c) (hc : c ≤ items.size)
    (hsz : items.size + new.size ≤ sizeLine) (h : Q () { s with heap := s.heap.update l (Obj.mapSeq fun xs => xs.extract 0 a ++ new ++ xs.extract c xs.size) }) :
    wpAny (model prog w) A (setItem (.ref l) (.ref sl) (.ref b)) Q E s := by
  have hl : s.heap.IsList l items := PySem.IsL.isList e
  have hb : s.heap.IsList b new := PySem.IsL.isList e2
  obtain ⟨os, hos, hcs, hds⟩ := id hs
  have hTs : s.TypeIs (.ref sl) "slice" := ⟨os, hos, hcs⟩
  have hstep : ¬ ((rawPart none == rawInt 0) = true) := Bool.false_ne_true
  have hsame : Builtin.List.listSameRef (.ref l) (.ref b) = false := by
    unfold Builtin.List.listSameRef
    exact beq_eq_false_iff_ne.mpr hne
  have hmax : (max (a : Int) (c : Int)).toNat = c := by omega
  have hz' : ((fun xs : Array Value => xs.extract 0 a ++ new ++ xs.extract c xs.size) items).size ≤ sizeLine + 1 := by
    simp only [Array.size_append, Array.size_extract]
    omega
  unfold setItem
  try with_reducible refine wpAny_holding ?_
  first | refine wpAny_bind (wpAny_pure ?_) | skip
  refine wpAny_bind (wpAny_sequenceKey hl.typeIs (by decide) ?_)
  refine wpAny_bind (wpAny_callSpecial?_slot (name := Str.ofString "__setitem__") hl.typeIs slot_list_setitem
    (wpAny_call_entry slot_list_setitem hl.typeIs entry_list_setitem ?_ (args_list_setitem _ _ _)))
  show wpAny _ _ (Builtin.List.listSubscript? (.ref sl) >>= _) _ _ s
  refine wpAny_bind ?_
  unfold Builtin.List.listSubscript?
  refine wpAny_bind (wpAny_specialOf hTs slice_no_index ?_)
  simp only [Option.isNone_none, if_true]
  refine wpAny_pure ?_
  show wpAny _ _ (typeOf (.ref sl) >>= _) _ _ s
  refine wpAny_bind (wpAny_typeOf hTs ?_)
  first
    | rw [if_neg (by decide)]
    | refine PySem.W.KFB.if_not (by decide) ?_
  rw [listSliceParts_eq]
  refine wpAny_bind (wpAny_bind (wpAny_field hos hds (x := .none) rfl (wpAny_bind (wpAny_listPart .none ?_))))
  rw [if_neg hstep]
  refine wpAny_bind (wpAny_field hos hds (x := vl) rfl (wpAny_bind (wpAny_listPart pl ?_)))
  refine wpAny_bind (wpAny_field hos hds (x := vu) rfl (wpAny_bind (wpAny_listPart pu (wpAny_pure ?_))))
  first
    | simp only [hsame, Bool.false_eq_true, if_false]
    | refine PySem.W.KFB.if_not hsame ?_
    | (dsimp only
       rw [if_neg (by rw [hsame]; exact Bool.false_ne_true)])
  refine wpAny_bind (m := Builtin.List.listAllItems (.ref b) "must assign iterable to extended slice") ?_
  unfold Builtin.List.listAllItems
  refine wpAny_bind (wpAny_typeOf hb.typeIs ?_)
  first
    | refine PySem.W.KFB.if_so (by decide) ?_
    | rw [if_pos (by decide)]
    | simp only [beq_self_eq_true, Bool.true_or, if_true]
  unfold Builtin.List.listItems
  refine wpAny_bind (wpAny_seqItems e2 rfl (wpAny_pure ?_))
  refine wpAny_bind (wpAny_bind (wpAny_seqItems e rfl (wpAny_pure ?_)))
  refine wpAny_bind (wpAny_of_eq ((sliceIndices_raw (some (a : Int)) (some (c : Int)) none items.size (by simp)).trans (congrArg (pure : Int × Int × Int → Sem (Int × Int × Int)) (bounds_run hac hc))) ?_)
  show wpAny _ _ (if ((1 : Int) == 1) = true then _ else _) _ _ s
  rw [if_pos (by decide)]
  refine wpAny_bind (wpAny_rule ?_)
  first
    | simp only [notLongL hsz, Bool.false_eq_true, if_false]
    | refine PySem.W.KFB.if_not (notLongL hsz) ?_
  first | refine wpAny_bind (wpAny_pure ?_) | skip
  show wpAny _ _ (updateSeq l (fun xs => xs.extract 0 ((a : Int)).toNat ++ new ++ xs.extract (max (a : Int) (c : Int)).toNat xs.size) >>= _) _ _ s
  rw [hmax, Int.toNat_natCast]
  refine wpAny_bind (wpAny_updateSeq (hz := Nat.le_trans (Nat.le_add_right _ _) hsz) (_hz' := hz') e rfl ?_)
  refine wpAny_bind (wpAny_letGo ?_)
  first
    | exact wpAny_bind (wpAny_pure (wpAny_pure ⟨.none, rfl, wpAny_pure h⟩))
    | exact wpAny_pure ⟨.none, rfl, wpAny_pure h⟩
end

section
variable {X : Cx}
end
end L2

namespace Att
open PySem PySem.W PySem.Calls PyProof.Rows

theorem ints_of_wellAll {P : Params} {h : Heap} : ∀ (ns : List Int) (vs : List Value), WellAll P h vs (ns.map WData.int) → IntsAre vs ns := by
  intro ns
  induction ns with
  | nil =>
    intro vs w
    rw [List.map_nil] at w
    cases w
    exact .nil
  | cons n ns ih =>
    intro vs w
    rw [List.map_cons] at w
    cases w with
    | cons a b =>
      cases a
      exact .cons _ _ (ih _ b)

theorem script_of {l : OpenLaw} {n : Nat} (hn : l.most = some n) {P : Params} {h : Heap} {args : List WData} {vals : List Value}
    (hpre : l.row.toRowW.claim.pre args = true) (hwl : WellAll P h vals args) :
    ∃ a vs ns, vals = [Value.ref a] ∧ args = [WData.list (ns.map WData.int)] ∧ h.get? a = some { cls := .type "list", data := .seq vs.toArray } ∧ IntsAre vs ns ∧ ns.length ≤ n := by
  have hsh : WShape.hasAll [] args [.list .int] = true := (pre_splitW hpre).1
  have hc : l.pre.holds [] { args := args } = true := (pre_splitW hpre).2
  obtain ⟨d, r, rfl, h1, h2⟩ := hasAllW_cons hsh
  obtain rfl := hasAllW_nil h2
  obtain ⟨xs, rfl, h3⟩ := hasW_list h1
  obtain ⟨ns, rfl⟩ := items_int h3
  have hlen : ns.length ≤ n := by
    unfold OpenLaw.pre at hc
    have h4 : (WTm.not (.lt (.lit (.int (n : Int))) (.len (.arg 0)))).holds [] { args := [.list (ns.map .int)] } = true := by
      have h4 := (holds_andW hc).1
      rw [hn] at h4
      exact h4
    have h5 := condW_of h4 (w_not (w_lt w_lit (w_len_list (w_arg rfl))))
    rw [List.length_map] at h5
    refine Nat.le_of_not_lt fun q => ?_
    have q' : (n : Int) < ((ns.length : Nat) : Int) := by omega
    first
      | (rw [decide_eq_true q'] at h5; exact absurd h5 (by decide))
      | (simp at h5; omega)
  cases hwl with
  | cons w1 w2 =>
    cases w2
    cases w1 with
    | list ho hall => exact ⟨_, _, ns, rfl, rfl, ho, ints_of_wellAll ns _ hall, hlen⟩

theorem post_true (l : OpenLaw) (args : List WData) : l.row.toRowW.claim.post args (.bool true) args = true :=
  postW_of (r := l.row.toRowW) (X := (true == true))
    (show WShape.has [] (.bool true) .bool = true by first | rfl | decide | simp [WShape.has, WShape.arms, WShape.armsAll])
    (show (WTm.eq .res (.lit (.bool true))).value [] { args := args, res := some (.bool true), after := args } = some (.bool (true == true)) from w_eq_bool (w_res rfl) w_lit) rfl

theorem attach_call {l : OpenLaw} {n : Nat} {q : Program} {loose : List Str} {XP : (Str → Option Value) → Heap → Prop} {YP : World → Heap → Prop} {d : DefRec}
    (hn : l.most = some n) (hdf : d.params.defaults = [])
    (call : ∀ (w : World) (s₀ s₁ : Shared) (mg mb : Str → Option Value) (fa : Addr) (o : Obj) (pm cd doc : Value) (a : Addr) (vs : List Value) (ns : List Int),
      Ground q loose [] XP w s₀ mg mb s₁.heap → YP w s₁.heap →
      s₁.heap.get? fa = some o → o.data = .func (docDef d.name d.params d.body d.scope pm cd doc) → s₁.heap.CodeRec cd d.name → mg d.name = some (.ref fa) →
      s₁.heap.get? a = some { cls := .type "list", data := .seq vs.toArray } → IntsAre vs ns → ns.length ≤ n → s₁.gens = #[] →
      codeAny (model l.prog w) callerA (.call (.ref fa) ⟨[.ref a], []⟩) (fun r s' => r = .ok (.ret (.bool true)) ∧ OldK s₁.heap s'.heap ∧ s'.os = s₁.os ∧ AllBare s'.gens) s₁) :
    WalkO q loose XP YP l.row.toRowW d [] (fun f vs => PySem.call f vs) := by
  intro w s₀ s₁ mg mb G Y fa o pm cd doc dV kV ho hd hcd hD hmg hg args vals as hpre hlay hrd hwl hlo
  obtain rfl : dV = .none := Dflts.none hD hdf
  obtain rfl : kV = .none := Dflts.noKw hD
  obtain ⟨a, vs, ns, rfl, rfl, hobj, hints, hlen⟩ := script_of hn hpre hwl
  refine enter_call (codeAny_mono (call w s₀ s₁ mg mb fa o pm cd doc a vs ns G Y ho (fd_plain hd) hcd hmg hobj hints hlen hg) fun r s' hq => ?_)
  obtain ⟨rfl, h2, h3, h4⟩ := hq
  exact ⟨.inl ⟨.bool true, .bool true, [], rfl, fun _ => rfl, .bool true, post_true l _, fun _ => ⟨List.Pairwise.nil, fun _ hm => (nomatch hm)⟩⟩, h2, h3, h4⟩

section
variable {prog : Program} {w : World} {A : Around} {E : Value → Shared → Prop} {s : Shared} {K : Frag}

end
end Att

namespace L2
open PySem PySem.Spec PyProof.Rows

theorem vals_ints : ∀ {vs : List Value} {ns : List Int}, IntsAre vs ns → Vals (ns.map V.int) vs
  | _, _, .nil => .nil
  | _, _, .cons n t h => .cons ⟨t, rfl⟩ (vals_ints h)

noncomputable def Only (H : Hp) : Prop := ∀ b, H b = none ∨ ∃ o xs, H b = some (.frz o (.lst xs))

theorem law_call {P : Program} {w : World} {K : PySem.W.Frag} {mg mb : Str → Option Value} {CX : CXT} {k : Nat} {fa a : Addr} {fd : FuncData} {x : Str} {sp : Sp} {s₁ : Shared} {vs : List Value} {ns : List Int}
    (KX : K.In s₁.heap) (hns : s₁.heap.Ns mainGlobals mg) (hb : s₁.heap.Ns builtinsNs mb) (hbb : ∀ x : Str, x ≠ "__name__" → mb x = bootBuiltins x) (hlim : s₁.heap.NoLimit) (hg : s₁.gens = #[])
    (ha : s₁.heap.get? a = some { cls := .type "list", data := .seq vs.toArray }) (hi : IntsAre vs ns) (hl : ns.length ≤ sizeLine) (hr : Room k callerA)
    (F : ∀ base : Heap, K.In base → base.Ns mainGlobals mg → FnOk P w K mg base CX k fa fd [x] sp) (hbind : ∀ (s : Shared) (u : Value), BindsTo s fd ⟨[u], []⟩ [(x, u)])
    (hsp : ∀ H : Hp, Only H → SqL K H a (ns.map V.int) → sp [.ref a] H (fun v _ => v = .bl true) fun _ _ _ => False)
    (hCX : ∀ H e s', CX [] H s₁ (fun _ _ _ => False) e s' → False) :
    codeAny (model P w) callerA (.call (.ref fa) ⟨[.ref a], []⟩) (fun r s' => r = .ok (.ret (.bool true)) ∧ OldK s₁.heap s'.heap ∧ s'.os = s₁.os ∧ AllBare s'.gens) s₁ := by
  have rv := vals_ints hi
  have lenV := hi.length
  
  have core : ∀ H : Hp, Only H → SqL K H a (ns.map V.int) → HOk P w H s₁.heap → (∀ b, H b ≠ none → b = a) → (H a ≠ none → K.lookup a = none) →
      codeAny (model P w) callerA (.call (.ref fa) ⟨[.ref a], []⟩) (fun r s' => r = .ok (.ret (.bool true)) ∧ OldK s₁.heap s'.heap ∧ s'.os = s₁.os ∧ AllBare s'.gens) s₁ := by
    intro H hO hS hok hA hK
    have base_of : ∀ {b : Addr} {o : Obj}, s₁.heap.get? b = some o → H b = none → (hidT s₁.heap H).get? b = some o := fun e n => hidT_get e n
    have noA : ∀ {b : Addr} {o : Obj} {es : Array DictEntry} {ep : Nat}, s₁.heap.get? b = some o → o.data = .dict es ep → H b = none := fun {b o es ep} e d => by
      cases q : H b with
      | none => rfl
      | some u =>
        have e' : b = a := hA b (by rw [q]; simp)
        subst e'
        rw [ha] at e; cases e
        have d' : Data.seq vs.toArray _ = Data.dict es ep := d
        cases d'
    have nsK : ∀ {b : Addr} {m : Str → Option Value}, s₁.heap.Ns b m → (hidT s₁.heap H).Ns b m := fun {b m} ⟨o, es, ep, e, d, r⟩ => ⟨o, es, ep, base_of e (noA e d), d, r⟩
    have hKb : K.In (hidT s₁.heap H) := fun b o e => base_of (KX b o e) (by
      cases q : H b with
      | none => rfl
      | some u =>
        have e' : b = a := hA b (by rw [q]; simp)
        subst e'
        rw [hK (by rw [q]; simp)] at e; cases e)
    have hM : Mod K mg (hidT s₁.heap H) := ⟨hKb, nsK hns, ⟨mb, nsK hb, hbb⟩, let ⟨mc, h1, h2⟩ := hlim; ⟨mc, nsK h1, h2⟩⟩
    have e0 : Env0 P w K mg (hidT s₁.heap H) callerA [] s₁ H := ⟨rfl, hM, fun b o e => of_hidT e, Nat.le_of_eq (hidT_size _ _), trivial, fun b hb => absurd (show b ∈ ([] : List Addr) from hb) (by simp), hok, .of_eq hg⟩
    refine codeAny_mono ((F _ hKb (nsK hns)).run callerA [] s₁ H ⟨[.ref a], []⟩ [.ref a] [.ref a] _ _ hr e0 (hbind s₁ (.ref a)) (.cons rfl .nil) (hsp H hO hS)) fun r s' h => ?_
    cases r with
    | error e => exact (hCX H e s' h).elim
    | ok fl =>
      cases fl with
      | next => exact False.elim h
      | brk => exact False.elim h
      | cont => exact False.elim h
      | ret u =>
        obtain ⟨v, H', os, bare, un, hok', r', q⟩ := h
        have q' : v = .bl true := q
        subst q'
        obtain rfl : u = Value.bool true := r'
        refine ⟨rfl, OldK.of_keep fun b o e => ?_, os, bare⟩
        cases q : H b with
        | none => exact un.keep b o e q (by intro z; exact absurd (show b ∈ ([] : List Addr) from z) (by simp)) (by simp)
        | some u =>
          rcases hO b with z | ⟨ob, xs, z⟩
          · rw [q] at z; cases z
          · have z2 := un.frzs b ob _ z
            obtain ⟨e1, _⟩ := hok b _ z
            obtain ⟨e2, _⟩ := hok' b _ z2
            rw [e] at e1; cases e1
            exact e2
  cases hk : K.lookup a with
  | some o =>
    
    have e := KX a o hk
    rw [ha] at e
    cases e
    refine core (fun _ => none) (fun _ => .inl rfl) (.inr ⟨_, vs.toArray, _, hk, rfl, rfl, rfl, by rw [List.size_toArray, lenV]; exact hl, by simpa using rv⟩) (fun b u z => by have z' : (none : Option HO) = some u := z; cases z') (fun b z => absurd rfl z) fun z => absurd rfl z
  | none =>
    refine core (fun b => if b = a then some (.frz { cls := .type "list", data := .seq vs.toArray } (.lst (ns.map V.int))) else none) (fun b => ?_) (.inl (.inr ⟨{ cls := .type "list", data := .seq vs.toArray }, if_pos rfl⟩)) (fun b u z => ?_) (fun b z => ?_) fun _ => hk
    · by_cases hb : b = a
      · exact .inr ⟨_, _, if_pos hb⟩
      · exact .inl (if_neg hb)
    · by_cases hb : b = a
      · have z' := (if_pos hb).symm.trans z
        cases z'
        subst hb
        exact ⟨ha, by rw [List.length_map]; exact hl, vs, _, rv, ha⟩
      · have z' := (if_neg hb).symm.trans z
        cases z'
    · by_cases hb : b = a
      · exact hb
      · exact absurd (if_neg hb) z
end L2

namespace L2
open PySem PySem.Spec PyProof.Rows

theorem walk_of {l : PySem.W.OpenLaw} {n k : Nat} {q : Program} {loose : List Str} {XP : (Str → Option Value) → Heap → Prop} {YP : World → Heap → Prop} {d : DefRec} {K : Params → PySem.W.Frag} {CX : World → CXT} {sp : World → Sp} {x : Str}
    (hn : l.most = some n) (hn2 : n ≤ sizeLine) (hdf : d.params.defaults = []) (hr : Room k callerA)
    (hY : ∀ (w : World) (h : Heap), YP w h → (K w.params).In h)
    (F : ∀ (w : World) (mg : Str → Option Value) (fa : Addr) (h : Heap), (K w.params).In h → h.Ns mainGlobals mg → mg d.name = some (.ref fa) →
      ∃ fd : FuncData, (∀ (s : Shared) (u : Value), BindsTo s fd ⟨[u], []⟩ [(x, u)]) ∧
        ∀ base : Heap, (K w.params).In base → base.Ns mainGlobals mg → FnOk l.prog w (K w.params) mg base (CX w) k fa fd [x] (sp w))
    (hsp : ∀ (w : World) (H : Hp) (a : Addr) (ns : List Int), ns.length ≤ n → Only H → SqL (K w.params) H a (ns.map V.int) → sp w [.ref a] H (fun v _ => v = .bl true) fun _ _ _ => False)
    (hCX : ∀ (w : World) (H : Hp) (s : Shared) (e : Value) (s' : Shared), CX w [] H s (fun _ _ _ => False) e s' → False) :
    PySem.W.WalkO q loose XP YP l.row.toRowW d [] (fun f vs => PySem.call f vs) := by
  refine Att.attach_call hn hdf fun w s₀ s₁ mg mb fa o pm cd doc a vs ns G Y ho hd hcd hmg hobj hints hlen hg => ?_
  have KX := hY w _ Y
  obtain ⟨fd, hb, hF⟩ := F w mg fa _ KX G.T.g hmg
  exact law_call KX G.T.g G.T.b G.T.builtins G.T.nolimit hg hobj hints (Nat.le_trans hlen hn2) hr hF hb (fun H hO hS => hsp w H a ns hlen hO hS) fun H e s' => hCX w H s₁ e s'
end L2


namespace L2
open PySem PySem.Spec PyProof.Rows

noncomputable def defArgs (s : Stmt) : Arguments := match s with
  | .FunctionDef _ a _ _ _ _ _ _ _ _ => a
  | _ => { posonlyargs := [], args := [], vararg := none, kwonlyargs := [], kw_defaults := [], kwarg := none, defaults := [] }
noncomputable def defBody (s : Stmt) : List Stmt := match s with
  | .FunctionDef _ _ b _ _ _ _ _ _ _ => b
  | _ => []
noncomputable def defScope (s : Stmt) : Scope := match s with
  | .FunctionDef _ _ _ _ _ _ sc _ _ _ => sc
  | _ => { kind := .function, names := [], isGenerator := false, isCoroutine := false }

noncomputable abbrev CX0 : CXT := fun _ _ _ _ _ _ => False
noncomputable abbrev E0 : XK := fun _ _ _ => False
structure Fun (K : PySem.W.Frag) (x qual : Str) (st : Stmt) (f : Addr) (fd : FuncData) : Prop where
  ex : ∃ (oc : Value) (od : Option Addr) (kV doc pm : Value) (an : Option Addr) (cdv ct : Value) (osl : Array (Option Value)),
    fd = PySem.W.fnOf x qual (defArgs st) (defBody st) (defScope st) .none kV doc pm an cdv ct ∧ K.lookup f = some ⟨oc, od, .func fd, osl⟩ ∧ PySem.W.codeIn K cdv qual = true
  kp : PySem.W.keepIn K (.ref f) = true
section
variable {P : Program} {w : World} {K : PySem.W.Frag} {mg : Str → Option Value} {base : Heap}
theorem Fun.ok {x qual : Str} {st : Stmt} {f : Addr} {fd : FuncData} {N ps : List Str} {k : Nat} {sp : Sp} (F : Fun K x qual st f fd) (S : FnScope N ps (defScope st)) (len : ∀ vs H Q E, sp vs H Q E → vs.length = ps.length)
    (hbody : ∀ (cdv : Value) (A : Around) (outer : List Env) (s : Shared) (H : Hp) (vs : List V) (Q : VK) (E : XK), Room k (A.deeper (envOfC qual (defScope st) s.heap.objs.size f cdv)) → sp vs H Q E →
      ∃ t, PSs (cxOf CX0 P w K mg base N qual (defScope st) f cdv A outer s H E).nox (defBody st) t ∧ t { nx := fun _ H' => Q .non H', rt := Q } (start N vs) H) : FnOk P w K mg base CX0 (k + 1) f fd ps sp := by
  obtain ⟨oc, od, kV, doc, pm, an, cdv, ct, osl, rfl, lk, hcd⟩ := F.ex
  refine fn_of lk hcd S len fun A outer s H vs Q E hr hsp => ?_
  obtain ⟨t, h, q⟩ := hbody cdv A outer s H vs Q E hr hsp
  exact ⟨t, h.nox, q⟩
theorem Fun.binds {x qual : Str} {st : Stmt} {f : Addr} {fd : FuncData} {ps : List Str} (F : Fun K x qual st f fd)
    (h : ∀ (kV doc pm : Value) (an : Option Addr) (cdv ct : Value) (us : List Value), us.length = ps.length → bindArgs (PySem.W.fnOf x qual (defArgs st) (defBody st) (defScope st) .none kV doc pm an cdv ct) ⟨us, []⟩ = pure (ps.zip us)) : Binds K fd ps [] := by
  obtain ⟨oc, od, kV, doc, pm, an, cdv, ct, osl, rfl, lk, hcd⟩ := F.ex
  exact .all (h kV doc pm an cdv ct)
theorem fun_mk {x qual : Str} {st : Stmt} {f : Addr} {oc : Value} {od an : Option Addr} {osl : Array (Option Value)} {kV doc pm cdv ct : Value} (l : K.lookup f = some ⟨oc, od, .func (PySem.W.fnOf x qual (defArgs st) (defBody st) (defScope st) .none kV doc pm an cdv ct), osl⟩)
    (c : PySem.W.codeIn K cdv qual = true) (k : PySem.W.keepIn K (.ref f) = true) : Fun K x qual st f (PySem.W.fnOf x qual (defArgs st) (defBody st) (defScope st) .none kV doc pm an cdv ct) := ⟨⟨oc, od, kV, doc, pm, an, cdv, ct, osl, rfl, l, c⟩, k⟩
end
section
variable {X : Cx}
end

noncomputable def Same (H H' : Hp) : Prop := ∀ b o, H b = some o → H' b = some o
theorem Same.refl (H : Hp) : Same H H := fun _ _ h => h
theorem Same.trans {H H1 H2 : Hp} (a : Same H H1) (b : Same H1 H2) : Same H H2 := fun c o h => b c o (a c o h)
theorem Same.free {H H' : Hp} (e : Same H H') {l : Addr} (h : H' l = Option.none) : H l = Option.none := by
  cases q : H l with
  | none => rfl
  | some o =>
    rw [e l o q] at h
    cases h
theorem Same.seq {K : PySem.W.Frag} {H H' : Hp} {a : Addr} {xs : List V} (e : Same H H') (h : SqL K H a xs) : SqL K H' a xs := by
  rcases h with (h | ⟨o, h⟩) | h
  · exact .inl (.inl (e _ _ h))
  · exact .inl (.inr ⟨o, e _ _ h⟩)
  · exact .inr h

end L2

namespace L3
open PySem PySem.Spec PyProof.Rows L2

noncomputable abbrev Sg := L2.St
inductive D where
  | non | bl (b : Bool) | int (i : Int) | str (x : Str) | lst (ds : List D) | tup (ds : List D) | dic (kvs : List (Key × D))
  | exn (c : Str) (ns : List Str) (vs : List D) | obj (c : Str) (ns : List Str) (vs : List D)

structure Xn where
  c : Str
  ns : List Str
  vs : List D

inductive R (α : Type) where
  | ok (a : α) | ex (x : Xn) | no
namespace R
noncomputable def bind {α β : Type} (r : R α) (k : α → R β) : R β := match r with
  | .ok a => k a
  | .ex x => .ex x
  | .no => .no
@[simp] theorem bind_ok {α β : Type} (a : α) (k : α → R β) : (R.ok a).bind k = k a := rfl
@[simp] theorem bind_ex {α β : Type} (x : Xn) (k : α → R β) : (R.ex x).bind k = .ex x := rfl
@[simp] theorem bind_no {α β : Type} (k : α → R β) : (R.no).bind k = .no := rfl
end R

inductive Tn where
  | sh (d : D) | lst (ts : List Tn) | tup (ts : List Tn) | dic (kts : List (Key × Tn)) | obj (c : Str) (ns : List Str) (ts : List Tn)
mutual
noncomputable def Tn.d : Tn → D
  | .sh d => d
  | .lst ts => .lst (Tn.ds ts)
  | .tup ts => .tup (Tn.ds ts)
  | .dic kts => .dic (Tn.ks kts)
  | .obj c ns ts => .obj c ns (Tn.ds ts)
noncomputable def Tn.ds : List Tn → List D
  | [] => []
  | t :: ts => t.d :: Tn.ds ts
noncomputable def Tn.ks : List (Key × Tn) → List (Key × D)
  | [] => []
  | (k, t) :: ts => (k, t.d) :: Tn.ks ts
end
noncomputable def Tn.of : D → Tn
  | .lst ds => .lst (ds.map .sh)
  | .dic kvs => .dic (kvs.map fun p => (p.1, .sh p.2))
  | .obj c ns vs => .obj c ns (vs.map .sh)
  | d => .sh d
theorem Tn.ds_sh : ∀ ds : List D, Tn.ds (ds.map .sh) = ds
  | [] => rfl
  | d :: ds => by
    show (Tn.sh d).d :: Tn.ds (ds.map .sh) = _
    rw [Tn.ds_sh ds]; rfl
theorem Tn.ks_sh : ∀ kvs : List (Key × D), Tn.ks (kvs.map fun p => (p.1, Tn.sh p.2)) = kvs
  | [] => rfl
  | (k, d) :: kvs => by
    show (k, (Tn.sh d).d) :: Tn.ks (kvs.map fun p => (p.1, Tn.sh p.2)) = _
    rw [Tn.ks_sh kvs]; rfl
theorem Tn.ks_fst : ∀ kts : List (Key × Tn), (Tn.ks kts).map (·.1) = kts.map (·.1)
  | [] => rfl
  | (k, t) :: kts => by show k :: (Tn.ks kts).map (·.1) = _; rw [Tn.ks_fst kts]; rfl
theorem Tn.ks_snd : ∀ kts : List (Key × Tn), (Tn.ks kts).map (·.2) = Tn.ds (kts.map (·.2))
  | [] => rfl
  | (k, t) :: kts => by show t.d :: (Tn.ks kts).map (·.2) = _; rw [Tn.ks_snd kts]; rfl
theorem Tn.of_d (d : D) : (Tn.of d).d = d := by
  cases d with
  | lst ds => show D.lst (Tn.ds (ds.map .sh)) = _; rw [Tn.ds_sh]
  | dic kvs => show D.dic (Tn.ks (kvs.map fun p => (p.1, .sh p.2))) = _; rw [Tn.ks_sh]
  | obj c ns vs => show D.obj c ns (Tn.ds (vs.map .sh)) = _; rw [Tn.ds_sh]
  | _ => rfl
inductive W where
  | sh (d : D) | ow (d : D) | tr (t : Tn)
noncomputable def W.d : W → D
  | .sh d => d
  | .ow d => d
  | .tr t => t.d
@[simp] theorem W.d_sh (d : D) : (W.sh d).d = d := rfl
@[simp] theorem W.d_ow (d : D) : (W.ow d).d = d := rfl
@[simp] theorem W.d_tr (t : Tn) : (W.tr t).d = t.d := rfl

noncomputable def ClsAt (K : PySem.W.Frag) (c : Str) (C : Addr) : Prop := PySem.W.nsIn K mainGlobals c = some (some (.ref C))
noncomputable def XO (a C : Addr) (dx : Option Addr) : HO := .ext fun h => ∃ us sl, h.get? a = some ⟨.ref C, dx, .fields us, sl⟩
mutual
inductive Has (K : PySem.W.Frag) (G : Hp) : V → D → Prop where
  | non : Has K G .non .non
  | bl (b : Bool) : Has K G (.bl b) (.bl b)
  | int (i : Int) : Has K G (.int i) (.int i)
  | str (x : Str) : Has K G (.str x) (.str x)
  | lst {a : Addr} {vs : List V} {ds : List D} (h : SqL K G a vs) (r : HasL K G vs ds) : Has K G (.ref a) (.lst ds)
  | tup {a : Addr} {vs : List V} {ds : List D} (h : SqT K G a vs) (r : HasL K G vs ds) : Has K G (.ref a) (.tup ds)
  | exn0 {a C : Addr} {c : Str} (hc : ClsAt K c C) (h : G a = some (XO a C none)) : Has K G (.ref a) (.exn c [] [])
  | exn1 {a C d : Addr} {c : Str} {ns : List Str} {us : List V} {vs : List D} (hc : ClsAt K c C) (h : G a = some (XO a C (some d))) (hd : G d = some (.xd (ns.zip us))) (hl : ns.length = us.length) (r : HasL K G us vs) : Has K G (.ref a) (.exn c ns vs)
  | dic {a : Addr} {kvs : List (Key × V)} {kds : List (Key × D)} (h : Rd G a (.dK kvs)) (hk : kvs.map (·.1) = kds.map (·.1)) (r : HasL K G (kvs.map (·.2)) (kds.map (·.2))) : Has K G (.ref a) (.dic kds)
  | obj {a C dx : Addr} {c : Str} {ns : List Str} {us : List V} {vs : List D} (hc : ClsAt K c C) (h : G a = some (.ins C dx (ns.zip us))) (hl : ns.length = us.length) (r : HasL K G us vs) : Has K G (.ref a) (.obj c ns vs)
inductive HasL (K : PySem.W.Frag) (G : Hp) : List V → List D → Prop where
  | nil : HasL K G [] []
  | cons {v : V} {d : D} {vs : List V} {ds : List D} (h : Has K G v d) (r : HasL K G vs ds) : HasL K G (v :: vs) (d :: ds)
end

noncomputable abbrev AS := Addr → Prop
mutual
inductive Ow (K : PySem.W.Frag) (G H : Hp) : V → Tn → AS → Prop where
  | sh {v : V} {d : D} {S : AS} (h : Has K G v d) : Ow K G H v (.sh d) S
  | lst {a : Addr} {vs : List V} {ts : List Tn} {S S1 : AS} (h : H a = some (.lst vs)) (ha : S a) (sub : ∀ b, S1 b → S b ∧ b ≠ a) (r : OwL K G H vs ts S1) : Ow K G H (.ref a) (.lst ts) S
  | tup {a : Addr} {vs : List V} {ts : List Tn} {S S1 : AS} (h : H a = some (.tup vs)) (ha : S a) (sub : ∀ b, S1 b → S b ∧ b ≠ a) (r : OwL K G H vs ts S1) : Ow K G H (.ref a) (.tup ts) S
  | dic {a : Addr} {kvs : List (Key × V)} {kts : List (Key × Tn)} {S S1 : AS} (h : H a = some (.dK kvs)) (hk : kvs.map (·.1) = kts.map (·.1)) (ha : S a) (sub : ∀ b, S1 b → S b ∧ b ≠ a) (r : OwL K G H (kvs.map (·.2)) (kts.map (·.2)) S1) : Ow K G H (.ref a) (.dic kts) S
  | obj {a C dx : Addr} {c : Str} {ns : List Str} {us : List V} {ts : List Tn} {S S1 : AS} (hc : ClsAt K c C) (h : H a = some (.ins C dx (ns.zip us))) (hl : ns.length = us.length) (ha : S a) (sub : ∀ b, S1 b → S b ∧ b ≠ a) (r : OwL K G H us ts S1) : Ow K G H (.ref a) (.obj c ns ts) S
inductive OwL (K : PySem.W.Frag) (G H : Hp) : List V → List Tn → AS → Prop where
  | nil {S : AS} : OwL K G H [] [] S
  | cons {v : V} {t : Tn} {vs : List V} {ts : List Tn} {S S1 S2 : AS} (h : Ow K G H v t S1) (r : OwL K G H vs ts S2) (dj : ∀ b, S1 b → S2 b → False) (s1 : ∀ b, S1 b → S b) (s2 : ∀ b, S2 b → S b) : OwL K G H (v :: vs) (t :: ts) S
end

theorem Same.rdD {H H' : Hp} {a : Addr} {u : HO} (e : Same H H') (h : Rd H a u) : Rd H' a u := by
  rcases h with h | ⟨o, h⟩
  · exact .inl (e _ _ h)
  · exact .inr ⟨o, e _ _ h⟩
theorem Same.tupS {K : PySem.W.Frag} {H H' : Hp} {a : Addr} {xs : List V} (e : Same H H') (h : SqT K H a xs) : SqT K H' a xs := by
  rcases h with (h | ⟨o, h⟩) | h
  · exact .inl (.inl (e _ _ h))
  · exact .inl (.inr ⟨o, e _ _ h⟩)
  · exact .inr h
mutual
theorem Has.mono {K : PySem.W.Frag} {G G' : Hp} (e : Same G G') : ∀ {v : V} {d : D}, Has K G v d → Has K G' v d
  | _, _, .non => .non
  | _, _, .bl b => .bl b
  | _, _, .int i => .int i
  | _, _, .str x => .str x
  | _, _, .lst h r => .lst (e.seq h) (HasL.mono e r)
  | _, _, .tup h r => .tup (Same.tupS e h) (HasL.mono e r)
  | _, _, .exn0 hc h => .exn0 hc (e _ _ h)
  | _, _, .exn1 hc h hd hl r => .exn1 hc (e _ _ h) (e _ _ hd) hl (HasL.mono e r)
  | _, _, .dic h hk r => .dic (Same.rdD e h) hk (HasL.mono e r)
  | _, _, .obj hc h hl r => .obj hc (e _ _ h) hl (HasL.mono e r)
theorem HasL.mono {K : PySem.W.Frag} {G G' : Hp} (e : Same G G') : ∀ {vs : List V} {ds : List D}, HasL K G vs ds → HasL K G' vs ds
  | _, _, .nil => .nil
  | _, _, .cons h r => .cons (Has.mono e h) (HasL.mono e r)
end
theorem HasL.length {K : PySem.W.Frag} {G : Hp} : ∀ {vs : List V} {ds : List D}, HasL K G vs ds → vs.length = ds.length
  | _, _, .nil => rfl
  | _, _, .cons _ r => by rw [List.length_cons, List.length_cons, r.length]
theorem HasL.append {K : PySem.W.Frag} {G : Hp} : ∀ {vs ws : List V} {ds es : List D}, HasL K G vs ds → HasL K G ws es → HasL K G (vs ++ ws) (ds ++ es)
  | _, _, _, _, .nil, s => s
  | _, _, _, _, .cons h r, s => .cons h (r.append s)
theorem HasL.get {K : PySem.W.Frag} {G : Hp} : ∀ {vs : List V} {ds : List D} {i : Nat} {d : D}, HasL K G vs ds → ds[i]? = some d → ∃ v, vs[i]? = some v ∧ Has K G v d
  | _, _, _, _, .nil, e => by simp at e
  | _, _, 0, _, .cons h _, e => by simp at e; subst e; exact ⟨_, rfl, h⟩
  | _, _, i + 1, d, .cons _ r, e => by
    obtain ⟨u, h1, h2⟩ := HasL.get (i := i) (d := d) r (by simpa using e)
    exact ⟨u, by simpa using h1, h2⟩
theorem HasL.take {K : PySem.W.Frag} {G : Hp} : ∀ {vs : List V} {ds : List D} (n : Nat), HasL K G vs ds → HasL K G (vs.take n) (ds.take n)
  | _, _, 0, _ => .nil
  | _, _, _ + 1, .nil => .nil
  | _, _, n + 1, .cons h r => .cons h (HasL.take n r)
theorem HasL.drop {K : PySem.W.Frag} {G : Hp} : ∀ {vs : List V} {ds : List D} (n : Nat), HasL K G vs ds → HasL K G (vs.drop n) (ds.drop n)
  | _, _, 0, r => r
  | _, _, _ + 1, .nil => .nil
  | _, _, n + 1, .cons _ r => HasL.drop n r
theorem HasL.set {K : PySem.W.Frag} {G : Hp} {v : V} {d : D} (h : Has K G v d) : ∀ {vs : List V} {ds : List D} (i : Nat), HasL K G vs ds → HasL K G (vs.set i v) (ds.set i d)
  | _, _, _, .nil => .nil
  | _, _, 0, .cons _ r => .cons h r
  | _, _, i + 1, .cons q r => .cons q (HasL.set h i r)
mutual
theorem Ow.mono {K : PySem.W.Frag} {G G' H H' : Hp} (e : Same G G') : ∀ {v : V} {d : Tn} {S S' : AS}, Ow K G H v d S → (∀ b o, S b → H b = some o → H' b = some o) → (∀ b, S b → S' b) → Ow K G' H' v d S'
  | _, _, _, _, .sh h, _, _ => .sh (h.mono e)
  | _, _, _, _, .lst h ha sub r, f, i => .lst (f _ _ ha h) (i _ ha) (fun b hb => ⟨i b (sub b hb).1, (sub b hb).2⟩) (OwL.mono e r (fun b o hb q => f b o (sub b hb).1 q) fun _ q => q)
  | _, _, _, _, .tup h ha sub r, f, i => .tup (f _ _ ha h) (i _ ha) (fun b hb => ⟨i b (sub b hb).1, (sub b hb).2⟩) (OwL.mono e r (fun b o hb q => f b o (sub b hb).1 q) fun _ q => q)
  | _, _, _, _, .dic h hk ha sub r, f, i => .dic (f _ _ ha h) hk (i _ ha) (fun b hb => ⟨i b (sub b hb).1, (sub b hb).2⟩) (OwL.mono e r (fun b o hb q => f b o (sub b hb).1 q) fun _ q => q)
  | _, _, _, _, .obj hc h hl ha sub r, f, i => .obj hc (f _ _ ha h) hl (i _ ha) (fun b hb => ⟨i b (sub b hb).1, (sub b hb).2⟩) (OwL.mono e r (fun b o hb q => f b o (sub b hb).1 q) fun _ q => q)
theorem OwL.mono {K : PySem.W.Frag} {G G' H H' : Hp} (e : Same G G') : ∀ {vs : List V} {ds : List Tn} {S S' : AS}, OwL K G H vs ds S → (∀ b o, S b → H b = some o → H' b = some o) → (∀ b, S b → S' b) → OwL K G' H' vs ds S'
  | _, _, _, _, .nil, _, _ => .nil
  | _, _, _, _, .cons h r dj s1 s2, f, i => .cons (Ow.mono e h (fun b o hb q => f b o (s1 b hb) q) fun _ q => q) (OwL.mono e r (fun b o hb q => f b o (s2 b hb) q) fun _ q => q) dj (fun b q => i b (s1 b q)) fun b q => i b (s2 b q)
end
mutual
theorem Ow.has {K : PySem.W.Frag} {G G' H : Hp} (e : Same G G') : ∀ {v : V} {d : Tn} {S : AS}, Ow K G H v d S → (∀ b o, S b → H b = some o → G' b = some o) → Has K G' v d.d
  | _, _, _, .sh h, _ => h.mono e
  | _, _, _, .lst h ha sub r, f => .lst (SqL.of (f _ _ ha h)) (OwL.has e r fun b o hb q => f b o (sub b hb).1 q)
  | _, _, _, .tup h ha sub r, f => .tup (SqT.of (f _ _ ha h)) (OwL.has e r fun b o hb q => f b o (sub b hb).1 q)
  | _, _, _, .dic h hk ha sub r, f => .dic (.inl (f _ _ ha h)) (by rw [Tn.ks_fst]; exact hk) (by rw [Tn.ks_snd]; exact OwL.has e r fun b o hb q => f b o (sub b hb).1 q)
  | _, _, _, .obj hc h hl ha sub r, f => .obj hc (f _ _ ha h) hl (OwL.has e r fun b o hb q => f b o (sub b hb).1 q)
theorem OwL.has {K : PySem.W.Frag} {G G' H : Hp} (e : Same G G') : ∀ {vs : List V} {ds : List Tn} {S : AS}, OwL K G H vs ds S → (∀ b o, S b → H b = some o → G' b = some o) → HasL K G' vs (Tn.ds ds)
  | _, _, _, .nil, _ => .nil
  | _, _, _, .cons h r dj s1 s2, f => .cons (Ow.has e h fun b o hb q => f b o (s1 b hb) q) (OwL.has e r fun b o hb q => f b o (s2 b hb) q)
end
theorem OwL.of {K : PySem.W.Frag} {G H : Hp} : ∀ {vs : List V} {ds : List D} {S : AS}, HasL K G vs ds → OwL K G H vs (ds.map .sh) S
  | _, _, _, .nil => .nil
  | _, _, _, .cons h r => .cons (S1 := fun _ => False) (S2 := fun _ => False) (.sh h) (OwL.of r) (fun _ z _ => z) (fun _ z => z.elim) fun _ z => z.elim
theorem OwL.off {K : PySem.W.Frag} {G H : Hp} : ∀ {vs : List V} {ds : List D} {S : AS}, OwL K G H vs (ds.map .sh) S → HasL K G vs ds
  | _, [], _, h => by cases h; exact .nil
  | _, d :: ds, _, h => by
    cases h with
    | cons h r dj s1 s2 =>
      cases h with
      | sh h => exact .cons h (OwL.off r)
theorem OwL.length {K : PySem.W.Frag} {G H : Hp} : ∀ {vs : List V} {ds : List Tn} {S : AS}, OwL K G H vs ds S → vs.length = ds.length
  | _, _, _, .nil => rfl
  | _, _, _, .cons _ r _ _ _ => by rw [List.length_cons, List.length_cons, r.length]
theorem Ow.list {K : PySem.W.Frag} {G H : Hp} {a : Addr} {vs : List V} {ds : List D} {S : AS} (h : H a = some (.lst vs)) (ha : S a) (r : HasL K G vs ds) : Ow K G H (.ref a) (Tn.of (.lst ds)) S :=
  .lst (S1 := fun _ => False) h ha (fun _ z => z.elim) (.of r)
theorem Ow.list_of {K : PySem.W.Frag} {G H : Hp} {v : V} {ds : List D} {S : AS} (t : Ow K G H v (Tn.of (.lst ds)) S) : ∃ a vs, v = .ref a ∧ S a ∧ H a = some (.lst vs) ∧ HasL K G vs ds := by
  cases t with
  | lst h ha sub r => exact ⟨_, _, rfl, ha, h, r.off⟩
theorem map_sh (kds : List (Key × D)) : (kds.map fun p => (p.1, Tn.sh p.2)).map (·.2) = (kds.map (·.2)).map Tn.sh := by
  rw [List.map_map, List.map_map]; rfl
theorem map_sh1 (kds : List (Key × D)) : (kds.map fun p => (p.1, Tn.sh p.2)).map (·.1) = kds.map (·.1) := by
  rw [List.map_map]; rfl
theorem Ow.dict {K : PySem.W.Frag} {G H : Hp} {a : Addr} {kvs : List (Key × V)} {kds : List (Key × D)} {S : AS} (h : H a = some (.dK kvs)) (hk : kvs.map (·.1) = kds.map (·.1)) (ha : S a) (r : HasL K G (kvs.map (·.2)) (kds.map (·.2))) : Ow K G H (.ref a) (Tn.of (.dic kds)) S :=
  .dic (S1 := fun _ => False) h (by rw [map_sh1]; exact hk) ha (fun _ z => z.elim) (by rw [map_sh]; exact .of r)
theorem Ow.dict_of {K : PySem.W.Frag} {G H : Hp} {v : V} {kds : List (Key × D)} {S : AS} (t : Ow K G H v (Tn.of (.dic kds)) S) : ∃ a kvs, v = .ref a ∧ S a ∧ H a = some (.dK kvs) ∧ kvs.map (·.1) = kds.map (·.1) ∧ HasL K G (kvs.map (·.2)) (kds.map (·.2)) := by
  generalize e : Tn.of (.dic kds) = t' at t
  cases t with
  | dic h hk ha sub r =>
    injection e with e
    subst e
    rw [map_sh] at r
    rw [map_sh1] at hk
    exact ⟨_, _, rfl, ha, h, hk, r.off⟩
  | _ => cases e

structure Step (G H G' H' : Hp) : Prop where
  hh : Same H H'
  gh : Same G' H'
  gg : Same G G'
  nw : ∀ b, G b = none → H b ≠ none → G' b = none
theorem Step.refl {G H : Hp} (h : Same G H) : Step G H G H := ⟨Same.refl _, h, Same.refl _, fun _ e _ => e⟩
theorem Step.trans {G H G1 H1 G2 H2 : Hp} (a : Step G H G1 H1) (b : Step G1 H1 G2 H2) : Step G H G2 H2 :=
  ⟨a.hh.trans b.hh, b.gh, a.gg.trans b.gg, fun c e n => b.nw c (a.nw c e n) fun z => n (a.hh.free z)⟩
theorem same_new {H : Hp} {p : Addr} (h : H p = none) (o : HO) : Same H (upd H p o) := fun b u q => by rw [upd_ne (ne_of_none q h)]; exact q
theorem same_upd {G H : Hp} (h : Same G H) (p : Addr) (o : HO) : Same (upd G p o) (upd H p o) := fun b u q => by
  by_cases e : b = p
  · subst e; rw [upd_same] at q ⊢; exact q
  · rw [upd_ne e] at q ⊢; exact h b u q
theorem Step.new {G H : Hp} (h : Same G H) {p : Addr} (e : H p = none) (o : HO) : Step G H (L2.upd G p o) (L2.upd H p o) :=
  ⟨same_new e o, same_upd h p o, same_new (h.free e) o, fun b n z => by
    by_cases q : b = p
    · subst q; exact absurd e z
    · rw [upd_ne q]; exact n⟩
theorem Step.own {G H : Hp} (h : Same G H) {p : Addr} (e : H p = none) (o : HO) : Step G H G (L2.upd H p o) :=
  ⟨same_new e o, h.trans (same_new e o), Same.refl _, fun _ n _ => n⟩
theorem Step.give {G H : Hp} {p : Addr} {o : HO} (h : Same G H) (n : G p = none) (e : H p = some o) : Same (L2.upd G p o) H ∧ Same G (L2.upd G p o) :=
  ⟨fun b u q => by
    by_cases z : b = p
    · subst z; rw [upd_same] at q; rw [e]; exact q
    · rw [upd_ne z] at q; exact h b u q, same_new n o⟩

open Classical in
noncomputable def joinG (G H : Hp) (S : AS) : Hp := fun b => if S b then H b else G b
noncomputable def WP (K : PySem.W.Frag) (G H : Hp) (w : W) (Q : VK) : Prop := match w with
  | .sh d => ∀ v G' H', Step G H G' H' → Has K G' v d → Q v H'
  | .ow d => ∀ v S G' H', Step G H G' H' → (∀ a, S a → H a = none ∧ G' a = none ∧ H' a ≠ none) → Ow K G' H' v (Tn.of d) S → Q v H'
  | .tr t => ∀ v S G' H', Step G H G' H' → (∀ a, S a → H a = none ∧ G' a = none ∧ H' a ≠ none) → Ow K G' H' v t S → Q v H'
structure EXT where
  p : Xn → Hp → Hp → Prop
  mono : ∀ x G H G' H', Step G H G' H' → p x G H → p x G' H'
noncomputable def EX0 : EXT := ⟨fun _ _ _ => False, fun _ _ _ _ _ _ h => h⟩
noncomputable abbrev EXS := Sg → EXT
noncomputable def EXS0 : EXS := fun _ => EX0
noncomputable def Out (K : PySem.W.Frag) (EX : EXT) (G H : Hp) (r : R W) (Q : VK) : Prop := match r with
  | .ok w => WP K G H w Q
  | .ex x => EX.p x G H
  | .no => False
section
variable {K : PySem.W.Frag} {EX : EXT} {G H G' H' : Hp} {Q Q' : VK} {w : W}
theorem WP.mono (s : Step G H G' H') (h : WP K G H w Q) : WP K G' H' w Q := by
  cases w with
  | sh d => exact fun v G2 H2 s2 r => h v G2 H2 (s.trans s2) r
  | ow d => exact fun v S G2 H2 s2 fr t => h v S G2 H2 (s.trans s2) (fun a ha => ⟨s.hh.free (fr a ha).1, (fr a ha).2⟩) t
  | tr d => exact fun v S G2 H2 s2 fr t => h v S G2 H2 (s.trans s2) (fun a ha => ⟨s.hh.free (fr a ha).1, (fr a ha).2⟩) t
theorem Out.mono {r : R W} (s : Step G H G' H') (h : Out K EX G H r Q) : Out K EX G' H' r Q := by
  cases r with
  | ok w => exact WP.mono s h
  | ex x => exact EX.mono _ _ _ _ _ s h
  | no => exact h
theorem WP.join {v : V} {t : Tn} {S : AS} (h : ∀ v G' H', Step G H G' H' → Has K G' v t.d → Q v H') (s : Step G H G' H') (fr : ∀ a, S a → H a = none ∧ G' a = none ∧ H' a ≠ none) (t : Ow K G' H' v t S) : Q v H' := by
  have sg : Same G' (joinG G' H' S) := fun b o q => by
    unfold joinG
    split
    · rename_i hb; rw [(fr b hb).2.1] at q; cases q
    · exact q
  refine h v (joinG G' H' S) H' ⟨s.hh, fun b o q => ?_, s.gg.trans sg, fun b n z => ?_⟩ (t.has sg fun b o hb q => ?_)
  · unfold joinG at q
    split at q
    · exact q
    · exact s.gh b o q
  · unfold joinG
    split
    · rename_i hb; exact absurd (fr b hb).1 z
    · exact s.nw b n z
  · unfold joinG
    rw [if_pos hb]
    exact q
theorem WP.intro (h : ∀ v G' H', Step G H G' H' → Has K G' v w.d → Q v H') : WP K G H w Q := by
  cases w with
  | sh d => exact h
  | ow d => exact fun v S G' H' s fr t => WP.join (t := Tn.of d) (by rw [Tn.of_d]; exact h) s fr t
  | tr d => exact fun v S G' H' s fr t => WP.join h s fr t
theorem WP.sh (h : WP K G H (.sh w.d) Q) : WP K G H w Q := WP.intro h
theorem WP.imp (h : WP K G H w Q) (i : ∀ v H', Q v H' → Q' v H') : WP K G H w Q' := by
  cases w with
  | sh d => exact fun v G2 H2 s2 r => i _ _ (h v G2 H2 s2 r)
  | ow d => exact fun v S G2 H2 s2 fr t => i _ _ (h v S G2 H2 s2 fr t)
  | tr d => exact fun v S G2 H2 s2 fr t => i _ _ (h v S G2 H2 s2 fr t)
theorem WP.use {d : D} {v : V} (h : WP K G H (.sh d) Q) (s : Same G H) (r : Has K G v d) : Q v H := h v G H (Step.refl s) r
end

inductive ExcAt (K : PySem.W.Frag) (G : Hp) : Value → Option Addr → Xn → Prop where
  | bare {C : Addr} {c : Str} (hc : ClsAt K c C) : ExcAt K G (.ref C) none ⟨c, [], []⟩
  | with_ {C d : Addr} {c : Str} {ns : List Str} {us : List V} {vs : List D} (hc : ClsAt K c C) (hd : G d = some (.xd (ns.zip us))) (hl : ns.length = us.length) (r : HasL K G us vs) : ExcAt K G (.ref C) (some d) ⟨c, ns, vs⟩
theorem ExcAt.mono {K : PySem.W.Frag} {G G' : Hp} (e : Same G G') {cls : Value} {dx : Option Addr} {x : Xn} (h : ExcAt K G cls dx x) : ExcAt K G' cls dx x := by
  cases h with
  | bare hc => exact .bare hc
  | with_ hc hd hl r => exact .with_ hc (e _ _ hd) hl (r.mono e)
noncomputable def EXof (K : PySem.W.Frag) (E : XK) : EXT := ⟨fun x G H => ∀ cls dx G' H', Step G H G' H' → ExcAt K G' cls dx x → E cls dx H', fun _ _ _ _ _ s h cls dx G2 H2 s2 => h cls dx G2 H2 (s.trans s2)⟩
noncomputable def EXE (K : PySem.W.Frag) (EX : EXT) : XK := fun cls dx H => ∃ x G, Same G H ∧ ExcAt K G cls dx x ∧ EX.p x G H
theorem EXE.of {K : PySem.W.Frag} {E : XK} {cls : Value} {dx : Option Addr} {H : Hp} (h : EXE K (EXof K E) cls dx H) : E cls dx H := by
  obtain ⟨x, G, s, e, q⟩ := h
  exact q cls dx G H (Step.refl s) e
theorem EXof.in {K : PySem.W.Frag} {EX : EXT} {G H : Hp} {x : Xn} (q : EX.p x G H) : (EXof K (EXE K EX)).p x G H := fun _ _ G' H' st e => ⟨x, G', st.gh, e, EX.mono _ _ _ _ _ st q⟩
noncomputable abbrev DE := List (Option D)
noncomputable abbrev FE := DE → R W
noncomputable abbrev FT := DE → R Bool
noncomputable abbrev FA := DE → R (List D)
structure HasS (K : PySem.W.Frag) (G : Hp) (σ : Sg) (δ : DE) : Prop where
  len : σ.length = δ.length
  get : ∀ (i : Nat) (d : D), δ[i]? = some (some d) → ∃ v, σ[i]? = some (some v) ∧ Has K G v d
theorem HasS.mono {K : PySem.W.Frag} {G G' : Hp} {σ : Sg} {δ : DE} (e : Same G G') (h : HasS K G σ δ) : HasS K G' σ δ := ⟨h.len, fun i d q => by
  obtain ⟨v, e1, r⟩ := h.get i d q
  exact ⟨v, e1, r.mono e⟩⟩

noncomputable def tD (K : PySem.W.Frag) (EX : EXS) (f : FE) : TE := fun σ H Q => ∃ G δ, Same G H ∧ HasS K G σ δ ∧ Out K (EX σ) G H (f δ) Q
noncomputable def tDt (K : PySem.W.Frag) (EX : EXS) (f : FT) : TT := fun σ H Q => ∃ G δ, Same G H ∧ HasS K G σ δ ∧ match f δ with
  | .ok b => ∀ G' H', Step G H G' H' → Q b H'
  | .ex x => (EX σ).p x G H
  | .no => False
noncomputable def tDa (K : PySem.W.Frag) (EX : EXS) (f : FA) : TA := fun σ H Q => ∃ G δ, Same G H ∧ HasS K G σ δ ∧ match f δ with
  | .ok ds => ∀ vs G' H', Step G H G' H' → HasL K G' vs ds → Q vs H'
  | .ex x => (EX σ).p x G H
  | .no => False
noncomputable abbrev ED (X : Cx) (EX : EXS) (e : Expr) (f : FE) : Prop := PE X e (tD X.K EX f)
noncomputable abbrev TD (X : Cx) (EX : EXS) (e : Expr) (f : FT) : Prop := PT X e (tDt X.K EX f)
noncomputable abbrev AD (X : Cx) (EX : EXS) (es : List Expr) (f : FA) : Prop := PA X es (tDa X.K EX f)

theorem PE.imp {X : Cx} {e : Expr} {t t' : TE} (h : PE X e t) (i : ∀ σ H Q, t' σ H Q → t σ H Q) : PE X e t' := fun pins s σ H Q I q => h pins s σ H Q I (i σ H Q q)
theorem PT.imp {X : Cx} {e : Expr} {t t' : TT} (h : PT X e t) (i : ∀ σ H Q, t' σ H Q → t σ H Q) : PT X e t' := fun pins s σ H Q I q => h pins s σ H Q I (i σ H Q q)
theorem PW.imp {X : Cx} {e : Expr} {t t' : TT} (h : PW X e t) (i : ∀ σ H Q, t' σ H Q → t σ H Q) : PW X e t' := fun wh pins s σ H Q I q => h wh pins s σ H Q I (i σ H Q q)
theorem PA.imp {X : Cx} {e : List Expr} {t t' : TA} (h : PA X e t) (i : ∀ σ H Q, t' σ H Q → t σ H Q) : PA X e t' := fun pos pins s σ H Q I q => h pos pins s σ H Q I (i σ H Q q)
theorem PS.imp {X : Cx} {e : Stmt} {t t' : TS} (h : PS X e t) (i : ∀ D σ H, t' D σ H → t D σ H) : PS X e t' := fun pins s σ H D I q => h pins s σ H D I (i D σ H q)
theorem PSs.imp {X : Cx} {e : List Stmt} {t t' : TS} (h : PSs X e t) (i : ∀ D σ H, t' D σ H → t D σ H) : PSs X e t' := fun pins s σ H D I q => h pins s σ H D I (i D σ H q)

section
variable {K : PySem.W.Frag} {EX : EXS} {G H : Hp} {σ : Sg} {δ : DE} {Q : VK}
theorem tD.seq {f : FE} {k : W → R W} {P : VK} (g : Same G H) (s : HasS K G σ δ) (h : Out K (EX σ) G H ((f δ).bind k) Q)
    (i : ∀ w v G' H', f δ = .ok w → Step G H G' H' → Has K G' v w.d → Out K (EX σ) G' H' (k w) Q → P v H') : tD K EX f σ H P := by
  refine ⟨G, δ, g, s, ?_⟩
  cases e : f δ with
  | ok w =>
    rw [e] at h
    exact WP.intro fun v G' H' st r => i w v G' H' e st r (Out.mono st h)
  | ex x => rw [e] at h; exact h
  | no => rw [e] at h; exact h
theorem tDt.seq {f : FT} {k : Bool → R W} {P : Bool → Hp → Prop} (g : Same G H) (s : HasS K G σ δ) (h : Out K (EX σ) G H ((f δ).bind k) Q)
    (i : ∀ b G' H', f δ = .ok b → Step G H G' H' → Out K (EX σ) G' H' (k b) Q → P b H') : tDt K EX f σ H P := by
  refine ⟨G, δ, g, s, ?_⟩
  cases e : f δ with
  | ok w =>
    rw [e] at h
    exact fun G' H' st => i w G' H' e st (Out.mono st h)
  | ex x => rw [e] at h; exact h
  | no => rw [e] at h; exact h
theorem tDa.seq {f : FA} {k : List D → R W} {P : List V → Hp → Prop} (g : Same G H) (s : HasS K G σ δ) (h : Out K (EX σ) G H ((f δ).bind k) Q)
    (i : ∀ ds vs G' H', f δ = .ok ds → Step G H G' H' → HasL K G' vs ds → Out K (EX σ) G' H' (k ds) Q → P vs H') : tDa K EX f σ H P := by
  refine ⟨G, δ, g, s, ?_⟩
  cases e : f δ with
  | ok w =>
    rw [e] at h
    exact fun vs G' H' st r => i w vs G' H' e st r (Out.mono st h)
  | ex x => rw [e] at h; exact h
  | no => rw [e] at h; exact h
end
theorem out_own {EX : EXT} {K : PySem.W.Frag} {G H : Hp} {Q : VK} {ds : List D} {vs : List V} (o : Out K EX G H (.ok (.ow (.lst ds))) Q) (g : Same G H) (r : HasL K G vs ds) : ∀ p, H p = none → Q (.ref p) (upd H p (.lst vs)) :=
  fun p hp => o (.ref p) (fun b => b = p) G _ (Step.own g hp _) (fun a e => by subst e; exact ⟨hp, g.free hp, by rw [upd_same]; simp⟩) (.list upd_same rfl r)
end L3

namespace L3
open PySem PySem.Spec PyProof.Rows L2
structure Tr (h : Heap) (a C : Addr) (dx : Option Addr) (fl : Value) (T : Addr) : Prop where
  ob : ∃ o us, h.get? a = some o ∧ o.cls = .ref C ∧ o.dict = dx ∧ o.data = .fields us ∧ us[1]? = some (.ref T)
  ne : T ≠ a
  tb : ∃ o us, h.get? T = some o ∧ o.data = .fields us ∧ us[3]? = some fl
structure KeepX (xs fr : List Addr) (h h' : Heap) : Prop where
  same : ∀ b o, b ∉ xs → b ∉ fr → h.get? b = some o → h'.get? b = some o
  slot : ∀ b o, b ∉ xs → h.get? b = some o → ∃ sl, h'.get? b = some { o with slots := sl }
theorem KeepX.trans {xs ys fr : List Addr} {h1 h2 h3 : Heap} (a : KeepX xs fr h1 h2) (b : KeepX ys fr h2 h3) : KeepX (xs ++ ys) fr h1 h3 :=
  ⟨fun c o n m e => b.same c o (fun z => n (List.mem_append_right _ z)) m (a.same c o (fun z => n (List.mem_append_left _ z)) m e), fun c o n e => by
    obtain ⟨sl, e1⟩ := a.slot c o (fun z => n (List.mem_append_left _ z)) e
    obtain ⟨sl', e2⟩ := b.slot c _ (fun z => n (List.mem_append_right _ z)) e1
    exact ⟨sl', e2⟩⟩
theorem KeepX.of_same {xs fr : List Addr} {h h' : Heap} (k : ∀ b o, b ∉ xs → h.get? b = some o → h'.get? b = some o) : KeepX xs fr h h' :=
  ⟨fun b o n _ e => k b o n e, fun b o n e => ⟨o.slots, k b o n e⟩⟩
theorem KeepX.mono {xs ys fr : List Addr} {h h' : Heap} (k : KeepX xs fr h h') (s : ∀ b ∈ xs, b ∈ ys) : KeepX ys fr h h' :=
  ⟨fun b o n m e => k.same b o (fun z => n (s b z)) m e, fun b o n e => k.slot b o (fun z => n (s b z)) e⟩
theorem dict_map (o : Obj) (f : Array Value → Array Value) : (o.mapFields f).dict = o.dict := by
  obtain ⟨c, d, dt, sl⟩ := o
  cases dt <;> rfl
section
variable {M : Model} {A : Around} {E : Value → Shared → Prop} {s : Shared} {env : Env} {outer : List Env} {base : Heap} {L a C : Addr} {dx : Option Addr} {Q : Unit → Shared → Prop}
theorem entry_x {o : Obj} {us : Array Value} {head : Value} {b : Bool} (hfr : A.frames = some (env :: outer)) (hl : s.heap.FunFrames base (env :: outer)) (hf : env.frame = some L)
    (he : s.heap.get? a = some o) (hc : o.cls = .ref C) (hx : o.dict = dx) (hd : o.data = .fields us) (hz : 1 < us.size)
    (h : ∀ h' T, s.heap.objs.size ≤ T → KeepX [a] (frs (env :: outer)) s.heap h' → Tr h' a C dx (rawInt L) T → Q () { s with heap := h' }) :
    wpAny M A (do let fv ← frameOf env; let pl ← entryPlaceOf L b; let en ← EntryCells.newEntry head fv .none (rawInt L) .none pl; setField (.ref a) 1 en) Q E s := by
  have nfr : a ∉ frs (env :: outer) := fun hm => by
    obtain ⟨_, u, hu, hn⟩ := hl.mem hm
    rw [he] at hu
    cases hu
    exact hn us hd
  refine wpAny_bind (wpAny_frameOf_fun hfr hl hf fun h1 so => ?_)
  refine wpAny_bind (wpAny_entryPlaceOf fun pl hpl => ?_)
  unfold EntryCells.newEntry newFields
  refine wpAny_bind (wpAny_newObj_type ?_ (hpl.sizeOk5 _ _ _ _ _))
  have e1 : h1.get? a = some o := (so.2.1 a nfr).trans he
  generalize hT : ({ cls := .type "traceback", dict := none, data := .fields ([head, .ref L, .none, rawInt L, .none] ++ (if pl.isEmpty then List.replicate 6 Value.none else pl)).toArray } : Obj) = oT
  have eT : oT.data = .fields ([head, .ref L, .none, rawInt L, .none] ++ (if pl.isEmpty then List.replicate 6 Value.none else pl)).toArray := by rw [← hT]
  have e2 : (h1.push oT).get? a = some o := Heap.get?_push_of_some oT e1
  refine wpAny_setField e2 hd hz ?_
  have sz : h1.objs.size = s.heap.objs.size := so.1
  have ltA : a < s.heap.objs.size := Heap.lt_size he
  have neT : h1.objs.size ≠ a := fun z => absurd ltA (by rw [← z, sz]; exact Nat.lt_irrefl _)
  have d3 := Obj.data_mapFields hd (·.setIfInBounds 1 (Value.ref h1.objs.size))
  refine h _ h1.objs.size (by rw [sz]; exact Nat.le_refl _) ⟨fun b u n m e => ?_, fun b u n e => ?_⟩ ⟨⟨_, _, Heap.get?_update_self _ e2 (Obj.isFreed_of_fields d3), (Obj.cls_mapFields _ _).trans hc, (dict_map _ _).trans hx, d3, ?_⟩, neT, ⟨oT, _, ?_, eT, ?_⟩⟩
  · have nb : a ≠ b := fun z => n (by simp [z])
    rw [Heap.get?_update_other _ _ nb]
    exact Heap.get?_push_of_some oT ((so.2.1 b m).trans e)
  · have nb : a ≠ b := fun z => n (by simp [z])
    obtain ⟨sl, es⟩ := so.2.2 b u e
    exact ⟨sl, by rw [Heap.get?_update_other _ _ nb]; exact Heap.get?_push_of_some oT es⟩
  · simp [hz]
  · rw [Heap.get?_update_other _ _ (Ne.symm neT)]
    exact Heap.get?_push_size h1 (Obj.isFreed_of_fields eT)
  · first | (simp; done) | (rcases hpl with rfl | ⟨_, _, _, _, _, _, _, rfl⟩ <;> simp)
theorem note_next {T0 : Addr} (hfr : A.frames = some (env :: outer)) (hl : s.heap.FunFrames base (env :: outer)) (hf : env.frame = some L) (t : Tr s.heap a C dx .none T0)
    (h : ∀ h' T, s.heap.objs.size ≤ T → KeepX [a, T0] (frs (env :: outer)) s.heap h' → Tr h' a C dx (rawInt L) T → Q () { s with heap := h' }) : wpAny M A (noteFrame (.ref a) env) Q E s := by
  obtain ⟨⟨o, us, he, hc, hx, hd, h1⟩, ne, ⟨oT, ws, hT, hdT, h3⟩⟩ := t
  unfold noteFrame
  simp only [hf]
  refine wpAny_bind (wpAny_field he hd h1 ?_)
  rw [if_pos (show (Value.ref T0 != Value.none) = true from by simp)]
  refine wpAny_bind (wpAny_field hT hdT h3 ?_)
  rw [if_neg (show ¬ ((Value.none == rawInt L) = true) from by simp [rawInt])]
  refine wpAny_bind (wpAny_setField hT hdT (Array.getElem?_eq_some_iff.mp h3).1 ?_)
  have oth : ∀ b, b ≠ T0 → (s.heap.update T0 (Obj.mapFields (·.setIfInBounds 3 Value.none))).get? b = s.heap.get? b := fun b hb => Heap.get?_update_other _ _ (Ne.symm hb)
  have nrec : ∀ b u, s.heap.get? b = some u → (∀ zs, u.data ≠ .fields zs) → b ≠ T0 := fun b u hb hn q => by
    subst q
    rw [hT] at hb
    cases hb
    exact hn ws hdT
  refine entry_x (s := { s with heap := s.heap.update T0 (Obj.mapFields (·.setIfInBounds 3 Value.none)) }) hfr (hl.of_keeps fun b u hb hn => ⟨u, (oth b (nrec b u hb hn)).trans hb, rfl⟩) hf ((oth a (Ne.symm ne)).trans he) hc hx hd (Array.getElem?_eq_some_iff.mp h1).1 fun h' T n k tr => h h' T ?_ ?_ tr
  · have zz : (s.heap.update T0 (Obj.mapFields (·.setIfInBounds 3 Value.none))).objs.size = s.heap.objs.size := Heap.size_update _ _ _
    rw [← zz]
    exact n
  · have na : ∀ b, b ∉ [a, T0] → b ∉ [a] := fun b nb z => nb (by rw [List.mem_singleton.mp z]; exact List.mem_cons_self)
    have nT : ∀ b, b ∉ [a, T0] → b ≠ T0 := fun b nb z => nb (by rw [z]; simp)
    exact ⟨fun b u nb m e => k.same b u (na b nb) m ((oth b (nT b nb)).trans e), fun b u nb e => k.slot b u (na b nb) ((oth b (nT b nb)).trans e)⟩
theorem flight_none {T : Addr} {fl : Value} (t : Tr s.heap a C dx fl T) (h : ∀ h', (∀ b o, b ∉ [T] → s.heap.get? b = some o → h'.get? b = some o) → Tr h' a C dx .none T → Q () { s with heap := h' }) : wpAny M A (setFlight (.ref a) none) Q E s := by
  obtain ⟨⟨o, us, he, hc, hx, hd, h1⟩, ne, ⟨oT, ws, hT, hdT, h3⟩⟩ := t
  have sz3 : 3 < ws.size := (Array.getElem?_eq_some_iff.mp h3).1
  unfold setFlight
  refine wpAny_bind (wpAny_field he hd h1 ?_)
  rw [if_pos (show (Value.ref T != Value.none) = true from by simp)]
  refine wpAny_setField hT hdT sz3 (h _ (fun b u n e => ?_) ⟨⟨o, us, ?_, hc, hx, hd, h1⟩, ne, ⟨_, _, Heap.get?_update_self _ hT (Obj.isFreed_of_fields (Obj.data_mapFields hdT _)), Obj.data_mapFields hdT _, ?_⟩⟩)
  · rw [Heap.get?_update_other _ _ (fun z => n (by simp [z]))]; exact e
  · rw [Heap.get?_update_other _ _ ne]; exact he
  · simp [sz3]
end
end L3

namespace L3
open PySem PySem.Spec PyProof.Rows L2
noncomputable def CXr (P : Program) (w : World) : CXT := fun outer H s E e s' => ∃ a C dx T H', e = .ref a ∧ s'.os = s.os ∧ AllBare s'.gens ∧ Un (frs outer) [] H H' s.heap s'.heap ∧ HOk P w H' s'.heap ∧
  Tr s'.heap a C dx .none T ∧ H' a = none ∧ H' T = none ∧ s.heap.objs.size ≤ a ∧ s.heap.objs.size ≤ T ∧ E (.ref C) dx H'
section
variable {X : Cx} {pins : List (Addr × Obj)} {σ : Sg} {H H' : Hp} {s s' : Shared}
theorem Inv.settle {ch : List Addr} {h2 : Heap} (I : Inv X pins σ H s) (I' : Inv X pins σ H' s') (n : ∀ b ∈ ch, s.heap.objs.size ≤ b ∧ H' b = none) (k : KeepX ch (frs X.stack) s'.heap h2) : Inv X pins σ H' { s' with heap := h2 } := by
  have trk : ∀ b u, H' b = some u → b ∉ ch ∧ b ∉ frs X.stack := fun b u e => ⟨fun z => (by rw [(n b z).2] at e; cases e), fun z => (by rw [I'.stkFree b z] at e; cases e)⟩
  refine I'.step (g' := s'.gens) (d' := s'.drawn) (t' := s'.toks) (ch := ch) (fun b hb => ?_) (fun b o h1 h2 h3 e _ => k.same b o h3 (fun z => ?_) e) (fun b o _ _ h3 e _ => k.slot b o h3 e) (fun _ _ _ _ z => z) (fun b o h3 e => ?_) (fun _ _ z => z) (fun _ _ _ z => z) (fun b ps z => ⟨#[], by rw [z]; simp⟩) (fun m hm => ?_) (fun b u e => ?_) I'.bare
  · have lb := (n b hb).1
    refine ⟨.inr (Nat.le_trans I.sz lb), fun z => ?_, fun x c e z => ?_, fun p hp z => ?_⟩
    · exact absurd (Nat.lt_of_lt_of_le I.lt lb) (by rw [z]; exact Nat.lt_irrefl _)
    · obtain ⟨v, hv⟩ := I.cell x c e
      exact absurd (Nat.lt_of_lt_of_le hv.lt lb) (by rw [z]; exact Nat.lt_irrefl _)
    · exact absurd (Nat.lt_of_lt_of_le (Heap.lt_size (I.pin p hp).1) lb) (by rw [z]; exact Nat.lt_irrefl _)
  · rcases List.mem_cons.mp (I'.stkSub b z) with z | z
    · exact h1 z
    · exact h2 z
  · obtain ⟨sl, q⟩ := k.slot b o h3 e
    exact ⟨_, q⟩
  · obtain ⟨o, es, ep, ho, r⟩ := hm
    have nl : X.env.locals ∉ ch := fun z => absurd (Nat.lt_of_lt_of_le I.lt (n _ z).1) (Nat.lt_irrefl _)
    obtain ⟨sl, q⟩ := k.slot _ o nl ho
    exact ⟨_, es, ep, q, r⟩
  · refine (I'.hok b u e).stay (fun c v hc q => ?_) (fun _ z => z) fun _ _ z => z
    rcases hc with rfl | hc
    · exact k.same c v (trk c u e).1 (trk c u e).2 q
    · exact k.same c v (trk c _ hc).1 (trk c _ hc).2 q
theorem Inv.raised {E : XK} {e : Value} (I : Inv X pins σ H s) (c : CXr X.prog X.w X.stack H s E e s') : ∃ a C dx T H', e = .ref a ∧ Inv X pins σ H' s' ∧ Tr s'.heap a C dx .none T ∧ H' a = none ∧ H' T = none ∧ s.heap.objs.size ≤ a ∧ s.heap.objs.size ≤ T ∧ E (.ref C) dx H' := by
  obtain ⟨a, C, dx, T, H', e1, os, br, un, hok, tr, n1, n2, z1, z2, q⟩ := c
  exact ⟨a, C, dx, T, H', e1, I.call' (ch := []) os un hok br (fun b z => absurd z (by simp)), tr, n1, n2, z1, z2, q⟩
end
section
variable {cm : Bool} {P : Program} {w : World} {K : PySem.W.Frag} {mg : Str → Option Value} {base : Heap} {N : List Str} {qual : Str} {scope : Scope} {f : Addr} {cd : Value} {A : Around} {outer : List Env} {s0 : Shared} {H0 : Hp} {E E' : XK}
theorem leaves_on {pins : List (Addr × Obj)} {σ : Sg} {H : Hp} {s s' : Shared} {e : Value} (I : Inv ({ cxOf (CXr P w) P w K mg base N qual scope f cd A outer s0 H0 E with calm := cm } : Cx) pins σ H s)
    (c : CXr P w ({ cxOf (CXr P w) P w K mg base N qual scope f cd A outer s0 H0 E with calm := cm } : Cx).stack H s E' e s') (i : ∀ cls dx H', E' cls dx H' → E cls dx H') : ({ cxOf (CXr P w) P w K mg base N qual scope f cd A outer s0 H0 E with calm := cm } : Cx).xe e s' := by
  obtain ⟨a, C, dx, T, H', rfl, I', tr, n1, n2, z1, z2, q⟩ := Inv.raised I c
  show wpAny (model P w) _ (leaving _ _) _ _ s'
  unfold leaving
  refine wpAny_bind (note_next I'.ok.frames I'.stack rfl tr fun h1 T2 z3 k1 t1 => ?_)
  refine flight_none t1 fun h2 k2 t2 => ?_
  have zT2 : H' T2 = none := I'.hok.fresh z3
  have J : Inv ({ cxOf (CXr P w) P w K mg base N qual scope f cd A outer s0 H0 E with calm := cm } : Cx) pins σ H' { s' with heap := h2 } := by
    refine Inv.settle (ch := [a, T] ++ [T2]) I I' (fun b hb => ?_) (k1.trans (KeepX.of_same k2))
    have : b = a ∨ b = T ∨ b = T2 := by simpa using hb
    rcases this with rfl | rfl | rfl
    · exact ⟨z1, n1⟩
    · exact ⟨z2, n2⟩
    · exact ⟨Nat.le_trans (Nat.le_trans (Nat.le_refl _) z1) (Nat.le_trans (Nat.le_of_lt (Heap.lt_size tr.ob.choose_spec.choose_spec.1)) z3), zT2⟩
  exact ⟨a, C, dx, T2, H', rfl, J.os, J.bare, J.base, J.hok, t2, n1, zT2, Nat.le_trans I.sz z1, Nat.le_trans I'.sz z3, i _ _ _ q⟩
end
end L3

namespace L3
open PySem PySem.Spec PyProof.Rows L2
section
variable {prog : Program} {w : World} {A : Around} {E : Value → Shared → Prop} {h : Heap} {g : Array GenState} {d : Drawn} {t : Nat} {os : OsState}
variable {nm q : Str} {C N : Addr} {bs bm bmB : List Value} {hdct : Bool} {sn : List Str} {sub : List Value} {ab : Bool} {col : Option Bool} {dd : Option Addr} {k0 k1 k2 k3 k5 : Option Value} {B newId initId : String}
end
end L3

namespace L3
open PySem PySem.Spec PyProof.Rows L2
section
variable {X : Cx} {EX : EXS} {a b c : Expr} {f g h : FE} {pos : Pos}

noncomputable def eVar (i : Nat) : FE := fun δ => match δ[i]? with
  | some (some d) => .ok (.sh d)
  | _ => .no
noncomputable def eC (d : D) : FE := fun _ => .ok (.sh d)
theorem ed_var (i : Nat) {x : Str} {pos : Pos} (hN : X.N[i]? = some x := by rfl) (hv : Vis X.env.scope x := by first | exact Or.inl rfl | exact Or.inr (Or.inl rfl) | exact Or.inr (Or.inr rfl)) (hd : (x == ("__debug__" : Str)) = false := by decide)
    (hcd : (x == ("__classdict__" : Str)) = false := by decide) : ED X EX (.Name x pos) (eVar i) :=
  PE.imp (pe_var hN hv hd hcd) fun σ H Q ⟨G, δ, g, s, o⟩ => by
    unfold eVar at o
    split at o
    · rename_i d e
      obtain ⟨v, e1, r⟩ := s.get i d e
      exact ⟨v, e1, WP.use o g r⟩
    · exact o.elim
theorem ed_const {e : Expr} {v : V} {d : D} (he : PE X e (tC v)) (hd : ∀ G, Has X.K G v d) : ED X EX e (eC d) :=
  PE.imp he fun σ H Q ⟨G, δ, g, s, o⟩ => WP.use o g (hd G)
theorem ed_int {i : Int} {j pos} : ED X EX (.Constant (.int i) j pos) (eC (.int i)) := ed_const pe_int fun _ => .int i
theorem ed_bl {b : Bool} {j pos} : ED X EX (.Constant (.bool b) j pos) (eC (.bl b)) := ed_const pe_bl fun _ => .bl b
theorem ed_non {j pos} : ED X EX (.Constant .none j pos) (eC .non) := ed_const pe_non fun _ => .non
noncomputable def rD (K : PySem.W.Frag) (r : D → D → R W) : R2 := fun x y H Q => ∃ (EX : EXT) (G : Hp) (a b : D), Same G H ∧ Has K G x a ∧ Has K G y b ∧ Out K EX G H (r a b) Q
noncomputable abbrev OpD (X : Cx) (f : Value → Value → Sem Value) (r : D → D → R W) : Prop := OpR X f (rD X.K r)
noncomputable def eOp (r : D → D → R W) (f g : FE) : FE := fun δ => (f δ).bind fun a => (g δ).bind fun b => r a.d b.d
theorem two {K : PySem.W.Frag} {r : D → D → R W} {σ : Sg} {H : Hp} {Q : VK} (q : tD K EX (eOp r f g) σ H Q) : tOp (rD K r) (tD K EX f) (tD K EX g) σ H Q := by
  obtain ⟨G, δ, g0, s0, o⟩ := q
  exact tD.seq g0 s0 o fun w v G1 H1 _ st1 r1 o1 => tD.seq st1.gh (s0.mono st1.gg) o1 fun w2 v2 G2 H2 _ st2 r2 o2 => ⟨_, G2, w.d, w2.d, st2.gh, r1.mono st2.gg, r2, o2⟩
theorem ed_bin {op : Operator} {r : D → D → R W} (ho : OpD X (binaryOp op) r) (ha : ED X EX a f) (hb : ED X EX b g) : ED X EX (.BinOp a op b pos) (eOp r f g) :=
  PE.imp (pe_op ho ha hb) fun _ _ _ q => two q
theorem ed_cmp {op : CmpOp} {r : D → D → R W} (ho : OpD X (compareOp op) r) (ha : ED X EX a f) (hb : ED X EX b g) (hm : behindInMarks op b = false) : ED X EX (.Compare a [op] [b] pos) (eOp r f g) :=
  PE.imp (pe_cmpR ho ha hb hm) fun _ _ _ q => two q
noncomputable def boolD : D → R Bool
  | .bl b => .ok b
  | _ => .no
noncomputable def eTest (f : FE) : FT := fun δ => (f δ).bind fun w => boolD w.d
theorem test_of {K : PySem.W.Frag} {σ : Sg} {H : Hp} {Q : Bool → Hp → Prop} (q : tDt K EX (eTest f) σ H Q) : tD K EX f σ H fun x H' => ∃ k, x = .bl k ∧ Q k H' := by
  obtain ⟨G, δ, g0, s0, o⟩ := q
  refine ⟨G, δ, g0, s0, ?_⟩
  unfold eTest at o
  cases e : f δ with
  | ok w =>
    rw [e] at o
    simp only [R.bind_ok] at o
    refine WP.intro fun v G' H' st r => ?_
    revert r o
    cases w.d with
    | bl k => intro o r; cases r; exact ⟨k, rfl, o G' H' st⟩
    | _ => intro o _; exact False.elim o
  | ex x => rw [e] at o; exact o
  | no => rw [e] at o; exact o
theorem td_cmp {op : CmpOp} {r : D → D → R W} (ho : OpD X (compareOp op) r) (ha : ED X EX a f) (hb : ED X EX b g) (hm : behindInMarks op b = false) : TD X EX (.Compare a [op] [b] pos) (eTest (eOp r f g)) :=
  PT.imp (pt_cmpR ho ha hb hm) fun σ H Q q => two (test_of q)
noncomputable abbrev TW (X : Cx) (EX : EXS) (e : Expr) (f : FT) : Prop := PW X e (tDt X.K EX f)
variable {p q : FT} {rest : List Expr}
noncomputable def tAndF (p q : FT) : FT := fun δ => (p δ).bind fun b => if b = true then q δ else .ok false
noncomputable def tOrF (p q : FT) : FT := fun δ => (p δ).bind fun b => if b = true then .ok true else q δ
noncomputable def tNotF (p : FT) : FT := fun δ => (p δ).bind fun b => .ok (!b)
theorem tw_or1 (ha : TD X EX a p) : TW X EX (.BoolOp .Or [a] pos) p := pw_or1 ha
theorem tDt.two {K : PySem.W.Frag} {σ : Sg} {H : Hp} {Q : Bool → Hp → Prop} {k : Bool → DE → R Bool} {P : Bool → Hp → Prop} (h : tDt K EX (fun δ => (p δ).bind fun b => k b δ) σ H Q)
    (i : ∀ b H', tDt K EX (k b) σ H' Q → P b H') : tDt K EX p σ H P := by
  obtain ⟨G, δ, g0, s0, o⟩ := h
  refine ⟨G, δ, g0, s0, ?_⟩
  cases e : p δ with
  | ok b =>
    simp only [e, R.bind_ok] at o
    refine fun G' H' st => i b H' ⟨G', δ, st.gh, s0.mono st.gg, ?_⟩
    cases e2 : k b δ with
    | ok c => rw [e2] at o; exact fun G2 H2 st2 => o G2 H2 (st.trans st2)
    | ex x => rw [e2] at o; exact (EX σ).mono _ _ _ _ _ st o
    | no => rw [e2] at o; exact o
  | ex x => simp only [e, R.bind_ex] at o; exact o
  | no => simp only [e, R.bind_no] at o
theorem tDt.now {K : PySem.W.Frag} {σ : Sg} {H : Hp} {Q : Bool → Hp → Prop} {c : Bool} (h : tDt K EX (fun _ => .ok c) σ H Q) : Q c H := by
  obtain ⟨G, δ, g0, s0, o⟩ := h
  exact o G H (Step.refl g0)
theorem tw_or (ha : TD X EX a p) (hb : TW X EX (.BoolOp .Or (b :: rest) pos) q) : TW X EX (.BoolOp .Or (a :: b :: rest) pos) (tOrF p q) :=
  PW.imp (pw_or ha hb) fun σ H Q h => tDt.two (k := fun b δ => if b = true then .ok true else q δ) h fun b H' h' => by
    cases b with
    | true => rw [if_pos rfl]; exact tDt.now h'
    | false => rw [if_neg Bool.false_ne_true]; exact h'
theorem td_w {e : Expr} (h : TW X EX e p) : TD X EX e p := h.pt
theorem td_not (ha : TD X EX a p) : TD X EX (.UnaryOp .Not a pos) (tNotF p) :=
  PT.imp (pt_not ha) fun σ H Q h => tDt.two (k := fun b _ => .ok (!b)) h fun b H' h' => tDt.now h'
noncomputable def eAnd (f g : FE) : FE := fun δ => (f δ).bind fun a => (boolD a.d).bind fun k => if k = true then g δ else .ok (.sh (.bl false))
noncomputable def eOr (f g : FE) : FE := fun δ => (f δ).bind fun a => (boolD a.d).bind fun k => if k = true then .ok (.sh (.bl true)) else g δ
noncomputable def eNot (f : FE) : FE := fun δ => (f δ).bind fun a => (boolD a.d).bind fun k => .ok (.sh (.bl (!k)))
theorem ed_one {op} (h : ED X EX a f) : ED X EX (.BoolOp op [a] pos) f := pe_one h
theorem tD.boolThen {K : PySem.W.Frag} {σ : Sg} {H : Hp} {Q : VK} {k : Bool → DE → R W} {P : Bool → Hp → Prop} (h : tD K EX (fun δ => (f δ).bind fun a => (boolD a.d).bind fun c => k c δ) σ H Q)
    (i : ∀ c H', tD K EX (k c) σ H' Q → P c H') : tD K EX f σ H fun x H' => ∃ c, x = .bl c ∧ P c H' := by
  obtain ⟨G, δ, g0, s0, o⟩ := h
  refine tD.seq g0 s0 o fun w v G1 H1 _ st1 r1 o1 => ?_
  revert r1 o1
  cases w.d with
  | bl c => intro r1 o1; cases r1; exact ⟨c, rfl, i c H1 ⟨G1, δ, st1.gh, s0.mono st1.gg, o1⟩⟩
  | _ => intro _ o1; exact False.elim o1
theorem tD.now {K : PySem.W.Frag} {σ : Sg} {H : Hp} {Q : VK} {v : V} {d : D} (h : tD K EX (fun _ => .ok (.sh d)) σ H Q) (r : ∀ G, Has K G v d) : Q v H := by
  obtain ⟨G, δ, g0, s0, o⟩ := h
  exact WP.use o g0 (r G)
theorem ed_and (ha : ED X EX a f) (hb : ED X EX (.BoolOp .And (b :: rest) pos) g) : ED X EX (.BoolOp .And (a :: b :: rest) pos) (eAnd f g) :=
  PE.imp (pe_and ha hb) fun σ H Q h => tD.boolThen (k := fun k δ => if k = true then g δ else .ok (.sh (.bl false))) h fun c H' h' => by
    cases c with
    | true => rw [if_pos rfl]; exact h'
    | false => rw [if_neg Bool.false_ne_true]; exact tD.now h' fun _ => .bl false
theorem ed_not (ha : ED X EX a f) : ED X EX (.UnaryOp .Not a pos) (eNot f) :=
  PE.imp (pe_not ha) fun σ H Q h => tD.boolThen (k := fun k _ => .ok (.sh (.bl (!k)))) h fun c H' h' => tD.now h' fun _ => .bl (!c)
noncomputable def eIf (p : FT) (f g : FE) : FE := fun δ => (p δ).bind fun k => if k = true then f δ else g δ
noncomputable def truthD : D → R Bool
  | .non => .ok false
  | .bl b => .ok b
  | .int i => .ok (i != 0)
  | .str x => if x.length ≤ 16777216 then .ok ((x.length : Int) != 0) else .no
  | .lst ds => .ok (!ds.isEmpty)
  | .tup ds => .ok (!ds.isEmpty)
  | _ => .no
noncomputable def eTruth (f : FE) : FT := fun δ => (f δ).bind fun w => truthD w.d
theorem isEmptyD {K : PySem.W.Frag} {G : Hp} {vs : List V} {ds : List D} (r : HasL K G vs ds) : (!ds.isEmpty) = !vs.isEmpty := by cases r <;> rfl
theorem truthV {K : PySem.W.Frag} {G H : Hp} {v : V} {d : D} {k : Bool} (g : Same G H) (r : Has K G v d) (e : truthD d = .ok k) : TruV K v H k := by
  cases r with
  | non => cases e; rfl
  | bl b => cases e; rfl
  | int i => cases e; rfl
  | str x =>
    have e : (if x.length ≤ 16777216 then R.ok ((x.length : Int) != 0) else .no) = .ok k := e
    split at e
    · rename_i hz
      cases e
      exact ⟨by rw [sizeLine_eq]; exact hz, rfl⟩
    · cases e
  | lst h r => cases e; exact .inl ⟨_, g.seq h, isEmptyD r⟩
  | tup h r => cases e; exact .inr (.inl ⟨_, Same.tupS g h, isEmptyD r⟩)
  | exn0 _ _ => cases e
  | exn1 _ _ _ _ _ => cases e
  | dic _ _ _ => cases e
  | obj _ _ _ _ => cases e
theorem td_truth (ha : ED X EX a f) (he : ∀ whole, isTrue a X.env whole = (do let v ← whole; standAt a.pos; holding [v] (truthy v)) := by intro _; rfl) : TD X EX a (eTruth f) :=
  PT.imp (pt_truth ha he) fun σ H Q ⟨G, δ, g0, s0, o⟩ => by
    refine ⟨G, δ, g0, s0, ?_⟩
    unfold eTruth at o
    cases e : f δ with
    | ok w =>
      rw [e] at o
      simp only [R.bind_ok] at o
      refine WP.intro fun v G' H' st r => ?_
      cases e2 : truthD w.d with
      | ok k => rw [e2] at o; exact ⟨k, truthV st.gh r e2, o G' H' st⟩
      | ex x => rw [e2] at o; exfalso; revert e2; cases w.d <;> simp only [truthD] <;> intro e2 <;> first | cases e2 | (split at e2 <;> cases e2)
      | no => rw [e2] at o; exact o.elim
    | ex x => rw [e] at o; exact o
    | no => rw [e] at o; exact o

variable {e : Expr} {es : List Expr} {fa : FA}
noncomputable def aNil : FA := fun _ => .ok []
noncomputable def aCons (f : FE) (fa : FA) : FA := fun δ => (f δ).bind fun w => (fa δ).bind fun ds => .ok (w.d :: ds)
theorem ad_nil : AD X EX [] aNil := PA.imp pa_nil fun σ H Q ⟨G, δ, g0, s0, o⟩ => o [] G H (Step.refl g0) .nil
theorem ad_cons (ha : ED X EX e f) (hr : AD X EX es fa) (hs : starEach (e :: es) X.env = (false, eval e X.env) :: starEach es X.env := by rfl) : AD X EX (e :: es) (aCons f fa) :=
  PA.imp (pa_cons ha hr hs) fun σ H Q ⟨G, δ, g0, s0, o⟩ => by
    refine ⟨G, δ, g0, s0, ?_⟩
    unfold aCons at o
    cases e1 : f δ with
    | ok w =>
      rw [e1] at o
      simp only [R.bind_ok] at o
      refine WP.intro fun v G' H' st r => ⟨G', δ, st.gh, s0.mono st.gg, ?_⟩
      cases e2 : fa δ with
      | ok ds => rw [e2] at o; exact fun vs G2 H2 st2 r2 => o (v :: vs) G2 H2 (st.trans st2) (.cons (r.mono st2.gg) r2)
      | ex x => rw [e2] at o; exact (EX σ).mono _ _ _ _ _ st o
      | no => rw [e2] at o; exact o
    | ex x => rw [e1] at o; exact o
    | no => rw [e1] at o; exact o
noncomputable def eTup (fa : FA) : FE := fun δ => (fa δ).bind fun ds => if ds.length ≤ 16777216 then .ok (.sh (.tup ds)) else .no
noncomputable def eLst (fa : FA) : FE := fun δ => (fa δ).bind fun ds => if ds.length ≤ 16777216 then .ok (.ow (.lst ds)) else .no
theorem ed_tup {x1} (ha : AD X EX es fa) : ED X EX (.Tuple es x1 pos) (eTup fa) :=
  PE.imp (pe_tup ha) fun σ H Q ⟨G, δ, g0, s0, o⟩ => tDa.seq g0 s0 o fun ds vs G' H' _ st r o' => by
    split at o'
    · rename_i hz
      refine ⟨by rw [r.length, sizeLine_eq]; exact hz, fun p hp => o' (.ref p) _ _ (Step.new st.gh hp _) (.tup (SqT.of upd_same) (r.mono (same_new (st.gh.free hp) _)))⟩
    · exact o'.elim
theorem ed_lst (ha : AD X EX es fa) : ED X EX (.List es pos) (eLst fa) :=
  PE.imp (pe_lst ha) fun σ H Q ⟨G, δ, g0, s0, o⟩ => tDa.seq g0 s0 o fun ds vs G' H' _ st r o' => by
    split at o'
    · rename_i hz
      refine ⟨by rw [r.length, sizeLine_eq]; exact hz, fun p hp => out_own o' st.gh r p hp⟩
    · exact o'.elim

noncomputable def rDc (K : PySem.W.Frag) (fn : List D → R W) : List V → Hp → VK → Prop := fun vs H Q => ∃ (EX : EXT) (G : Hp) (ds : List D), Same G H ∧ HasL K G vs ds ∧ Out K EX G H (fn ds) Q
noncomputable abbrev CallD (X : Cx) (v : Value) (fn : List D → R W) : Prop := CallR X v (rDc X.K fn)
noncomputable def eCall (fn : List D → R W) (fa : FA) : FE := fun δ => (fa δ).bind fn
theorem args_of {K : PySem.W.Frag} {fn : List D → R W} {σ : Sg} {H : Hp} {Q : VK} (q : tD K EX (eCall fn fa) σ H Q) : tCB (rDc K fn) (tDa K EX fa) σ H Q := by
  obtain ⟨G, δ, g0, s0, o⟩ := q
  exact tDa.seq g0 s0 o fun ds vs G' H' _ st r o' => ⟨_, G', ds, st.gh, r, o'⟩
variable {x : Str} {pp : Pos} {id T : String} {fn : List D → R W}
theorem ed_callB (hc : CallD X (.builtin id) fn) (hg : Gl X x) (hm : X.mg x = none) (hv : bootBuiltins x = some (.builtin id)) (ha : AD X EX (e :: es) fa) (hn : x ≠ "__name__" := by decide) (hdb : (x == ("__debug__" : Str)) = false := by decide)
    (he : starEach (e :: es) X.env = (false, eval e X.env) :: starEach es X.env := by rfl) (hpl : (backTo pos (starEach es X.env)).any (·.1) = false := by rfl) : ED X EX (.Call (.Name x pp) (e :: es) [] pos) (eCall fn fa) :=
  PE.imp (pe_callB hc hg hm hv ha hn hdb he hpl) fun _ _ _ q => args_of q
theorem ed_callTy (hc : CallD X (.type T) fn) (hg : Gl X x) (hm : X.mg x = none) (hv : bootBuiltins x = some (.type T)) (ha : AD X EX (e :: es) fa) (hn : x ≠ "__name__" := by decide) (hdb : (x == ("__debug__" : Str)) = false := by decide)
    (he : starEach (e :: es) X.env = (false, eval e X.env) :: starEach es X.env := by rfl) (hpl : (backTo pos (starEach es X.env)).any (·.1) = false := by rfl) : ED X EX (.Call (.Name x pp) (e :: es) [] pos) (eCall fn fa) :=
  PE.imp (pe_callTy hc hg hm hv ha hn hdb he hpl) fun _ _ _ q => args_of q

noncomputable def ixD : D → D → R W
  | .lst ds, .int i => match atI ds i with | some d => .ok (.sh d) | none => .no
  | .tup ds, .int i => match atI ds i with | some d => .ok (.sh d) | none => .no
  | .str z, .int i => if z.length ≤ 16777216 then (match atI z.cps.toList i with | some c => .ok (.sh (.str ⟨#[c]⟩)) | none => .no) else .no
  | _, _ => .no
theorem HasL.atI {K : PySem.W.Frag} {G : Hp} {vs : List V} {ds : List D} {i : Int} {d : D} (r : HasL K G vs ds) (h : L2.atI ds i = some d) : ∃ v, L2.atI vs i = some v ∧ Has K G v d := by
  unfold L2.atI at h ⊢
  rw [r.length]
  cases e : ixN ds.length i with
  | none => rw [e] at h; cases h
  | some j => rw [e] at h; exact r.get h
theorem ix_d : IxR X (rD X.K ixD) := by
  intro value slice pins s σ H x y v u Q I rx ry h hs
  obtain ⟨EX, G, a, b, g, ra, rb, o⟩ := h
  cases rb with
  | int i =>
    cases ra with
    | lst h r =>
      simp only [ixD] at o
      split at o
      · rename_i d e
        obtain ⟨v, e1, r1⟩ := HasL.atI r e
        exact ix_list value slice pins s σ H _ _ _ _ Q I rx ry ⟨_, _, i, v, rfl, rfl, g.seq h, e1, WP.use o g r1⟩ hs
      · exact o.elim
    | tup h r =>
      simp only [ixD] at o
      split at o
      · rename_i d e
        obtain ⟨v, e1, r1⟩ := HasL.atI r e
        exact ix_tup value slice pins s σ H _ _ _ _ Q I rx ry ⟨_, _, i, v, rfl, rfl, Same.tupS g h, e1, WP.use o g r1⟩ hs
      · exact o.elim
    | str z =>
      simp only [ixD] at o
      split at o
      · rename_i hz
        split at o
        · rename_i c e
          exact ix_str value slice pins s σ H _ _ _ _ Q I rx ry ⟨z, i, c, rfl, rfl, by rw [sizeLine_eq]; exact hz, e, WP.use o g (.str _)⟩ hs
        · exact o.elim
      · exact o.elim
    | _ => exact False.elim o
  | _ => cases ra <;> exact False.elim o
theorem ed_ix (ha : ED X EX a f) (hb : ED X EX b g) (hs : PlainIx b := by intro _ _; rfl) : ED X EX (.Subscript a b pos) (eOp ixD f g) :=
  PE.imp (pe_ix ix_d ha hb hs) fun _ _ _ q => two q
end
end L3

namespace L2
open PySem PySem.Spec PyProof.Rows

section
variable {κ : Type} [DecidableEq κ]
noncomputable def valV (kvs : List (κ × V)) (k : κ) : Option V := (kvs.find? fun kv => decide (kv.1 = k)).map (·.2)
noncomputable def putK (kvs : List (κ × V)) (k : κ) (v : V) : List (κ × V) :=
  if (kvs.any fun kv => decide (kv.1 = k)) = true then kvs.map (fun kv => if kv.1 = k then (kv.1, v) else kv) else kvs ++ [(k, v)]
noncomputable def dropK (kvs : List (κ × V)) (k : κ) : List (κ × V) := kvs.filter fun kv => decide (kv.1 ≠ k)

theorem valV_pos {p : κ × V} {r : List (κ × V)} {k : κ} (e : p.1 = k) : valV (p :: r) k = some p.2 := by simp [valV, List.find?_cons, e]
theorem valV_neg {p : κ × V} {r : List (κ × V)} {k : κ} (e : ¬ p.1 = k) : valV (p :: r) k = valV r k := by simp [valV, List.find?_cons, e]
theorem valV_any (k : κ) : ∀ kvs : List (κ × V), (kvs.any fun kv => decide (kv.1 = k)) = (valV kvs k).isSome
  | [] => rfl
  | p :: r => by
    rw [List.any_cons]
    by_cases e : p.1 = k
    · simp only [valV_pos e, decide_eq_true e, Bool.true_or, Option.isSome_some]
    · rw [valV_neg e, decide_eq_false e, Bool.false_or]; exact valV_any k r
theorem length_putK (kvs : List (κ × V)) (k : κ) (v : V) : (putK kvs k v).length ≤ kvs.length + 1 := by
  unfold putK
  split
  · rw [List.length_map]; omega
  · rw [List.length_append, List.length_cons, List.length_nil]; omega
theorem RelO.isSome_eq {o : Option V} {u : Option Value} (r : RelO o u) : o.isSome = u.isSome := by
  cases o with
  | none => cases u with
    | none => rfl
    | some _ => exact (show False from r).elim
  | some _ => cases u with
    | none => exact (show False from r).elim
    | some _ => rfl
theorem RelO.getD {o : Option V} {u : Option Value} {d : V} {d' : Value} (r : RelO o u) (rd : RelV d d') : RelV (o.getD d) (u.getD d') := by
  cases o with
  | none => cases u with
    | none => exact rd
    | some _ => exact (show False from r).elim
  | some _ => cases u with
    | none => exact (show False from r).elim
    | some _ => exact r

theorem KV.val {kvs : List (κ × V)} {vs : List (κ × Value)} (r : KV kvs vs) (k : κ) : RelO (valV kvs k) (valueAt vs k) := by
  unfold KV at r
  induction r with
  | nil => exact True.intro
  | @cons p q ps qs h t ih =>
    obtain ⟨h1, h2⟩ := h
    by_cases e : p.1 = k
    · have e' : q.1 = k := h1.symm.trans e
      have b : valueAt (q :: qs) k = some q.2 := by simp [valueAt, List.find?_cons, e']
      rw [valV_pos e, b]; exact h2
    · have e' : ¬ q.1 = k := fun z => e (h1.trans z)
      have b : valueAt (q :: qs) k = valueAt qs k := by simp [valueAt, List.find?_cons, e']
      rw [valV_neg e, b]; exact ih
theorem KV.any {kvs : List (κ × V)} {vs : List (κ × Value)} (r : KV kvs vs) (k : κ) : (kvs.any fun kv => decide (kv.1 = k)) = vs.any fun kv => decide (kv.1 = k) := by
  unfold KV at r
  induction r with
  | nil => rfl
  | cons h t ih => rw [List.any_cons, List.any_cons, ih, h.1]
theorem KV.repl {kvs : List (κ × V)} {vs : List (κ × Value)} (r : KV kvs vs) (k : κ) {y : V} {u : Value} (ry : RelV y u) :
    KV (kvs.map fun kv => if kv.1 = k then (kv.1, y) else kv) (vs.map fun kv => if kv.1 = k then (kv.1, u) else kv) := by
  unfold KV at r ⊢
  induction r with
  | nil => exact .nil
  | @cons p q ps qs h t ih =>
    rw [List.map_cons, List.map_cons]
    refine .cons ?_ ih
    obtain ⟨h1, h2⟩ := h
    by_cases e : p.1 = k
    · rw [if_pos e, if_pos (h1.symm.trans e)]; exact ⟨h1, ry⟩
    · rw [if_neg e, if_neg (fun z => e (h1.trans z))]; exact ⟨h1, h2⟩
theorem KV.put {kvs : List (κ × V)} {vs : List (κ × Value)} (r : KV kvs vs) (k : κ) {y : V} {u : Value} (ry : RelV y u) : KV (putK kvs k y) (stored vs k u) := by
  unfold putK stored
  rw [r.any k]
  by_cases e : (vs.any fun kv => decide (kv.1 = k)) = true
  · rw [if_pos e, if_pos e]; exact r.repl k ry
  · rw [if_neg e, if_neg e]; exact Paired.snoc r ⟨rfl, ry⟩
theorem KV.drop {kvs : List (κ × V)} {vs : List (κ × Value)} (r : KV kvs vs) (k : κ) : KV (dropK kvs k) (without vs k) := by
  unfold KV at r ⊢
  unfold dropK without
  induction r with
  | nil => exact .nil
  | @cons p q ps qs h t ih =>
    obtain ⟨h1, h2⟩ := h
    rw [List.filter_cons, List.filter_cons]
    by_cases e : p.1 = k
    · have a : ¬ decide (p.1 ≠ k) = true := by simp [e]
      have b : ¬ decide (q.1 ≠ k) = true := by simp [h1.symm.trans e]
      rw [if_neg a, if_neg b]; exact ih
    · have e' : ¬ q.1 = k := fun z => e (h1.trans z)
      have a : decide (p.1 ≠ k) = true := by simp [e]
      have b : decide (q.1 ≠ k) = true := by simp [e']
      rw [if_pos a, if_pos b]; exact .cons ⟨h1, h2⟩ ih
theorem KV.keys {kvs : List (κ × V)} {vs : List (κ × Value)} (r : KV kvs vs) : kvs.map (·.1) = vs.map (·.1) := by
  unfold KV at r
  induction r with
  | nil => rfl
  | cons h t ih => rw [List.map_cons, List.map_cons, ih, h.1]
theorem KV.length {kvs : List (κ × V)} {vs : List (κ × Value)} (r : KV kvs vs) : kvs.length = vs.length := Paired.length r
theorem dropK_le (kvs : List (κ × V)) (k : κ) : (dropK kvs k).length ≤ kvs.length := List.length_filter_le _ _
end


theorem kV_is {P : Program} {w : World} {k : Key} {u : Value} (r : RelV (kV k) u) : (mixKind P w).is k u = true := by
  cases k with
  | inl i => obtain ⟨t, e⟩ := (show ∃ t, u = Value.int i t from r); subst e; exact mixKind_int P w i t
  | inr x => obtain ⟨t, e⟩ := (show ∃ t, u = Value.str x t from r); subst e; exact mixKind_str P w x t
theorem items_are {P : Program} {w : World} : ∀ {ks : List Key} {us : List Value}, Vals (ks.map kV) us → ItemsAre (mixKind P w) ks us
  | [], _, r => by rw [List.map_nil] at r; cases r; exact .nil
  | k :: ks, _, r => by
    rw [List.map_cons] at r
    cases r with
    | cons h t => exact .cons (kV_is h) (items_are t)

noncomputable abbrev KT (H : Hp) : List (List Key × V) → List (List Key × Addr × Value) → Prop := Paired fun p q => p.1 = q.1 ∧ H q.2.1 = some (.tup (p.1.map kV)) ∧ RelV p.2 q.2.2
theorem KT.val {H : Hp} {kvs : List (List Key × V)} {xs : List (List Key × Addr × Value)} (r : KT H kvs xs) (k : List Key) : RelO (valV kvs k) ((atKey xs k).map (·.2)) := by
  induction r with
  | nil => exact True.intro
  | @cons p q ps qs h t ih =>
    obtain ⟨h1, _, h2⟩ := h
    by_cases e : p.1 = k
    · have e' : q.1 = k := h1.symm.trans e
      have b : atKey (q :: qs) k = some q.2 := by simp [atKey, List.find?_cons, e']
      rw [valV_pos e, b]; exact h2
    · have e' : ¬ q.1 = k := fun z => e (h1.trans z)
      have b : atKey (q :: qs) k = atKey qs k := by simp [atKey, List.find?_cons, e']
      rw [valV_neg e, b]; exact ih
theorem KT.repl {H : Hp} {kvs : List (List Key × V)} {xs : List (List Key × Addr × Value)} (r : KT H kvs xs) (k : List Key) {y : V} {u : Value} (ry : RelV y u) :
    KT H (kvs.map fun kv => if kv.1 = k then (kv.1, y) else kv) (xs.map (putAt k u)) := by
  induction r with
  | nil => exact .nil
  | @cons p q ps qs h t ih =>
    rw [List.map_cons, List.map_cons]
    refine .cons ?_ ih
    obtain ⟨h1, h2, h3⟩ := h
    unfold putAt
    by_cases e : p.1 = k
    · rw [if_pos e, if_pos (h1.symm.trans e)]; exact ⟨h1, h2, ry⟩
    · rw [if_neg e, if_neg (fun z => e (h1.trans z))]; exact ⟨h1, h2, h3⟩
theorem KT.put {H : Hp} {kvs : List (List Key × V)} {xs : List (List Key × Addr × Value)} (r : KT H kvs xs) (k : List Key) {b : Addr} {y : V} {u : Value} (hb : H b = some (.tup (k.map kV))) (ry : RelV y u) :
    KT H (putK kvs k y) (storedH xs k b u) := by
  have e : (kvs.any fun kv => decide (kv.1 = k)) = (atKey xs k).isSome := by
    rw [valV_any, (r.val k).isSome_eq, Option.isSome_map]
  unfold putK storedH
  rw [e]
  by_cases q : (atKey xs k).isSome = true
  · rw [if_pos q, if_pos q]; exact r.repl k ry
  · rw [if_neg q, if_neg q]; exact Paired.snoc r ⟨rfl, hb, ry⟩
theorem KT.keeps {H H' : Hp} {kvs : List (List Key × V)} {xs : List (List Key × Addr × Value)} (r : KT H kvs xs) (ht : ∀ b ys, H b = some (.tup ys) → H' b = some (.tup ys)) : KT H' kvs xs :=
  Paired.mapP r fun _ _ z => ⟨z.1, ht _ _ z.2.1, z.2.2⟩

section
variable {P : Program} {w : World} {H : Hp} {h : Heap} {a : Addr}
theorem rd_of {u : HO} (ok : HOk P w H h) (e : Rd H a u) : ObjOk P w H h a u := e.ok ok
theorem dk_rd {kvs : List (Key × V)} (ok : HOk P w H h) (e : Rd H a (.dK kvs)) : kvs.length ≤ sizeLine ∧ (a == sysModules) = false ∧ ∃ vs, KV kvs vs ∧ h.DictOf (mixKind P w) a vs :=
  show ObjOk P w H h a (.dK kvs) from rd_of ok e
theorem dk_of {kvs : List (Key × V)} (ok : HOk P w H h) (e : H a = some (.dK kvs)) : kvs.length ≤ sizeLine ∧ (a == sysModules) = false ∧ ∃ vs, KV kvs vs ∧ h.DictOf (mixKind P w) a vs := dk_rd ok (.inl e)
theorem key_of {ks : List Key} (ok : HOk P w H h) (e : H a = some (.tup (ks.map kV))) : (tupleKind (mixKind P w)).is h ks a := by
  obtain ⟨_, its, r, o, h1, h2, n, h3⟩ := (show ObjOk P w H h a (.tup (ks.map kV)) from ok a _ e)
  exact ⟨o, its.toArray, n, h1, h2, h3, by simpa using items_are r⟩
theorem dt_rd {kvs : List (List Key × V)} (ok : HOk P w H h) (e : Rd H a (.dT kvs)) : kvs.length ≤ sizeLine ∧ (a == sysModules) = false ∧
    ∃ xs, KT H kvs xs ∧ h.DictOfH (tupleKind (mixKind P w)) a xs := by
  obtain ⟨z, y, xs, r, o, es, ep, h1, h2, h3, h4, h5⟩ := (show ObjOk P w H h a (.dT kvs) from rd_of ok e)
  refine ⟨z, y, xs, r, o, es, ep, h1, h2, h3, h4, fun x hx => ?_, h5⟩
  have all : ∀ {l : List (List Key × V)} {m : List (List Key × Addr × Value)}, KT H l m → ∀ x ∈ m, (tupleKind (mixKind P w)).is h x.1 x.2.1 := by
    intro l m q
    induction q with
    | nil => intro x hx; exact nomatch hx
    | @cons p q ps qs hq t ih =>
      intro x hx
      rcases List.mem_cons.mp hx with e | hx
      · subst e
        exact key_of ok (by rw [← hq.1]; exact hq.2.1)
      · exact ih x hx
  exact all r x hx
theorem dt_of {kvs : List (List Key × V)} (ok : HOk P w H h) (e : H a = some (.dT kvs)) : kvs.length ≤ sizeLine ∧ (a == sysModules) = false ∧
    ∃ xs, KT H kvs xs ∧ h.DictOfH (tupleKind (mixKind P w)) a xs := dt_rd ok (.inl e)
end

noncomputable def DGet (H : Hp) (a : Addr) (y : V) (r : Option V) : Prop :=
  (∃ kvs k, Rd H a (.dK kvs) ∧ y = kV k ∧ r = valV kvs k) ∨ ∃ kvs k b, Rd H a (.dT kvs) ∧ y = .ref b ∧ H b = some (.tup (k.map kV)) ∧ r = valV kvs k
noncomputable def DPut (H : Hp) (a : Addr) (y v : V) (H' : Hp) : Prop :=
  (∃ kvs k, H a = some (.dK kvs) ∧ y = kV k ∧ kvs.length < sizeLine ∧ H' = upd H a (.dK (putK kvs k v))) ∨
  ∃ kvs k b, H a = some (.dT kvs) ∧ y = .ref b ∧ H b = some (.tup (k.map kV)) ∧ kvs.length < sizeLine ∧ H' = upd H a (.dT (putK kvs k v))
theorem DGet.k {H : Hp} {a : Addr} {kvs : List (Key × V)} {k : Key} (e : H a = some (.dK kvs)) : DGet H a (kV k) (valV kvs k) := .inl ⟨kvs, k, .inl e, rfl, rfl⟩
theorem DGet.t {H : Hp} {a b : Addr} {kvs : List (List Key × V)} {k : List Key} (e : H a = some (.dT kvs)) (eb : H b = some (.tup (k.map kV))) : DGet H a (.ref b) (valV kvs k) := .inr ⟨kvs, k, b, .inl e, rfl, eb, rfl⟩
theorem DPut.k {H : Hp} {a : Addr} {kvs : List (Key × V)} {k : Key} {v : V} (e : H a = some (.dK kvs)) (hl : kvs.length < sizeLine) : DPut H a (kV k) v (upd H a (.dK (putK kvs k v))) := .inl ⟨kvs, k, e, rfl, hl, rfl⟩
theorem DPut.t {H : Hp} {a b : Addr} {kvs : List (List Key × V)} {k : List Key} {v : V} (e : H a = some (.dT kvs)) (eb : H b = some (.tup (k.map kV))) (hl : kvs.length < sizeLine) :
    DPut H a (.ref b) v (upd H a (.dT (putK kvs k v))) := .inr ⟨kvs, k, b, e, rfl, eb, hl, rfl⟩


section
variable {X : Cx} {pins : List (Addr × Obj)} {σ : St} {H : Hp} {s : Shared} {a : Addr} {y v : V} {u r : Value} {o : Option V} {A : Around} {E : Value → Shared → Prop}

theorem Inv.big (I : Inv X pins σ H s) : sysModules < s.heap.objs.size := by
  have h : mainGlobals < s.heap.objs.size := (I.mod.glob.keeps I.bk).lt
  exact Nat.lt_trans (by decide) h

theorem d_getItem {Q : Value → Shared → Prop} (hu : A.units + 1 < cLine) (I : Inv X pins σ H s) (g : DGet H a y (some v)) (ry : RelV y u) (h : ∀ w' s', Inv X pins σ H s' → RelV v w' → Q w' s') :
    wpAny (model X.prog X.w) A (getItem (.ref a) u) Q E s := by
  rcases g with ⟨kvs, k, e, ey, l⟩ | ⟨kvs, k, b, e, ey, eb, l⟩
  · subst ey
    obtain ⟨z, hd, vs, rel, dd⟩ := dk_rd I.hok e
    obtain ⟨w', hw, rw'⟩ := RelO.some_of (v := v) (o := valueAt vs k) (by rw [l]; exact rel.val k)
    exact wpAny_getItem_of (kV_is ry) dd.mapOf hw (h w' _ (I.tok _) rw')
  · subst ey
    cases (show u = Value.ref b from ry)
    obtain ⟨z, hd, xs, rel, dd⟩ := dt_rd I.hok e
    obtain ⟨w', hw, rw'⟩ := RelO.some_of (v := v) (o := (atKey xs k).map (·.2)) (by rw [l]; exact rel.val k)
    obtain ⟨p, hp, hp2⟩ := Option.map_eq_some_iff.mp hw
    refine wpAny_getItem_heap (tupleKind_room_in1 hu) (key_of I.hok eb) dd hp ?_
    rw [hp2]
    exact h w' _ (I.tok _) rw'
theorem d_notIn {Q : Value → Shared → Prop} (hu : A.units + 1 < cLine) (I : Inv X pins σ H s) (g : DGet H a y o) (ry : RelV y u) (h : ∀ s', Inv X pins σ H s' → Q (.bool (!o.isSome)) s') :
    wpAny (model X.prog X.w) A (compareOp .NotIn u (.ref a)) Q E s := by
  rcases g with ⟨kvs, k, e, ey, l⟩ | ⟨kvs, k, b, e, ey, eb, l⟩
  · subst ey
    obtain ⟨z, hd, vs, rel, dd⟩ := dk_rd I.hok e
    refine wpAny_notIn_of (kV_is ry) hd dd.mapOf ?_
    rw [← (rel.val k).isSome_eq, ← l]
    exact h _ (I.tok _)
  · subst ey
    cases (show u = Value.ref b from ry)
    obtain ⟨z, hd, xs, rel, dd⟩ := dt_rd I.hok e
    refine wpAny_notIn_heap (tupleKind_room_in1 hu) (key_of I.hok eb) hd dd ?_
    have q := (rel.val k).isSome_eq
    rw [Option.isSome_map] at q
    rw [← q, ← l]
    exact h _ (I.tok _)
theorem d_write {h' : Heap} {t' : Nat} {ob : HO} (I : Inv X pins σ H s) (mu : Mut (H a)) (hs : Heap.SameBut a s.heap h') (he : ∃ q, h'.get? a = some q) (new : ObjOk X.prog X.w (upd H a ob) h' a ob) :
    Inv X pins σ (upd H a ob) { s with heap := h', toks := t' } :=
  I.write (x := a) (e := a) mu (.inl rfl) (fun b q hb z => (hs.2 b hb).trans z) he new
theorem dk_new {P : Program} {w : World} {H' : Hp} {h' : Heap} {kvs : List (Key × V)} {vs : List (Key × Value)} (z : kvs.length ≤ sizeLine) (hd : (a == sysModules) = false) (rel : KV kvs vs) (dd : h'.DictOf (mixKind P w) a vs) :
    ObjOk P w H' h' a (.dK kvs) := ⟨z, hd, vs, rel, dd⟩
theorem d_setItem {H' : Hp} {Q : Unit → Shared → Prop} (hu : A.units + 1 < cLine) (I : Inv X pins σ H s) (g : DPut H a y v H') (ry : RelV y u) (rv : RelV v r) (h : ∀ s', Inv X pins σ H' s' → Q () s') :
    wpAny (model X.prog X.w) A (setItem (.ref a) u r) Q E s := by
  rcases g with ⟨kvs, k, e, ey, l, eH⟩ | ⟨kvs, k, b, e, ey, eb, l, eH⟩
  · subst ey eH
    obtain ⟨z, hd, vs, rel, dd⟩ := dk_of I.hok e
    have hz : vs.length ≤ sizeLine := by rw [← rel.length]; exact z
    have hl : (putK kvs k v).length ≤ sizeLine := by have := length_putK kvs k v; omega
    refine wpAny_setItem_pairs (hsz := hz) (kV_is ry) dd fun h' dd' hs => h _ ?_
    have he : ∃ q, h'.get? a = some q := let ⟨q, _, _, hq, _⟩ := dd'; ⟨q, hq⟩
    exact d_write I (by rw [e]; exact True.intro) hs he (dk_new hl hd (rel.put k rv) dd')
  · subst ey eH
    cases (show u = Value.ref b from ry)
    obtain ⟨z, hd, xs, rel, dd⟩ := dt_of I.hok e
    have hz : xs.length ≤ sizeLine := by rw [← Paired.length rel]; exact z
    have hl : (putK kvs k v).length ≤ sizeLine := by have := length_putK kvs k v; omega
    refine wpAny_setItem_heap (hsz := hz) (tupleKind_room_in1 hu) (key_of I.hok eb) dd fun h' dd' hs => h _ ?_
    obtain ⟨q, es, ep, hq, h2, h3, h4, _, h5⟩ := dd'
    refine d_write I (by rw [e]; exact True.intro) hs ⟨q, hq⟩ ⟨hl, hd, _, (rel.put k eb rv).keeps fun c ys ec => ?_, q, es, ep, hq, h2, h3, h4, h5⟩
    rw [upd_ne (ne_of ec e (fun z => nomatch z))]
    exact ec
end

section
variable {X : Cx} {pins : List (Addr × Obj)} {σ : St} {H : Hp} {s : Shared} {a : Addr} {kvs : List (Key × V)} {k : Key} {u : Value} {A : Around} {E : Value → Shared → Prop}
theorem d_pop {v : V} {more : List Value} {Q : Value → Shared → Prop} (I : Inv X pins σ H s) (e : H a = some (.dK kvs)) (ry : RelV (kV k) u) (l : valV kvs k = some v) (hm : more = [] ∨ ∃ x, more = [x])
    (h : ∀ w' s', Inv X pins σ (upd H a (.dK (dropK kvs k))) s' → RelV v w' → Q w' s') : wpAny (model X.prog X.w) A (call (.builtin "dict.pop") (.ref a :: u :: more)) Q E s := by
  obtain ⟨z, hd, vs, rel, dd⟩ := dk_of I.hok e
  obtain ⟨w', hw, rw'⟩ := RelO.some_of (v := v) (o := valueAt vs k) (by rw [← l]; exact rel.val k)
  have hp : (keyPart u).isSome = true := by
    cases k with
    | inl i => obtain ⟨t, q⟩ := (show ∃ t, u = Value.int i t from ry); subst q; rfl
    | inr x => obtain ⟨t, q⟩ := (show ∃ t, u = Value.str x t from ry); subst q; rfl
  have ha : argsOk "dict.pop" ⟨.ref a :: u :: more, []⟩ := by
    rcases hm with q | ⟨x, q⟩
    · subst q; exact PySem.F.args_dict_pop_2 _ _
    · subst q; exact PySem.F.args_dict_pop_3 _ _ _
  refine call_meetsIn PySem.F.slot_dict_pop dd.typeIs PySem.F.entry_dict_pop ha (meets_dict_pop_there (mixKind X.prog X.w) a (kV_is ry) more hm hp)
    ⟨vs, w', dd, by rw [← rel.length]; exact z, hw, fun h' dd' hs => h w' _ ?_ rw'⟩
  have he : ∃ q, h'.get? a = some q := let ⟨q, _, _, hq, _⟩ := dd'; ⟨q, hq⟩
  exact d_write I (by rw [e]; exact True.intro) hs he (dk_new (Nat.le_trans (dropK_le kvs k) z) hd (rel.drop k) dd')
theorem d_popD {r : Value} {Q : Value → Shared → Prop} (I : Inv X pins σ H s) (e : H a = some (.dK kvs)) (ry : RelV (kV k) u) (l : valV kvs k = none) (h : ∀ s', Inv X pins σ H s' → Q r s') :
    wpAny (model X.prog X.w) A (call (.builtin "dict.pop") [.ref a, u, r]) Q E s := by
  obtain ⟨z, hd, vs, rel, dd⟩ := dk_of I.hok e
  have hn : valueAt vs k = none := RelO.none_of (by rw [← l]; exact rel.val k)
  have hp : (keyPart u).isSome = true := by
    cases k with
    | inl i => obtain ⟨t, q⟩ := (show ∃ t, u = Value.int i t from ry); subst q; rfl
    | inr x => obtain ⟨t, q⟩ := (show ∃ t, u = Value.str x t from ry); subst q; rfl
  exact call_meetsIn PySem.F.slot_dict_pop dd.typeIs PySem.F.entry_dict_pop (PySem.F.args_dict_pop_3 _ _ _) (meets_dict_pop_default (mixKind X.prog X.w) a (kV_is ry) hd hp r) ⟨vs, dd, hn, h _ (I.tok _)⟩
theorem d_len {Q : Value → Shared → Prop} (I : Inv X pins σ H s) (e : Rd H a (.dK kvs)) (h : ∀ t s', Inv X pins σ H s' → Q (.int kvs.length t) s') : wpAny (model X.prog X.w) A (call (.builtin "len") [.ref a]) Q E s := by
  obtain ⟨z, hd, vs, rel, dd⟩ := dk_rd I.hok e
  refine call_len_dict hd dd (by rw [← rel.length]; rw [sizeLine_eq] at z; omega) ?_
  rw [← rel.length]
  exact h _ _ (I.tok _)
end


noncomputable def NoSl (i : Expr) : Prop := ∀ ov iv, subscripted i false ov iv = operate [ov, iv] (getItem ov iv)
theorem subD_of {prog : Program} {w : World} {A : Around} {E : Value → Shared → Prop} {s : Shared} {env : Env} {value slice : Expr} {pos : Pos} {T id : String} {Q : Value → Shared → Prop}
    (hl : typeLookup (.type T) "__getitem__" = pure (some (.builtin id))) (hs : NoSl slice)
    (h : wpAny (model prog w) A (eval value env) (fun o s₁ => wpAny (model prog w) A (eval slice env) (fun i s₂ => s₂.TypeIs o T ∧ wpAny (model prog w) A (getItem o i) Q E s₂) E s₁) E s) :
    wpAny (model prog w) A (eval (.Subscript value slice pos) env) Q E s := by
  refine Subscript_ (wpAny_mono h (fun o s₁ h₁ => wpAny_mono h₁ (fun i s₂ h₂ => ?_) fun _ _ x => x) fun _ _ x => x)
  obtain ⟨hT, h₂⟩ := h₂
  unfold subscriptTail
  refine wpAny_bind ?_
  rw [getitemInPython_of_ne hT.not_modules]
  refine wpAny_bind (wpAny_specialOf hT hl ?_)
  have fin : wpAny (model prog w) A (subscripted slice false o i) (fun r s₃ => wpAny (model prog w) A (letTemporaryGo value o r >>= fun _ => pure r) Q E s₃) E s₂ := by
    rw [hs o i]
    exact wpAny_operating (wpAny_mono h₂ (fun r s₃ h₃ => wpAny_bind (wpAny_letTemporaryGo (wpAny_pure h₃))) fun _ _ x => x)
  first
    | exact wpAny_pure (wpAny_bind fin)
    | exact wpAny_bind (wpAny_pure (wpAny_bind fin))
    | exact wpAny_bind fin

theorem dict_typeIs {X : Cx} {pins : List (Addr × Obj)} {σ : St} {H : Hp} {s : Shared} {a : Addr} {y : V} {o : Option V} (I : Inv X pins σ H s) (g : DGet H a y o) : s.TypeIs (.ref a) "dict" := by
  rcases g with ⟨kvs, k, e, _, _⟩ | ⟨kvs, k, b, e, _, _, _⟩
  · obtain ⟨_, _, vs, _, dd⟩ := dk_rd I.hok e
    exact dd.typeIs
  · obtain ⟨_, _, xs, _, dd⟩ := dt_rd I.hok e
    exact dd.typeIs
noncomputable def tDGet (td ty : TE) : TE := fun σ H Q => td σ H fun x H1 => ty σ H1 fun y H2 => ∃ a v, x = .ref a ∧ DGet H2 a y (some v) ∧ Q v H2
noncomputable def sDPut (td ty tv : TE) : TS := fun D σ H => tv σ H fun v H1 => td σ H1 fun x H2 => ty σ H2 fun y H3 => ∃ a H4, x = .ref a ∧ DPut H3 a y v H4 ∧ D.nx σ H4
section
variable {X : Cx} {o i e value : Expr} {pos pos' tpos : Pos} {td ty tv : TE}
theorem pe_dget (hu : X.A.units + 1 < cLine) (ho : PE X o td) (hi : PE X i ty) (hs : NoSl i) : PE X (.Subscript o i pos) (tDGet td ty) := by
  intro pins s σ H Q I h
  refine subD_of PySem.F.slot_dict_getitem.lookup hs (thn (ho pins s σ H _ I h) fun u s1 ⟨x, H1, I1, rx, q1⟩ => thn (hi pins s1 σ H1 _ I1 q1) fun iv s2 ⟨y, H2, I2, ry, a, v, ex, g, q2⟩ => ?_)
  subst ex
  obtain rfl : u = Value.ref a := rx
  exact ⟨dict_typeIs I2 g, d_getItem hu I2 g ry fun w' s3 I3 rw' => ⟨v, H2, I3, rw', q2⟩⟩
theorem ps_dput (hu : X.A.units + 1 < cLine) (ho : PE X o td) (hi : PE X i ty) (hv : PE X value tv) (hs : swapsWith value (some (.Subscript o i pos')) pos.line X.env = pure false) :
    PS X (.Assign [.Subscript o i pos'] value pos) (sDPut td ty tv) := by
  intro pins s σ H D I h
  refine wpAny_Assign_Subscript (thn (hv pins s σ H _ I h) fun r s1 ⟨v, H1, I1, rv, q1⟩ => thn (ho pins s1 σ H1 _ I1 q1) fun u s2 ⟨x, H2, I2, rx, q2⟩ => thn (hi pins s2 σ H2 _ I2 q2) fun iv s3 ⟨y, H3, I3, ry, a, H4, ex, g, q3⟩ => ?_) hs
  subst ex
  obtain rfl : u = Value.ref a := rx
  exact d_setItem hu I3 g ry rv fun s4 I4 => ⟨σ, H4, I4, q3⟩
end


theorem dk_empty {P : Program} {w : World} {H : Hp} (h : Heap) (hb : sysModules < h.objs.size) : ObjOk P w H (h.push { cls := .type "dict", data := .dict #[] }) h.objs.size (.dK []) :=
  ⟨Nat.zero_le _, beq_eq_false_iff_ne.mpr (Ne.symm (Nat.ne_of_lt hb)), [], .nil, Heap.DictOf.new h⟩
noncomputable def tDNewK : TE := fun _ H Q => ∀ p, H p = none → Q (.ref p) (upd H p (.dK []))
section
variable {X : Cx} {pos : Pos}
theorem pe_dnewK : PE X (.Dict [] [] pos) tDNewK := fun pins s σ H Q I h =>
  wpAny_Dict_empty ⟨.ref s.heap.objs.size, _, I.laid (a := s.heap.objs.size) (o := .dK []) (t' := s.toks) (fun _ _ q => Heap.get?_push_of_some _ q) (Nat.le_refl _) (dk_empty s.heap I.big), rfl, h _ (I.hok.fresh (Nat.le_refl _))⟩
end

structure M1 (X : Cx) (o : Expr) (m : Str) (apos : Pos) (e : Expr) (cpos : Pos) : Prop where
  base : attributeBase o m X.env (eval o X.env) = eval o X.env
  few : ((backTo cpos (starEach [e] X.env)).all (fun x => !x.1) && (backToKw cpos (keywordEach [] X.env)).all (fun x => x.1.isSome)
    && decide (([e] : List Expr).length + ([] : List Keyword).length + (if ([] : List Keyword).isEmpty then 0 else 1) < 30)) = true
  line : (apos.endLine == cpos.line) = true
  trees : backTo cpos (starEach [e] X.env) = [(false, eval e X.env)]
structure M2 (X : Cx) (o : Expr) (m : Str) (apos : Pos) (e f : Expr) (cpos : Pos) : Prop where
  base : attributeBase o m X.env (eval o X.env) = eval o X.env
  few : ((backTo cpos (starEach [e, f] X.env)).all (fun x => !x.1) && (backToKw cpos (keywordEach [] X.env)).all (fun x => x.1.isSome)
    && decide (([e, f] : List Expr).length + ([] : List Keyword).length + (if ([] : List Keyword).isEmpty then 0 else 1) < 30)) = true
  line : (apos.endLine == cpos.line) = true
  trees : backTo cpos (starEach [e, f] X.env) = [(false, eval e X.env), (false, eval f X.env)]

noncomputable def IsD (H : Hp) (a : Addr) : Prop := (∃ kvs, Rd H a (.dK kvs)) ∨ ∃ kvs, Rd H a (.dT kvs)
theorem isD_at {X : Cx} {pins : List (Addr × Obj)} {σ : St} {H : Hp} {s : Shared} {a : Addr} (I : Inv X pins σ H s) (d : IsD H a) :
    s.TypeIs (.ref a) "dict" ∧ (∀ b, Value.ref a = .ref b → ∃ ob, s.heap.get? b = some ob ∧ ob.dict = none) ∧ (a == sysModules) = false := by
  rcases d with ⟨kvs, e⟩ | ⟨kvs, e⟩
  · obtain ⟨_, hd, vs, _, dd⟩ := dk_rd I.hok e
    refine ⟨dd.typeIs, fun b q => ?_, hd⟩
    cases q
    obtain ⟨ob, _, _, h1, h2, _⟩ := dd
    exact ⟨ob, h1, h2.2.1⟩
  · obtain ⟨_, hd, xs, _, dd⟩ := dt_rd I.hok e
    refine ⟨dd.typeIs, fun b q => ?_, hd⟩
    cases q
    obtain ⟨ob, _, _, h1, h2, _⟩ := dd
    exact ⟨ob, h1, h2.2.1⟩

section
variable {X : Cx} {pins : List (Addr × Obj)} {σ : St} {H : Hp} {s : Shared} {a : Addr} {y d : V} {u r : Value} {o : Option V} {A : Around} {E : Value → Shared → Prop}
theorem d_get2 {Q : Value → Shared → Prop} (hu : A.units + 1 < cLine) (I : Inv X pins σ H s) (g : DGet H a y o) (ry : RelV y u) (rd : RelV d r) (h : ∀ w' s', Inv X pins σ H s' → RelV (o.getD d) w' → Q w' s') :
    wpAny (model X.prog X.w) A (call (.builtin "dict.get") [.ref a, u, r]) Q E s := by
  rcases g with ⟨kvs, k, e, ey, l⟩ | ⟨kvs, k, b, e, ey, eb, l⟩
  · subst ey
    obtain ⟨z, hd, vs, rel, dd⟩ := dk_rd I.hok e
    refine call_meetsIn PySem.F.slot_dict_get dd.typeIs PySem.F.entry_dict_get (PySem.F.args_dict_get_3 _ _ _) (meets_dict_get_default (mixKind X.prog X.w) a (kV_is ry) hd r) ⟨_, dd.mapOf, h _ _ (I.tok _) ?_⟩
    rw [l]
    exact (rel.val k).getD rd
  · subst ey
    cases (show u = Value.ref b from ry)
    obtain ⟨z, hd, xs, rel, dd⟩ := dt_rd I.hok e
    refine call_meetsIn PySem.F.slot_dict_get dd.typeIs PySem.F.entry_dict_get (PySem.F.args_dict_get_3 _ _ _) (meetsH_dict_get_default (tupleKind (mixKind X.prog X.w)) a b hd r) ⟨tupleKind_room_in1 hu, k, xs, key_of I.hok eb, dd, h _ _ (I.tok _) ?_⟩
    rw [l]
    exact (rel.val k).getD rd
end

noncomputable def tDGet2 (td ty tx : TE) : TE := fun σ H Q => td σ H fun x H1 => ∃ a, x = .ref a ∧ IsD H1 a ∧ ty σ H1 fun y H2 => tx σ H2 fun z H3 => ∃ o, DGet H3 a y o ∧ Q (o.getD z) H3
noncomputable def tDPop2 (td ty tx : TE) : TE := fun σ H Q => td σ H fun x H1 => ∃ a, x = .ref a ∧ IsD H1 a ∧ ty σ H1 fun y H2 => tx σ H2 fun z H3 => ∃ kvs k, H3 a = some (.dK kvs) ∧ y = kV k ∧
  (∀ v, valV kvs k = some v → Q v (upd H3 a (.dK (dropK kvs k)))) ∧ (valV kvs k = none → Q z H3)
section
variable {X : Cx} {o e f : Expr} {apos cpos : Pos} {td ty tx : TE}
theorem pe_dget2 (hu : X.A.units + 1 < cLine) (ho : PE X o td) (he : PE X e ty) (hf : PE X f tx) (m : M2 X o "get" apos e f cpos) : PE X (.Call (.Attribute o "get" apos) [e, f] [] cpos) (tDGet2 td ty tx) := by
  intro pins s σ H Q I h
  refine wpAny_Call_method m.base m.few m.line PySem.F.plainAttrs_dict PySem.F.slot_dict_get PySem.F.type_dict_get (thn (ho pins s σ H _ I h) fun u s1 ⟨x, H1, I1, rx, a, ex, d, q1⟩ => ?_)
  subst ex
  obtain rfl : u = Value.ref a := rx
  obtain ⟨t1, t2, _⟩ := isD_at I1 d
  refine ⟨t1, t2, ?_⟩
  rw [m.trees]
  refine Calls.callWith_builtin rfl (Calls.evalArgs_plain (Calls.spliced_cons (thn (he pins s1 σ H1 _ I1 q1) fun iv s2 ⟨y, H2, I2, ry, q2⟩ =>
    Calls.spliced_cons (thn (hf pins s2 σ H2 _ I2 q2) fun fv s3 ⟨z, H3, I3, rz, ov, g, q3⟩ => Calls.spliced_nil ?_))))
  exact d_get2 hu I3 g ry rz fun w' s4 I4 rw' => ⟨_, H3, I4, rw', q3⟩
theorem pe_dpop2 (ho : PE X o td) (he : PE X e ty) (hf : PE X f tx) (m : M2 X o "pop" apos e f cpos) : PE X (.Call (.Attribute o "pop" apos) [e, f] [] cpos) (tDPop2 td ty tx) := by
  intro pins s σ H Q I h
  refine wpAny_Call_method m.base m.few m.line PySem.F.plainAttrs_dict PySem.F.slot_dict_pop PySem.F.type_dict_pop (thn (ho pins s σ H _ I h) fun u s1 ⟨x, H1, I1, rx, a, ex, d, q1⟩ => ?_)
  subst ex
  obtain rfl : u = Value.ref a := rx
  obtain ⟨t1, t2, _⟩ := isD_at I1 d
  refine ⟨t1, t2, ?_⟩
  rw [m.trees]
  refine Calls.callWith_builtin rfl (Calls.evalArgs_plain (Calls.spliced_cons (thn (he pins s1 σ H1 _ I1 q1) fun iv s2 ⟨y, H2, I2, ry, q2⟩ =>
    Calls.spliced_cons (thn (hf pins s2 σ H2 _ I2 q2) fun fv s3 ⟨z, H3, I3, rz, kvs, k, ea, ey, q3, q4⟩ => Calls.spliced_nil ?_))))
  subst ey
  cases l : valV kvs k with
  | some v => exact d_pop I3 ea ry l (.inr ⟨fv, rfl⟩) fun w' s4 I4 rw' => ⟨v, _, I4, rw', q3 v l⟩
  | none => exact d_popD I3 ea ry l fun s4 I4 => ⟨z, H3, I4, rz, q4 l⟩
end

section
variable {X : Cx} {pins : List (Addr × Obj)} {σ : St} {H : Hp} {s : Shared} {a : Addr} {kvs : List (Key × V)} {A : Around} {E : Value → Shared → Prop}
end


section
variable {X : Cx} {pins : List (Addr × Obj)} {σ : St} {H : Hp} {s : Shared} {a : Addr} {y : V} {u : Value} {A : Around} {E : Value → Shared → Prop}
end
end L2


namespace L2
open PySem PySem.Spec PyProof.Rows
section
variable {X : Cx}
end
section
variable {κ : Type} [DecidableEq κ]
theorem valV_not {kvs : List (κ × V)} {k : κ} (h : valV kvs k = none) : ¬ k ∈ kvs.map (·.1) := by
  intro m
  obtain ⟨p, hp, e⟩ := List.mem_map.mp m
  have q : (kvs.any fun kv => decide (kv.1 = k)) = true := List.any_eq_true.mpr ⟨p, hp, decide_eq_true e⟩
  rw [valV_any, h] at q
  exact absurd q (by simp)
theorem dropK_pos {p : κ × V} {r : List (κ × V)} {k : κ} (e : p.1 = k) : dropK (p :: r) k = dropK r k := by
  unfold dropK
  rw [List.filter_cons, if_neg (by simp [e])]
theorem dropK_neg {p : κ × V} {r : List (κ × V)} {k : κ} (e : ¬ p.1 = k) : dropK (p :: r) k = p :: dropK r k := by
  unfold dropK
  rw [List.filter_cons, if_pos (by simp [e])]
theorem dropK_no : ∀ {kvs : List (κ × V)} {k : κ}, ¬ k ∈ kvs.map (·.1) → dropK kvs k = kvs
  | [], _, _ => rfl
  | p :: r, k, h => by
    have h' : ¬ k ∈ r.map (·.1) := fun m => by
      obtain ⟨q, hq, e⟩ := List.mem_map.mp m
      exact h (List.mem_map.mpr ⟨q, List.mem_cons.mpr (Or.inr hq), e⟩)
    rw [dropK_neg fun e => h (List.mem_map.mpr ⟨p, List.mem_cons.mpr (Or.inl rfl), e⟩), dropK_no h']
end
end L2

namespace L3
open PySem PySem.Spec PyProof.Rows L2
section
variable {X : Cx}
theorem out_sh {EX : EXT} {K : PySem.W.Frag} {G H : Hp} {Q : VK} {d : D} {v : V} (o : Out K EX G H (.ok (.sh d)) Q) (g : Same G H) (r : Has K G v d) : Q v H := WP.use o g r
noncomputable def rCatS (K : PySem.W.Frag) : R2 := fun x y H Q => ∃ l b xs zs, x = .ref l ∧ y = .ref b ∧ SqL K H l xs ∧ SqL K H b zs ∧ xs.length + zs.length ≤ sizeLine ∧ ∀ p, H p = none → Q (.ref p) (upd H p (.lst (xs ++ zs)))
theorem op_catS : OpR X (binaryOp .Add) (rCatS X.K) := by
  intro pins s σ H x y v u Q I rx ry h
  obtain ⟨l, b, xs, zs, rfl, rfl, hH, hB, hz, q⟩ := h
  cases rx
  cases ry
  obtain ⟨its, r, ⟨o, n, e, c, dd, dat⟩, z⟩ := I.list hH
  obtain ⟨its2, r2, ⟨o2, n2, e2, c2, dd2, dat2⟩, z2⟩ := I.list hB
  have hl := r.length
  have hl2 := r2.length
  obtain ⟨cls, dd', data, sl⟩ := o
  obtain ⟨cls2, dd2', data2, sl2⟩ := o2
  simp only at c dd dat c2 dd2 dat2
  subst c dd dat c2 dd2 dat2
  refine concat_meets ⟨_, e, rfl⟩ ⟨_, e2, rfl⟩ noFill_list_add seq_list_add PySem.F.slot_list_add PySem.F.entry_list_add (PySem.F.args_list_add_2 _ _) (list_addW l b its.toArray its2.toArray n n2 none none sl sl2 (by rw [List.size_toArray, List.size_toArray]; omega)) ⟨e, e2, ?_⟩
  have ea : its.toArray ++ its2.toArray = (its ++ its2).toArray := by simp
  rw [ea]
  exact ⟨.ref _, _, I.lnew (t' := s.toks) (r.append r2) (by rw [List.length_append]; omega), rfl, q _ I.fresh⟩
noncomputable def addD : D → D → R W
  | .int i, .int j => .ok (.sh (.int (i + j)))
  | .str x, .str y => if x.length + y.length ≤ 16777216 then .ok (.sh (.str (x ++ y))) else .no
  | .lst a, .lst b => if a.length + b.length ≤ 16777216 then .ok (.ow (.lst (a ++ b))) else .no
  | _, _ => .no
theorem op_addD : OpD X (binaryOp .Add) addD := by
  intro pins s σ H x y v u Q I rx ry h
  obtain ⟨EX, G, a, b, g, ra, rb, o⟩ := h
  cases ra with
  | int i =>
    cases rb with
    | int j => exact op_add pins s σ H _ _ _ _ Q I rx ry ⟨i, j, rfl, rfl, out_sh o g (.int _)⟩
    | _ => exact False.elim o
  | str x =>
    cases rb with
    | str y =>
      simp only [addD] at o
      split at o
      · rename_i hz
        exact op_add_str pins s σ H _ _ _ _ Q I rx ry ⟨x, y, rfl, rfl, by rw [sizeLine_eq]; exact hz, out_sh o g (.str _)⟩
      · exact o.elim
    | _ => exact False.elim o
  | lst h1 r1 =>
    cases rb with
    | lst h2 r2 =>
      simp only [addD] at o
      split at o
      · rename_i hz
        exact op_catS pins s σ H _ _ _ _ Q I rx ry ⟨_, _, _, _, rfl, rfl, g.seq h1, g.seq h2, by rw [r1.length, r2.length, sizeLine_eq]; exact hz, out_own o g (r1.append r2)⟩
      · exact o.elim
    | _ => exact False.elim o
  | _ => cases rb <;> exact False.elim o

noncomputable def intD (C : Int → Int → Bool) (f : Int → Int → Int) : D → D → R W
  | .int i, .int j => if C i j = true then .ok (.sh (.int (f i j))) else .no
  | _, _ => .no
theorem op_intD {fn : Value → Value → Sem Value} {C : Int → Int → Bool} {P : Int → Int → Prop} {f : Int → Int → Int} (h : OpR X fn (rI P fun i j => .int (f i j))) (hC : ∀ i j, C i j = true → P i j) : OpD X fn (intD C f) := by
  intro pins s σ H x y v u Q I rx ry q
  obtain ⟨EX, G, a, b, g, ra, rb, o⟩ := q
  cases ra with
  | int i =>
    cases rb with
    | int j =>
      simp only [intD] at o
      split at o
      · rename_i hc
        exact h pins s σ H _ _ _ _ Q I rx ry ⟨i, j, rfl, rfl, hC i j hc, out_sh o g (.int _)⟩
      · exact o.elim
    | _ => exact False.elim o
  | _ => cases rb <;> exact False.elim o
noncomputable def subD : D → D → R W := intD (fun _ _ => true) (fun i j => i - j)
noncomputable def mulC (i j : Int) : Bool := decide (i.natAbs < 18446744073709551616 ∨ j.natAbs < 18446744073709551616)
noncomputable def mulI : D → D → R W := intD mulC (fun i j => i * j)
noncomputable def divC (_ j : Int) : Bool := decide (0 < j ∧ j.natAbs < 1361129467683753853853498429727072845824)
noncomputable def divD : D → D → R W := intD divC (fun i j => i / j)
noncomputable def modC (_ j : Int) : Bool := decide (0 < j)
noncomputable def modD : D → D → R W := intD modC (fun i j => i % j)
theorem op_subD : OpD X (binaryOp .Sub) subD := op_intD (P := fun _ _ => True) (opI fun _ _ _ _ _ _ _ _ q => sub_int q) fun _ _ _ => trivial
theorem op_mulI : OpD X (binaryOp .Mult) mulI := op_intD op_mul fun i j h => by
  have h := of_decide_eq_true h
  rcases h with h | h
  · exact .inl ⟨by omega, by omega⟩
  · exact .inr ⟨by omega, by omega⟩
theorem op_divD : OpD X (binaryOp .FloorDiv) divD := op_intD (P := fun _ j => 0 < j ∧ j.natAbs < 1361129467683753853853498429727072845824) (opI fun i j _ _ _ _ _ hc q => by
  have h1 : (0 : Int) < j := hc.1
  have h2 := hc.2
  refine floordiv_int (by omega) ?_ (.inl (PyProof.noPylong_of_log2 ?_))
  · rw [Int.fdiv_eq_ediv_of_nonneg i (by omega)]
    exact q
  · have : j.natAbs < 2 ^ 130 := by
      have e : (2 : Nat) ^ 130 = 1361129467683753853853498429727072845824 := by decide
      omega
    have l : j.natAbs.log2 < 130 := (Nat.log2_lt (by omega)).mpr this
    omega) fun i j h => of_decide_eq_true h
theorem op_modD : OpD X (binaryOp .Mod) modD := op_intD op_mod fun i j h => of_decide_eq_true h
noncomputable def cmpD (f : Int → Int → Bool) : D → D → R W
  | .int i, .int j => .ok (.sh (.bl (f i j)))
  | _, _ => .no
theorem op_cmpD {fn : Value → Value → Sem Value} {f : Int → Int → Bool} (h : OpR X fn (rI0 fun i j => .bl (f i j))) : OpD X fn (cmpD f) := by
  intro pins s σ H x y v u Q I rx ry q
  obtain ⟨EX, G, a, b, g, ra, rb, o⟩ := q
  cases ra with
  | int i =>
    cases rb with
    | int j => exact h pins s σ H _ _ _ _ Q I rx ry ⟨i, j, rfl, rfl, out_sh o g (.bl _)⟩
    | _ => exact False.elim o
  | _ => cases rb <;> exact False.elim o
noncomputable def ltD : D → D → R W := cmpD fun i j => decide (i < j)
noncomputable def gtD : D → D → R W := cmpD fun i j => decide (j < i)
noncomputable def geD : D → D → R W := cmpD fun i j => decide (j ≤ i)
theorem op_ltD : OpD X (compareOp .Lt) ltD := op_cmpD op_lt
theorem op_gtD : OpD X (compareOp .Gt) gtD := op_cmpD op_gt
theorem op_geD : OpD X (compareOp .GtE) geD := op_cmpD op_ge

mutual
noncomputable def toPy : D → PyData
  | .non => .none
  | .bl b => .bool b
  | .int i => .int i
  | .str x => .str x
  | .lst ds => .list (toPys ds)
  | .tup ds => .tuple (toPys ds)
  | .dic _ => .dict []
  | .exn _ _ _ => .dict []
  | .obj _ _ _ => .dict []
noncomputable def toPys : List D → List PyData
  | [] => []
  | d :: ds => toPy d :: toPys ds
end
mutual
theorem Has.reads {K : PySem.W.Frag} {X : Cx} (hK : X.K = K) {pins : List (Addr × Obj)} {σ : Sg} {H : Hp} {s : Shared} (I : Inv X pins σ H s) {G : Hp} (g : Same G H) : ∀ {v : V} {d : D} {u : Value}, (toPy d).canLay0 = true → Has K G v d → RelV v u → ∃ as, Reads s.heap u (toPy d) as
  | _, _, _, _, .non, r => by cases r; exact ⟨_, .none⟩
  | _, _, _, _, .bl b, r => by cases r; exact ⟨_, .bool b⟩
  | _, _, _, _, .int i, r => by obtain ⟨t, rfl⟩ := r; exact ⟨_, .int i t⟩
  | _, _, _, _, .str x, r => by obtain ⟨t, rfl⟩ := r; exact ⟨_, .str x t⟩
  | _, _, _, c, .lst h r, q => by
    cases q
    obtain ⟨its, rv, ⟨o, n, e, c', _, dat⟩, _⟩ := I.list (by rw [hK]; exact g.seq h)
    obtain ⟨as, z⟩ := HasL.reads hK I g c r rv
    exact ⟨_, .list e c' dat z⟩
  | _, _, _, c, .tup h r, q => by
    cases q
    obtain ⟨its, rv, ⟨o, e, c', n, dat⟩, _⟩ := I.tuple (by rw [hK]; exact Same.tupS g h)
    obtain ⟨as, z⟩ := HasL.reads hK I g c r rv
    exact ⟨_, .tuple e c' dat z⟩
  | _, _, _, c, .exn0 _ _, _ => absurd c Bool.false_ne_true
  | _, _, _, c, .exn1 _ _ _ _ _, _ => absurd c Bool.false_ne_true
  | _, _, _, c, .dic _ _ _, _ => absurd c Bool.false_ne_true
  | _, _, _, c, .obj _ _ _ _, _ => absurd c Bool.false_ne_true
theorem HasL.reads {K : PySem.W.Frag} {X : Cx} (hK : X.K = K) {pins : List (Addr × Obj)} {σ : Sg} {H : Hp} {s : Shared} (I : Inv X pins σ H s) {G : Hp} (g : Same G H) : ∀ {vs : List V} {ds : List D} {us : List Value}, PyData.canLayAll0 (toPys ds) = true → HasL K G vs ds → Vals vs us → ∃ as, ReadsAll s.heap us (toPys ds) as
  | _, _, _, _, .nil, r => by cases r; exact ⟨_, .nil⟩
  | _, _, _, c, .cons h t, r => by
    cases r with
    | cons r1 r2 =>
      have c' : (PyData.canLay0 (toPy _) && PyData.canLayAll0 (toPys _)) = true := c
      rw [Bool.and_eq_true] at c'
      obtain ⟨a1, z1⟩ := Has.reads hK I g c'.1 h r1
      obtain ⟨a2, z2⟩ := HasL.reads hK I g c'.2 t r2
      exact ⟨_, .cons z1 z2⟩
end
noncomputable def eqC (a b : D) : Bool := (toPy a).canLay0 && (toPy b).canLay0 && decide ((toPy a).depth ≤ 60)
noncomputable def eqvD (a b : D) : Bool := (toPy a).eqv (toPy b)
noncomputable def eqD (a b : D) : R W := match a, b with
  | .str x, .str y => .ok (.sh (.bl (decide (x = y))))
  | a, b => if eqC a b = true then .ok (.sh (.bl (eqvD a b))) else .no
noncomputable def neD (a b : D) : R W := match a, b with
  | .str x, .str y => .ok (.sh (.bl (!decide (x = y))))
  | a, b => if eqC a b = true then .ok (.sh (.bl (!eqvD a b))) else .no
theorem decV_str (x y : Str) : decide (V.str x = V.str y) = decide (x = y) := by
  by_cases e : x = y
  · subst e; simp
  · rw [decide_eq_false e, decide_eq_false (fun z => e (by injection z))]
theorem op_eqD (hu : X.A.units + 64 < cLine) : OpD X (compareOp .Eq) eqD := by
  intro pins s σ H x y v u Q I rx ry q
  obtain ⟨EX, G, a, b, g, ra, rb, o⟩ := q
  unfold eqD at o
  split at o
  · rename_i x y
    cases ra
    cases rb
    exact op_eq pins s σ H _ _ _ _ Q I rx ry ⟨rfl, by rw [decV_str]; exact out_sh o g (.bl _)⟩
  · split at o
    · rename_i hc
      unfold eqC at hc
      rw [Bool.and_eq_true, Bool.and_eq_true] at hc
      obtain ⟨⟨h1, h2⟩, h3⟩ := hc
      have h3 := of_decide_eq_true h3
      obtain ⟨as, za⟩ := Has.reads rfl I g h1 ra rx
      obtain ⟨bs, zb⟩ := Has.reads rfl I g h2 rb ry
      refine PySem.SeqAt.compareEq_reads za zb h1 h2 ?_ ⟨.bl _, H, I, rfl, out_sh o g (.bl _)⟩
      have := Nat.min_le_left (toPy a).depth (toPy b).depth
      omega
    · exact o.elim
theorem op_neD (hu : X.A.units + 64 < cLine) : OpD X (compareOp .NotEq) neD := by
  intro pins s σ H x y v u Q I rx ry q
  obtain ⟨EX, G, a, b, g, ra, rb, o⟩ := q
  unfold neD at o
  split at o
  · rename_i x y
    cases ra
    cases rb
    exact op_ne pins s σ H _ _ _ _ Q I rx ry ⟨rfl, by rw [decV_str]; exact out_sh o g (.bl _)⟩
  · split at o
    · rename_i hc
      unfold eqC at hc
      rw [Bool.and_eq_true, Bool.and_eq_true] at hc
      obtain ⟨⟨h1, h2⟩, h3⟩ := hc
      have h3 := of_decide_eq_true h3
      obtain ⟨as, za⟩ := Has.reads rfl I g h1 ra rx
      obtain ⟨bs, zb⟩ := Has.reads rfl I g h2 rb ry
      refine PySem.SeqAt.compareNe_reads za zb h1 h2 ?_ ⟨.bl _, H, I, rfl, out_sh o g (.bl _)⟩
      have := Nat.min_le_left (toPy a).depth (toPy b).depth
      omega
    · exact o.elim

noncomputable def flatD : D → Bool
  | .non => true
  | .bl _ => true
  | .int _ => true
  | .str _ => true
  | _ => false
noncomputable def flV : D → V
  | .bl b => .bl b
  | .int i => .int i
  | .str x => .str x
  | _ => .non
theorem Has.fl {K : PySem.W.Frag} {G : Hp} {v : V} {d : D} (r : Has K G v d) (f : flatD d = true) : v = flV d ∧ flatV v = true := by
  cases r with
  | non => exact ⟨rfl, rfl⟩
  | bl b => exact ⟨rfl, rfl⟩
  | int i => exact ⟨rfl, rfl⟩
  | str x => exact ⟨rfl, rfl⟩
  | lst _ _ => cases f
  | tup _ _ => cases f
  | exn0 _ _ => cases f
  | exn1 _ _ _ _ _ => cases f
  | dic _ _ _ => cases f
  | obj _ _ _ _ => cases f
theorem Has.ofFl {K : PySem.W.Frag} {G G' : Hp} {v : V} {d : D} (r : Has K G v d) (f : flatD d = true) : Has K G' v d := by
  cases r with
  | non => exact .non
  | bl b => exact .bl b
  | int i => exact .int i
  | str x => exact .str x
  | lst _ _ => cases f
  | tup _ _ => cases f
  | exn0 _ _ => cases f
  | exn1 _ _ _ _ _ => cases f
  | dic _ _ _ => cases f
  | obj _ _ _ _ => cases f
theorem HasL.fl {K : PySem.W.Frag} {G : Hp} : ∀ {vs : List V} {ds : List D}, HasL K G vs ds → ds.all flatD = true → vs = ds.map flV ∧ vs.all flatV = true
  | _, _, .nil, _ => ⟨rfl, rfl⟩
  | _, _, .cons h r, f => by
    rw [List.all_cons, Bool.and_eq_true] at f
    obtain ⟨e1, e2⟩ := h.fl f.1
    obtain ⟨e3, e4⟩ := HasL.fl r f.2
    exact ⟨by rw [List.map_cons, ← e1, ← e3], by rw [List.all_cons, e2, e4]; rfl⟩
noncomputable def eqF (a b : D) : Bool := eqV (flV a) (flV b)
noncomputable def memD (d : D) (ds : List D) : Bool := ds.any fun y => eqF y d
theorem memD_eq (d : D) (ds : List D) : inV (flV d) (ds.map flV) = memD d ds := by
  unfold inV memD
  rw [List.any_map]
  rfl
noncomputable def inD (neg : Bool) : D → D → R W
  | .str i, .str j => .ok (.sh (.bl (if neg then !(!(Builtin.Str.occurrences j i 0 j.length 1).isEmpty) else !(Builtin.Str.occurrences j i 0 j.length 1).isEmpty)))
  | d, .lst ds => if (flatD d && ds.all flatD) = true then .ok (.sh (.bl (if neg then !memD d ds else memD d ds))) else .no
  | d, .tup ds => if (flatD d && ds.all flatD) = true then .ok (.sh (.bl (if neg then !memD d ds else memD d ds))) else .no
  | _, _ => .no
theorem in_core {EX : EXT} {G H : Hp} {x y : V} {d : D} {e : D} {Q : VK} {neg : Bool} (g : Same G H) (ra : Has X.K G x d) (rb : Has X.K G y e) (hd : ∀ i j, d = .str i → e = .str j → False) (o : Out X.K EX G H (inD neg d e) Q) : rIn X.K neg x y H Q := by
  cases rb with
  | lst h r =>
    rename_i ds
    have o' : Out X.K EX G H (if (flatD d && ds.all flatD) = true then .ok (.sh (.bl (if neg then !memD d ds else memD d ds))) else .no) Q := by
      cases d <;> exact o
    split at o'
    · rename_i f
      rw [Bool.and_eq_true] at f
      obtain ⟨e1, e2⟩ := ra.fl f.1
      obtain ⟨e3, e4⟩ := r.fl f.2
      refine ⟨_, _, rfl, .inl (g.seq h), e2, e4, ?_⟩
      rw [e1, e3, memD_eq]
      exact out_sh o' g (.bl _)
    · exact o'.elim
  | tup h r =>
    rename_i ds
    have o' : Out X.K EX G H (if (flatD d && ds.all flatD) = true then .ok (.sh (.bl (if neg then !memD d ds else memD d ds))) else .no) Q := by
      cases d <;> exact o
    split at o'
    · rename_i f
      rw [Bool.and_eq_true] at f
      obtain ⟨e1, e2⟩ := ra.fl f.1
      obtain ⟨e3, e4⟩ := r.fl f.2
      refine ⟨_, _, rfl, .inr (Same.tupS g h), e2, e4, ?_⟩
      rw [e1, e3, memD_eq]
      exact out_sh o' g (.bl _)
    · exact o'.elim
  | str j =>
    cases d with
    | str i => exact (hd i j rfl rfl).elim
    | _ => exact False.elim o
  | _ => cases d <;> exact False.elim o
theorem op_inD : OpD X (compareOp .In) (inD false) := by
  intro pins s σ H x y v u Q I rx ry q
  obtain ⟨EX, G, a, b, g, ra, rb, o⟩ := q
  by_cases hs : ∃ i j, a = .str i ∧ b = .str j
  · obtain ⟨i, j, rfl, rfl⟩ := hs
    cases ra
    cases rb
    exact op_in_str pins s σ H _ _ _ _ Q I rx ry ⟨i, j, rfl, rfl, out_sh o g (.bl _)⟩
  · exact op_in_seq pins s σ H _ _ _ _ Q I rx ry (in_core g ra rb (fun i j e1 e2 => hs ⟨i, j, e1, e2⟩) o)
theorem op_notInD : OpD X (compareOp .NotIn) (inD true) := by
  intro pins s σ H x y v u Q I rx ry q
  obtain ⟨EX, G, a, b, g, ra, rb, o⟩ := q
  by_cases hs : ∃ i j, a = .str i ∧ b = .str j
  · obtain ⟨i, j, rfl, rfl⟩ := hs
    cases ra
    cases rb
    exact op_notIn_str pins s σ H _ _ _ _ Q I rx ry ⟨i, j, rfl, rfl, out_sh o g (.bl _)⟩
  · exact op_notIn_seq pins s σ H _ _ _ _ Q I rx ry (in_core g ra rb (fun i j e1 e2 => hs ⟨i, j, e1, e2⟩) o)

noncomputable def lenD : List D → R W
  | [.str x] => if x.length ≤ 16777216 then .ok (.sh (.int x.length)) else .no
  | [.lst ds] => .ok (.sh (.int ds.length))
  | [.tup ds] => .ok (.sh (.int ds.length))
  | _ => .no
theorem call_lenD3 : CallD X (.builtin "len") lenD := by
  intro pins s σ H vs us Q I rv q
  obtain ⟨EX, G, ds, g, r, o⟩ := q
  cases r with
  | nil => exact False.elim o
  | cons h t =>
    cases t with
    | cons _ _ => cases h <;> exact False.elim o
    | nil =>
      cases h with
      | str x =>
        simp only [lenD] at o
        split at o
        · rename_i hz
          exact call_len_str pins s σ H _ _ Q I rv ⟨x, rfl, by rw [sizeLine_eq]; exact hz, out_sh o g (.int _)⟩
        · exact o.elim
      | lst h r => exact call_len_seq pins s σ H _ _ Q I rv ⟨_, _, rfl, .inl (g.seq h), by rw [r.length]; exact out_sh o g (.int _)⟩
      | tup h r => exact call_len_seq pins s σ H _ _ Q I rv ⟨_, _, rfl, .inr (Same.tupS g h), by rw [r.length]; exact out_sh o g (.int _)⟩
      | _ => exact False.elim o
noncomputable def maxD : List D → R W
  | [.int i, .int j] => .ok (.sh (.int (if j > i then j else i)))
  | _ => .no
noncomputable def minD : List D → R W
  | [.int i, .int j] => .ok (.sh (.int (if j < i then j else i)))
  | _ => .no
theorem two_ints {K : PySem.W.Frag} {G : Hp} {vs : List V} {ds : List D} (r : HasL K G vs ds) {P : Prop} (h : ∀ i j, vs = [.int i, .int j] → ds = [.int i, .int j] → P) (n : (∀ i j, ds ≠ [.int i, .int j]) → P) : P := by
  by_cases e : ∃ i j, ds = [.int i, .int j]
  · obtain ⟨i, j, rfl⟩ := e
    cases r with
    | cons a t =>
      cases t with
      | cons b t2 =>
        cases t2
        cases a
        cases b
        exact h i j rfl rfl
  · exact n fun i j z => e ⟨i, j, z⟩
theorem maxD_no {ds : List D} (h : ∀ i j, ds ≠ [.int i, .int j]) : maxD ds = .no := by
  unfold maxD
  split
  · rename_i i j; exact absurd rfl (h i j)
  · rfl
theorem minD_no {ds : List D} (h : ∀ i j, ds ≠ [.int i, .int j]) : minD ds = .no := by
  unfold minD
  split
  · rename_i i j; exact absurd rfl (h i j)
  · rfl
theorem call_maxD (hc : X.calm = true) : CallD X (.builtin "max") maxD := by
  intro pins s σ H vs us Q I rv q
  obtain ⟨EX, G, ds, g, r, o⟩ := q
  refine two_ints r (fun i j e1 e2 => ?_) fun n => ?_
  · subst e1 e2
    exact call_max2 hc pins s σ H _ _ Q I rv ⟨i, j, rfl, out_sh o g (.int _)⟩
  · rw [maxD_no n] at o; exact o.elim
theorem call_minD (hc : X.calm = true) : CallD X (.builtin "min") minD := by
  intro pins s σ H vs us Q I rv q
  obtain ⟨EX, G, ds, g, r, o⟩ := q
  refine two_ints r (fun i j e1 e2 => ?_) fun n => ?_
  · subst e1 e2
    exact call_min2 hc pins s σ H _ _ Q I rv ⟨i, j, rfl, out_sh o g (.int _)⟩
  · rw [minD_no n] at o; exact o.elim
noncomputable def listOf : List D → R W
  | [.lst ds] => .ok (.ow (.lst ds))
  | [.tup ds] => .ok (.ow (.lst ds))
  | _ => .no
theorem call_listOf : CallD X (.type "list") listOf := by
  intro pins s σ H vs us Q I rv q
  obtain ⟨EX, G, ds, g, r, o⟩ := q
  cases r with
  | nil => exact False.elim o
  | cons h t =>
    cases t with
    | cons _ _ => cases h <;> exact False.elim o
    | nil =>
      cases h with
      | lst h r => exact call_list_of pins s σ H _ _ Q I rv ⟨_, _, rfl, .inl (g.seq h), out_own o g r⟩
      | tup h r => exact call_list_of pins s σ H _ _ Q I rv ⟨_, _, rfl, .inr (Same.tupS g h), out_own o g r⟩
      | _ => exact False.elim o
noncomputable def tupOf : List D → R W
  | [.lst ds] => .ok (.sh (.tup ds))
  | [.tup ds] => .ok (.sh (.tup ds))
  | _ => .no
theorem call_tupOf : CallD X (.type "tuple") tupOf := by
  intro pins s σ H vs us Q I rv q
  obtain ⟨EX, G, ds, g, r, o⟩ := q
  cases r with
  | nil => exact False.elim o
  | cons h t =>
    cases t with
    | cons _ _ => cases h <;> exact False.elim o
    | nil =>
      cases h with
      | lst h r =>
        refine call_tuple_of pins s σ H _ _ Q I rv ⟨_, _, rfl, .inl ⟨g.seq h, fun p hp => ?_⟩⟩
        exact o (.ref p) _ _ (Step.new g hp _) (.tup (SqT.of upd_same) (r.mono (same_new (g.free hp) _)))
      | tup h r => exact call_tuple_of pins s σ H _ _ Q I rv ⟨_, _, rfl, .inr ⟨Same.tupS g h, out_sh o g (.tup h r)⟩⟩
      | _ => exact False.elim o
end
end L3

namespace L3
open PySem PySem.Spec PyProof.Rows L2

structure RoomC (c : Bool) (k : Nat) (A : Around) : Prop where
  hd : c = true → A.handled = none
  dp : A.depth + 3 * k + 5 < recursionLimit
  un : A.units + 16 * k + 200 < cLine
theorem RoomC.mono {c : Bool} {j k : Nat} {A : Around} (r : RoomC c k A) (h : j ≤ k) : RoomC c j A := ⟨r.hd, by have := r.dp; omega, by have := r.un; omega⟩
theorem RoomC.deeper {c : Bool} {k : Nat} {A : Around} (r : RoomC c (k + 1) A) (env : Env) : RoomC c k (A.deeper env) :=
  ⟨r.hd, by have := r.dp; show A.depth + 1 + 3 * k + 5 < _; omega, by have := r.un; show A.units + 3 + 16 * k + 200 < _; omega⟩
theorem RoomC.any {c : Bool} {k : Nat} {A : Around} (r : RoomC true k A) : RoomC c k A := ⟨fun _ => r.hd rfl, r.dp, r.un⟩
theorem RoomC.loose {c : Bool} {k : Nat} {A : Around} (r : RoomC c k A) : RoomC false k A := ⟨fun z => absurd z Bool.false_ne_true, r.dp, r.un⟩
theorem RoomC.mark {c : Bool} {k : Nat} {A : Around} (r : RoomC c k A) (h : Option Value) : RoomC false k (A.mark h) := ⟨fun z => absurd z Bool.false_ne_true, r.dp, r.un⟩
theorem RoomC.of {k : Nat} {A : Around} (r : Room k A) : RoomC true k A := ⟨fun _ => r.hd, r.dp, r.un⟩

structure FnX (P : Program) (w : World) (K : PySem.W.Frag) (mg : Str → Option Value) (base : Heap) (c : Bool) (k : Nat) (f : Addr) (fd : FuncData) (ps : List Str) (sp : Sp) : Prop where
  len : ∀ vs H Q E, sp vs H Q E → vs.length = ps.length
  run : ∀ (A : Around) (outer : List Env) (s : Shared) (H : Hp) (args : Args) (us : List Value) (vs : List V) (Q : VK) (E : XK), RoomC c k A → Env0 P w K mg base A outer s H → BindsTo s fd args (ps.zip us) → Vals vs us → sp vs H Q E →
    codeAny (model P w) A (.call (.ref f) args) (CR (CXr P w) outer P w H s Q E) s
theorem FnX.mono {P : Program} {w : World} {K : PySem.W.Frag} {mg : Str → Option Value} {base : Heap} {c : Bool} {j k : Nat} {f : Addr} {fd : FuncData} {ps : List Str} {sp : Sp} (F : FnX P w K mg base c j f fd ps sp) (h : j ≤ k) : FnX P w K mg base c k f fd ps sp :=
  ⟨F.len, fun A outer s H args us vs Q E hr => F.run A outer s H args us vs Q E (hr.mono h)⟩
noncomputable abbrev cxN (c : Bool) (P : Program) (w : World) (K : PySem.W.Frag) (mg : Str → Option Value) (base : Heap) (N : List Str) (qual : Str) (scope : Scope) (f : Addr) (cd : Value) (A : Around) (outer : List Env) (s : Shared) (H : Hp) (E : XK) : Cx :=
  { cxOf (CXr P w) P w K mg base N qual scope f cd A outer s H E with calm := c }
theorem inv_startN {c : Bool} {P : Program} {w : World} {K : PySem.W.Frag} {mg : Str → Option Value} {base : Heap} {N ps : List Str} {qual : Str} {scope : Scope} {f : Addr} {cd : Value} {A : Around} {outer : List Env} {s s1 : Shared} {H : Hp} {E : XK} {us : List Value} {vs : List V}
    (S : FnScope N ps scope) (hd : c = true → A.handled = none) (e0 : Env0 P w K mg base A outer s H) (hl : vs.length = ps.length) (r : Vals vs us)
    (x : InCallC s s.heap.objs.size (bindL (envOfC qual scope s.heap.objs.size f cd).kindOf (ps.zip us) fun _ => none) (cellsFrom (s.heap.objs.size + 1) scope.names []) (bindC (envOfC qual scope s.heap.objs.size f cd).kindOf (ps.zip us) fun _ => none) s1) :
    Inv (cxN c P w K mg base N qual scope f cd A outer s H E) [] (start N vs) H s1 := by
  have I := inv_start (CX := CXr P w) (E := E) (qual := qual) (f := f) (cd := cd) (A := { A with handled := none }) S rfl ⟨e0.frames, e0.mod, e0.bs, e0.bsz, e0.funs, e0.frf, e0.hok, e0.bare⟩ hl r x
  exact ⟨⟨I.ok.mod, I.ok.kind, I.ok.glob, I.ok.blt, I.ok.above, I.ok.inj, I.ok.has, I.ok.cab, hd, Around.frames_deeper e0.frames, I.ok.stk, I.ok.exf, I.ok.bs, I.ok.bsz, I.ok.noex, I.ok.exfs, I.ok.funs, I.ok.frf⟩,
    I.os, I.bare, I.base, I.loc, I.cell, I.free, I.freeC, I.pin, I.hok, I.len⟩
theorem fnx_of {c : Bool} {P : Program} {w : World} {K : PySem.W.Frag} {mg : Str → Option Value} {base : Heap} {k : Nat} {f : Addr} {name qual : Str} {params : Arguments} {body : List Stmt} {scope : Scope} {dV kV doc pm cdv ct oc : Value} {an od : Option Addr}
    {osl : Array (Option Value)} {N ps : List Str} {sp : Sp} (lk : K.lookup f = some ⟨oc, od, .func (PySem.W.fnOf name qual params body scope dV kV doc pm an cdv ct), osl⟩) (hcd : PySem.W.codeIn K cdv qual = true) (S : FnScope N ps scope)
    (len : ∀ vs H Q E, sp vs H Q E → vs.length = ps.length)
    (hbody : ∀ (A : Around) (outer : List Env) (s : Shared) (H : Hp) (vs : List V) (Q : VK) (E : XK), RoomC c k (A.deeper (envOfC qual scope s.heap.objs.size f cdv)) → sp vs H Q E →
      ∃ t, PSs (cxN c P w K mg base N qual scope f cdv A outer s H E) body t ∧ t { nx := fun _ H' => Q .non H', rt := Q } (start N vs) H) :
    FnX P w K mg base c (k + 1) f (PySem.W.fnOf name qual params body scope dV kV doc pm an cdv ct) ps sp := by
  refine ⟨len, fun A outer s H args us vs Q E hr e0 hb r hsp => ?_⟩
  have hl := len _ _ _ _ hsp
  have KX : K.In s.heap := e0.mod.kin.keeps fun b o e => (e0.bs b o e).1
  have lim : s.heap.NoLimit := e0.mod.nolimit.keeps fun b o e => (e0.bs b o e).1
  have hkind : ∀ y ∈ ps.zip us, scope.names.lookup y.1 = some .local ∨ (scope.names.lookup y.1 = some .cell ∧ ((cellsFrom (s.heap.objs.size + 1) scope.names []).lookup y.1).isSome = true) := fun ⟨n, v⟩ hy => by
    rcases S.par n (List.of_mem_zip hy).1 with q | q
    · exact .inl q
    · exact .inr ⟨q, PySem.W.cellsFrom_some _ _ _ (.inl q)⟩
  have dp : A.depth < recursionLimit := by have := hr.dp; omega
  refine codeAny_call_function dp (KX _ _ lk) rfl S.co S.gen rfl (PySem.W.codeRec_of KX hcd) (hb _ _ _ _ ?_)
  refine wpAny_newFunctionEnv_cells S.kind hkind fun env he s1 x => ?_
  subst he
  refine ⟨lim.keeps x.toInCall.keep, codeAny_func ?_⟩
  obtain ⟨t, ht, hq⟩ := hbody A outer s H vs Q E (hr.deeper _) hsp
  have I : Inv (cxN c P w K mg base N qual scope f cdv A outer s H E) [] (start N vs) H s1 := inv_startN S hr.hd e0 hl r x
  refine wpAny_mono (ht [] s1 (start N vs) H _ I hq) (fun fl s' hs => ?_) fun e s' hs => hs
  have fin : ∀ {σ' : Sg} {H' : Hp} {v : V} {u : Value}, Inv (cxN c P w K mg base N qual scope f cdv A outer s H E) [] σ' H' s' → RelV v u → Q v H' → CE outer P w H s Q u s' :=
    fun {σ' H' v u} J rv q => ⟨v, H', J.os, J.bare, J.base, J.hok, rv, q⟩
  cases fl with
  | ret u =>
    obtain ⟨v, σ', H', J, rv, q⟩ := hs
    exact fin J rv q
  | next =>
    obtain ⟨σ', H', J, q⟩ := hs
    exact fin (v := V.non) (u := Value.none) J rfl q
  | brk =>
    obtain ⟨_, _, _, q⟩ := hs
    exact False.elim q
  | cont =>
    obtain ⟨_, _, _, q⟩ := hs
    exact False.elim q
theorem Fun.okX {c : Bool} {P : Program} {w : World} {K : PySem.W.Frag} {mg : Str → Option Value} {base : Heap} {x qual : Str} {st : Stmt} {f : Addr} {fd : FuncData} {N ps : List Str} {k : Nat} {sp : Sp} (F : Fun K x qual st f fd) (S : FnScope N ps (defScope st)) (len : ∀ vs H Q E, sp vs H Q E → vs.length = ps.length)
    (hbody : ∀ (cdv : Value) (A : Around) (outer : List Env) (s : Shared) (H : Hp) (vs : List V) (Q : VK) (E : XK), RoomC c k (A.deeper (envOfC qual (defScope st) s.heap.objs.size f cdv)) → sp vs H Q E →
      ∃ t, PSs (cxN c P w K mg base N qual (defScope st) f cdv A outer s H E) (defBody st) t ∧ t { nx := fun _ H' => Q .non H', rt := Q } (start N vs) H) : FnX P w K mg base c (k + 1) f fd ps sp := by
  obtain ⟨oc, od, kV, doc, pm, an, cdv, ct, osl, rfl, lk, hcd⟩ := F.ex
  exact fnx_of lk hcd S len fun A outer s H vs Q E hr hsp => hbody cdv A outer s H vs Q E hr hsp

noncomputable def Lk (X : Cx) (EX : EXS) : Prop := ∀ (pins : List (Addr × Obj)) (σ : Sg) (H : Hp) (s : Shared) (e : Value) (s' : Shared), Inv X pins σ H s → CXr X.prog X.w X.stack H s (EXE X.K (EX σ)) e s' → X.xe e s'
theorem lk_none {X : Cx} : Lk X EXS0 := fun pins σ H s e s' I c => by
  obtain ⟨a, C, dx, T, H', _, _, _, _, _, _, _, _, _, _, x, G, _, _, q⟩ := c
  exact False.elim q
theorem lk_def {c : Bool} {P : Program} {w : World} {K : PySem.W.Frag} {mg : Str → Option Value} {base : Heap} {N : List Str} {qual : Str} {scope : Scope} {f : Addr} {cd : Value} {A : Around} {outer : List Env} {s : Shared} {H : Hp} {E : XK} :
    Lk (cxN c P w K mg base N qual scope f cd A outer s H E) (fun _ => EXof K E) := fun pins σ H s e s' I h => leaves_on I h fun cls dx H' q => q.of

noncomputable def spX (K : PySem.W.Frag) (n : Nat) (F : List D → R W) : Sp := fun vs H Q E => vs.length = n ∧ ∃ G ds, Same G H ∧ HasL K G vs ds ∧ Out K (EXof K E) G H (F ds) Q
noncomputable def eFn (n : Nat) (F : List D → R W) (fa : FA) : FE := fun δ => (fa δ).bind fun ds => if ds.length = n then F ds else .no
noncomputable def FnD (P : Program) (w : World) (K : PySem.W.Frag) (mg : Str → Option Value) (base : Heap) (c : Bool) (x : Str) (k : Nat) (ps : List Str) (F : List D → R W) : Prop :=
  ∃ f fd, FnX P w K mg base c k f fd ps (spX K ps.length F) ∧ mg x = some (.ref f) ∧ PySem.W.keepIn K (.ref f) = true ∧ Binds K fd ps []
section
variable {X : Cx} {EX : EXS} {e : Expr} {es : List Expr} {fa : FA} {x : Str} {pp pos : Pos} {c : Bool} {k k' : Nat} {ps : List Str} {F : List D → R W}
theorem run_fnX {pins : List (Addr × Obj)} {σ : Sg} {H : Hp} {s : Shared} {Q : VK} {us : List Value} {vs : List V} {f : Addr} {fd : FuncData} {sp : Sp} (F : FnX X.prog X.w X.K X.mg X.base c k f fd ps sp) (hr : RoomC c k X.A) (hb : Binds X.K fd ps []) (lk : Lk X EX)
    (I : Inv X pins σ H s) (r : Vals vs us) (h : sp vs H Q (EXE X.K (EX σ))) : wpAny (model X.prog X.w) X.A (call (.ref f) us) (EP X pins σ Q) X.xe s := by
  have hl : us.length = ps.length := by rw [← r.length]; exact F.len _ _ _ _ h
  have hb' := hb s us I.kIn (by rw [List.append_nil]; exact hl)
  rw [List.append_nil] at hb'
  refine wpAny_call (codeAny_mono (F.run X.A X.stack s H ⟨us, []⟩ us vs Q _ hr I.env0 hb' r h) fun r s' hq => ?_)
  cases r with
  | error e => exact lk pins σ H s e s' I hq
  | ok fl =>
    cases fl with
    | ret u => exact I.after hq
    | next => exact False.elim hq
    | brk => exact False.elim hq
    | cont => exact False.elim hq
theorem ed_call (hr : RoomC c k' X.A) (lk : Lk X EX) (h : FnD X.prog X.w X.K X.mg X.base c x k ps F) (ha : AD X EX (e :: es) fa) (hk : k ≤ k' := by decide) (hg : Gl X x := by rfl) (hdb : (x == ("__debug__" : Str)) = false := by decide)
    (he : starEach (e :: es) X.env = (false, eval e X.env) :: starEach es X.env := by rfl) (hpl : (backTo pos (starEach es X.env)).any (·.1) = false := by rfl) :
    ED X EX (.Call (.Name x pp) (e :: es) [] pos) (eFn ps.length F fa) := by
  obtain ⟨f, fd, ok, hm, kp, hb⟩ := h
  intro pins s σ H Q I q
  obtain ⟨G, δ, g0, s0, o⟩ := q
  refine wpAny_Call_Name_kw (ld_glob I hg hm ?_ hdb)
  have ta : tDa X.K EX fa σ H fun vs H1 => spX X.K ps.length F vs H1 Q (EXE X.K (EX σ)) := by
    refine tDa.seq g0 s0 o fun ds vs G' H' _ st r o' => ?_
    split at o'
    · rename_i hl
      refine ⟨by rw [r.length]; exact hl, G', ds, st.gh, r, ?_⟩
      cases q : F ds with
      | ok w => rw [q] at o'; exact o'
      | ex x => rw [q] at o'; exact EXof.in o'
      | no => rw [q] at o'; exact o'.elim
    · exact o'.elim
  refine PySem.W.callWith_K (h₀ := X.base) I.ok.mod.kin kp (thn (ha pos pins s σ H _ I ta) fun us s1 ⟨vs, H1, I1, r, q⟩ => ⟨I1.kIn, ?_⟩) he hpl
  exact run_fnX ok (hr.mono hk) hb lk I1 r q
end

inductive Sl where
  | no | sh (d : D) | ow (d : D) | tr (t : Tn) | lk (d : D) | lt (t : Tn)
noncomputable abbrev SE := List Sl
inductive Fl where
  | nx (Δ : SE) | rt (w : W) | bk (Δ : SE) | ct (Δ : SE) | ex (x : Xn) (Δ : SE) | no
noncomputable abbrev FS := SE → Fl
noncomputable def Sl.pub : Sl → Option D
  | .sh d => some d
  | _ => none
noncomputable def Sl.any : Sl → Option D
  | .sh d => some d
  | .ow d => some d
  | .tr t => some t.d
  | .lk d => some d
  | .lt t => some t.d
  | .no => none
noncomputable def Sl.give : Sl → Sl
  | .ow d => .sh d
  | .tr t => .sh t.d
  | s => s
noncomputable def Sl.own : Sl → Option Tn
  | .ow d => some (Tn.of d)
  | .tr t => some t
  | .lk d => some (Tn.of d)
  | .lt t => some t
  | _ => none
noncomputable def vsh (Δ : SE) : DE := Δ.map Sl.pub
noncomputable def vall (Δ : SE) : DE := Δ.map Sl.any
noncomputable def gall (Δ : SE) : SE := Δ.map Sl.give

noncomputable abbrev OS := Nat → AS
structure HB where
  h : Hp
  b : Nat → Addr
structure Ev (K : PySem.W.Frag) (H0 : HB) (G0 G H : Hp) (σ : Sg) (Δ : SE) (A : OS) : Prop where
  st : Step G0 H0.h G H
  len : σ.length = Δ.length
  sh : ∀ (i : Nat) (d : D), Δ[i]? = some (.sh d) → ∃ v, σ[i]? = some (some v) ∧ Has K G v d
  ow : ∀ (i : Nat) (s : Sl) (t : Tn), Δ[i]? = some s → s.own = some t → ∃ v, σ[i]? = some (some v) ∧ Ow K G H v t (A i)
  out : ∀ (i : Nat) (a : Addr), A i a → G a = none ∧ H0.h a = none ∧ H a ≠ none
  dj : ∀ (i j : Nat) (a : Addr), A i a → A j a → i = j
  lk : ∀ (i : Nat) (d : D), Δ[i]? = some (.lk d) → σ[i]? = some (some (.ref (H0.b i)))
  lt : ∀ (i : Nat) (t : Tn), Δ[i]? = some (.lt t) → σ[i]? = some (some (.ref (H0.b i)))

noncomputable def allG (G H : Hp) (A : OS) : Hp := joinG G H fun b => ∃ i, A i b
structure MStep (S : AS) (G H G' H' : Hp) : Prop where
  hh : ∀ b o, ¬ S b → H b = some o → H' b = some o
  al : ∀ b, H b ≠ none → H' b ≠ none
  gh : Same G' H'
  gg : Same G G'
  nw : ∀ b, G b = none → H b ≠ none → G' b = none
structure MStep2 (S : AS) (G H G' H' : Hp) : Prop where
  hh : ∀ b o, ¬ S b → H b = some o → H' b = some o
  gh : Same G' H'
  gg : Same G G'
  nw : ∀ b, ¬ S b → G b = none → H b ≠ none → G' b = none
theorem MStep.weak {S : AS} {G H G' H' : Hp} (m : MStep S G H G' H') : MStep2 S G H G' H' := ⟨m.hh, m.gh, m.gg, fun b _ => m.nw b⟩
theorem Step.m {S : AS} {G H G' H' : Hp} (s : Step G H G' H') : MStep S G H G' H' := ⟨fun b o _ q => s.hh b o q, fun b n z => n (s.hh.free z), s.gh, s.gg, s.nw⟩
theorem MStep.write {S : AS} {G H : Hp} (g : Same G H) {a : Addr} (hs : S a) (n : G a = none) (o : HO) : MStep S G H G (L2.upd H a o) :=
  ⟨fun b o' nb q => by rw [upd_ne (fun z => nb (by rw [z]; exact hs))]; exact q, fun b nb => by
    by_cases z : b = a
    · subst z; rw [upd_same]; simp
    · rw [upd_ne z]; exact nb, fun b o' q => by
    by_cases z : b = a
    · subst z; rw [n] at q; cases q
    · rw [upd_ne z]; exact g b o' q, Same.refl _, fun _ e _ => e⟩
noncomputable def setA (A : OS) (i : Nat) (S : AS) : OS := fun j => if j = i then S else A j
theorem setA_same {A : OS} {i : Nat} {S : AS} : setA A i S i = S := if_pos rfl
theorem setA_ne {A : OS} {i j : Nat} {S : AS} (h : j ≠ i) : setA A i S j = A j := if_neg h
section
variable {K : PySem.W.Frag} {H0 : HB} {G0 G H G' H' : Hp} {σ : Sg} {Δ : SE} {A : OS}
theorem Ev.gsh (E : Ev K H0 G0 G H σ Δ A) : HasS K G σ (vsh Δ) := ⟨by rw [E.len]; unfold vsh; rw [List.length_map], fun i d q => by
  unfold vsh at q
  rw [List.getElem?_map] at q
  cases e : Δ[i]? with
  | none => rw [e] at q; cases q
  | some z =>
    rw [e] at q
    cases z with
    | sh d' => cases q; exact E.sh i d e
    | _ => cases q⟩
theorem Ev.aH (E : Ev K H0 G0 G H σ Δ A) : Same (allG G H A) H := fun b o q => by
  unfold allG joinG at q
  split at q
  · exact q
  · exact E.st.gh b o q
theorem Ev.aG (E : Ev K H0 G0 G H σ Δ A) : Same G (allG G H A) := fun b o q => by
  unfold allG joinG
  split
  · rename_i hb; obtain ⟨i, hb⟩ := hb; rw [(E.out i b hb).1] at q; cases q
  · exact q
theorem Ev.aStep (E : Ev K H0 G0 G H σ Δ A) : Step G0 H0.h (allG G H A) H :=
  ⟨E.st.hh, E.aH, E.st.gg.trans E.aG, fun b n z => by
    unfold allG joinG
    split
    · rename_i hb; obtain ⟨i, hb⟩ := hb; exact absurd (E.out i b hb).2.1 z
    · exact E.st.nw b n z⟩
theorem Ev.aIn {A : OS} {G H : Hp} {i : Nat} {b : Addr} {o : HO} (hb : A i b) (q : H b = some o) : allG G H A b = some o := by
  unfold allG joinG
  rw [if_pos ⟨i, hb⟩]
  exact q
theorem Ev.gall (E : Ev K H0 G0 G H σ Δ A) : HasS K (allG G H A) σ (vall Δ) := ⟨by rw [E.len]; unfold vall; rw [List.length_map], fun i d q => by
  unfold vall at q
  rw [List.getElem?_map] at q
  cases e : Δ[i]? with
  | none => rw [e] at q; cases q
  | some z =>
    rw [e] at q
    cases z with
    | sh d' =>
      cases q
      obtain ⟨v, e1, r⟩ := E.sh i d e
      exact ⟨v, e1, r.mono E.aG⟩
    | ow d' =>
      cases q
      obtain ⟨v, e1, t⟩ := E.ow i _ _ e rfl
      have r := t.has E.aG fun b o hb q => Ev.aIn hb q
      rw [Tn.of_d] at r
      exact ⟨v, e1, r⟩
    | tr t' =>
      cases q
      obtain ⟨v, e1, t⟩ := E.ow i _ _ e rfl
      exact ⟨v, e1, t.has E.aG fun b o hb q => Ev.aIn hb q⟩
    | lk d' =>
      cases q
      obtain ⟨v, e1, t⟩ := E.ow i _ _ e rfl
      have r := t.has E.aG fun b o hb q => Ev.aIn hb q
      rw [Tn.of_d] at r
      exact ⟨v, e1, r⟩
    | lt t' =>
      cases q
      obtain ⟨v, e1, t⟩ := E.ow i _ _ e rfl
      exact ⟨v, e1, t.has E.aG fun b o hb q => Ev.aIn hb q⟩
    | no => cases q⟩
theorem Ev.grow (E : Ev K H0 G0 G H σ Δ A) (s : Step G H G' H') : Ev K H0 G0 G' H' σ Δ A :=
  ⟨E.st.trans s, E.len, fun i d e => let ⟨v, e1, r⟩ := E.sh i d e; ⟨v, e1, r.mono s.gg⟩, fun i z d e z' => let ⟨v, e1, t⟩ := E.ow i z d e z'; ⟨v, e1, t.mono s.gg (fun b o _ q => s.hh b o q) fun _ q => q⟩,
    fun i a ha => let ⟨h1, h2, h3⟩ := E.out i a ha; ⟨s.nw a h1 h3, h2, fun z => h3 (s.hh.free z)⟩, E.dj, E.lk, E.lt⟩
theorem Ev.keep (E : Ev K H0 G0 G H σ Δ A) (s : Same H H') : Ev K H0 G0 G H' σ Δ A :=
  E.grow ⟨s, E.st.gh.trans s, Same.refl _, fun _ n _ => n⟩
theorem getSet {α : Type} {l : List α} {i j : Nat} {x y : α} (h : (l.set i x)[j]? = some y) : (i = j ∧ y = x) ∨ (i ≠ j ∧ l[j]? = some y) := by
  by_cases e : i = j
  · subst e
    rw [List.getElem?_set] at h
    simp only [if_true] at h
    split at h
    · exact .inl ⟨rfl, (Option.some.inj h).symm⟩
    · cases h
  · rw [List.getElem?_set_ne e] at h
    exact .inr ⟨e, h⟩
theorem set_lt {α : Type} {l : List α} {i : Nat} {x y : α} (h : (l.set i x)[i]? = some y) : i < l.length := by
  by_cases hh : i < l.length
  · exact hh
  · rw [List.getElem?_eq_none (by rw [List.length_set]; omega)] at h; cases h
theorem Ev.put (E : Ev K H0 G0 G H σ Δ A) {i : Nat} {v : V} {d : D} (r : Has K G v d) : Ev K H0 G0 G H (σ.set i (some v)) (Δ.set i (.sh d)) A := by
  refine ⟨E.st, by rw [List.length_set, List.length_set]; exact E.len, fun j d' e => ?_, fun j z d' e zo => ?_, E.out, E.dj, fun j d' e => ?_, fun j d' e => ?_⟩
  · rcases getSet e with ⟨rfl, q⟩ | ⟨n, q⟩
    · cases q
      exact ⟨v, by rw [List.getElem?_set_self (by rw [E.len]; exact set_lt e)], r⟩
    · obtain ⟨v', e1, r'⟩ := E.sh j d' q
      exact ⟨v', by rw [List.getElem?_set_ne n]; exact e1, r'⟩
  · rcases getSet e with ⟨rfl, q⟩ | ⟨n, q⟩
    · subst q; cases zo
    · obtain ⟨v', e1, t⟩ := E.ow j z d' q zo
      exact ⟨v', by rw [List.getElem?_set_ne n]; exact e1, t⟩
  · rcases getSet e with ⟨rfl, q⟩ | ⟨n, q⟩
    · cases q
    · rw [List.getElem?_set_ne n]; exact E.lk j d' q
  · rcases getSet e with ⟨rfl, q⟩ | ⟨n, q⟩
    · cases q
    · rw [List.getElem?_set_ne n]; exact E.lt j d' q
theorem Ev.putO (E : Ev K H0 G0 G H σ Δ A) {i : Nat} {v : V} {z : Sl} {d : Tn} {S : AS} (fr : ∀ a, S a → H0.h a = none ∧ G a = none ∧ H a ≠ none) (zo : z.own = some d) (zl : ∀ d, z ≠ .lk d) (t : Ow K G H v d S) (nw : ∀ j a, A j a → ¬ S a) (zt : ∀ d, z = .lt d → v = .ref (H0.b i) := by intro _ z; cases z) :
    Ev K H0 G0 G H (σ.set i (some v)) (Δ.set i z) (setA A i S) := by
  refine ⟨E.st, by rw [List.length_set, List.length_set]; exact E.len, fun j d' e' => ?_, fun j z' d' e' zo' => ?_, fun j a ha => ?_, fun j j' a h1 h2 => ?_, fun j d' e' => ?_, fun j d' e' => ?_⟩
  · rcases getSet e' with ⟨rfl, q⟩ | ⟨nn, q⟩
    · subst q; cases zo
    · obtain ⟨v', e1, r'⟩ := E.sh j d' q
      exact ⟨v', by rw [List.getElem?_set_ne nn]; exact e1, r'⟩
  · rcases getSet e' with ⟨rfl, q⟩ | ⟨nn, q⟩
    · subst q
      rw [zo] at zo'
      cases zo'
      exact ⟨v, by rw [List.getElem?_set_self (by rw [E.len]; exact set_lt e')], by rw [setA_same]; exact t⟩
    · obtain ⟨v', e1, x⟩ := E.ow j z' d' q zo'
      exact ⟨v', by rw [List.getElem?_set_ne nn]; exact e1, by rw [setA_ne (Ne.symm nn)]; exact x⟩
  · by_cases z : j = i
    · subst z
      rw [setA_same] at ha
      obtain ⟨a1, a2, a3⟩ := fr a ha
      exact ⟨a2, a1, a3⟩
    · rw [setA_ne z] at ha
      exact E.out j a ha
  · by_cases z : j = i
    · by_cases z' : j' = i
      · rw [z, z']
      · rw [z, setA_same] at h1
        rw [setA_ne z'] at h2
        exact absurd h1 (nw j' a h2)
    · by_cases z' : j' = i
      · rw [setA_ne z] at h1
        rw [z', setA_same] at h2
        exact absurd h2 (nw j a h1)
      · rw [setA_ne z] at h1
        rw [setA_ne z'] at h2
        exact E.dj j j' a h1 h2
  · rcases getSet e' with ⟨rfl, q⟩ | ⟨nn, q⟩
    · exact absurd q.symm (zl d')
    · rw [List.getElem?_set_ne nn]; exact E.lk j d' q
  · rcases getSet e' with ⟨rfl, q⟩ | ⟨nn, q⟩
    · rw [List.getElem?_set_self (by rw [E.len]; exact set_lt e'), zt d' q.symm]
    · rw [List.getElem?_set_ne nn]; exact E.lt j d' q
theorem Ev.step2 (E : Ev K H0 G0 G H σ Δ A) {i : Nat} {v : V} {z : Sl} {d' : Tn} {S : AS} (zo : z.own = some d') (zl : ∀ d, z ≠ .lk d) (zt : ∀ d, z = .lt d → σ[i]? = some (some (.ref (H0.b i)))) (ms : MStep2 (A i) G H G' H') (s : σ[i]? = some (some v)) (fr : ∀ a, S a → (A i a ∨ H a = none) ∧ G' a = none ∧ H' a ≠ none) (t : Ow K G' H' v d' S) :
    Ev K H0 G0 G' H' σ (Δ.set i z) (setA A i S) := by
  have st : Step G0 H0.h G' H' := ⟨fun b o q => ms.hh b o (fun hb => by rw [(E.out i b hb).2.1] at q; cases q) (E.st.hh b o q), ms.gh, E.st.gg.trans ms.gg,
    fun b n z => ms.nw b (fun hb => z (E.out i b hb).2.1) (E.st.nw b n z) fun q => z (E.st.hh.free q)⟩
  refine ⟨st, by rw [List.length_set]; exact E.len, fun j d2 e' => ?_, fun j z' d2 e' zo' => ?_, fun j a ha => ?_, fun j j' a h1 h2 => ?_, fun j d2 e' => ?_, fun j d2 e' => ?_⟩
  · rcases getSet e' with ⟨rfl, q⟩ | ⟨nn, q⟩
    · subst q; cases zo
    · obtain ⟨v', e1, r'⟩ := E.sh j d2 q
      exact ⟨v', e1, r'.mono ms.gg⟩
  · rcases getSet e' with ⟨rfl, q⟩ | ⟨nn, q⟩
    · subst q
      rw [zo] at zo'
      cases zo'
      exact ⟨v, s, by rw [setA_same]; exact t⟩
    · obtain ⟨v', e1, x⟩ := E.ow j z' d2 q zo'
      rw [setA_ne (Ne.symm nn)]
      exact ⟨v', e1, x.mono ms.gg (fun b o hb q => ms.hh b o (fun hi => nn (E.dj i j b hi hb)) q) fun _ q => q⟩
  · by_cases z : j = i
    · subst z
      rw [setA_same] at ha
      obtain ⟨a1, a2, a3⟩ := fr a ha
      refine ⟨a2, ?_, a3⟩
      rcases a1 with a1 | a1
      · exact (E.out j a a1).2.1
      · exact E.st.hh.free a1
    · rw [setA_ne z] at ha
      obtain ⟨h1, h2, h3⟩ := E.out j a ha
      have hn : ¬ A i a := fun hb => z (E.dj j i a ha hb)
      refine ⟨ms.nw a hn h1 h3, h2, fun q => ?_⟩
      cases e : H a with
      | none => exact h3 e
      | some o => rw [ms.hh a o hn e] at q; cases q
  · have own : ∀ k, k ≠ i → A k a → ¬ S a := fun k nk hk hs => by
      rcases (fr a hs).1 with q | q
      · exact nk (E.dj k i a hk q)
      · exact (E.out k a hk).2.2 q
    by_cases z : j = i
    · by_cases z' : j' = i
      · rw [z, z']
      · rw [z, setA_same] at h1
        rw [setA_ne z'] at h2
        exact absurd h1 (own j' z' h2)
    · by_cases z' : j' = i
      · rw [setA_ne z] at h1
        rw [z', setA_same] at h2
        exact absurd h2 (own j z h1)
      · rw [setA_ne z] at h1
        rw [setA_ne z'] at h2
        exact E.dj j j' a h1 h2
  · rcases getSet e' with ⟨rfl, q⟩ | ⟨nn, q⟩
    · exact absurd q.symm (zl d2)
    · exact E.lk j d2 q
  · rcases getSet e' with ⟨rfl, q⟩ | ⟨nn, q⟩
    · exact zt d2 q.symm
    · exact E.lt j d2 q
theorem Ev.step (E : Ev K H0 G0 G H σ Δ A) {i : Nat} {v : V} {z : Sl} {d' : Tn} {S : AS} (zo : z.own = some d') (zl : ∀ d, z ≠ .lk d) (ms : MStep (A i) G H G' H') (s : σ[i]? = some (some v)) (fr : ∀ a, S a → (A i a ∨ H a = none) ∧ G' a = none ∧ H' a ≠ none) (t : Ow K G' H' v d' S) (zt : ∀ d, z ≠ .lt d := by intro _ z; cases z) :
    Ev K H0 G0 G' H' σ (Δ.set i z) (setA A i S) := E.step2 zo zl (fun d e => absurd e (zt d)) ms.weak s fr t
theorem Ev.writeL (E : Ev K H0 G0 G H σ Δ A) {i : Nat} {a : Addr} {vs : List V} {ds : List D} (s : σ[i]? = some (some (.ref a))) (m : A i a) (r : HasL K G vs ds) : Ev K H0 G0 G (upd H a (.lst vs)) σ (Δ.set i (.ow (.lst ds))) (setA A i (A i)) :=
  have ms := MStep.write E.st.gh m (E.out i a m).1 (.lst vs)
  E.step rfl (fun _ z => by cases z) ms s (fun b hb => ⟨.inl hb, (E.out i b hb).1, ms.al b (E.out i b hb).2.2⟩) (Ow.list upd_same m r)
theorem Ev.writeD (E : Ev K H0 G0 G H σ Δ A) {i : Nat} {a : Addr} {kvs : List (Key × V)} {kds : List (Key × D)} (s : σ[i]? = some (some (.ref a))) (m : A i a) (hk : kvs.map (·.1) = kds.map (·.1)) (r : HasL K G (kvs.map (·.2)) (kds.map (·.2))) : Ev K H0 G0 G (upd H a (.dK kvs)) σ (Δ.set i (.ow (.dic kds))) (setA A i (A i)) :=
  have ms := MStep.write E.st.gh m (E.out i a m).1 (.dK kvs)
  E.step rfl (fun _ z => by cases z) ms s (fun b hb => ⟨.inl hb, (E.out i b hb).1, ms.al b (E.out i b hb).2.2⟩) (Ow.dict upd_same hk m r)
end

noncomputable def give1 (Δ : SE) (j : Nat) : SE := match Δ[j]? with
  | some s => Δ.set j s.give
  | none => Δ
noncomputable def gsome (js : List Nat) (Δ : SE) : SE := js.foldl give1 Δ
section
variable {K : PySem.W.Frag} {H0 : HB} {G0 G H : Hp} {σ : Sg} {Δ : SE} {A : OS}
theorem set_same {α : Type} {l : List α} {j : Nat} {x : α} (h : l[j]? = some x) : l.set j x = l := by
  apply List.ext_getElem?
  intro i
  by_cases e : j = i
  · subst e
    have hlt : j < l.length := (List.getElem?_eq_some_iff.mp h).1
    rw [List.getElem?_set_self hlt, h]
  · rw [List.getElem?_set_ne e]
theorem Ev.give3 (E : Ev K H0 G0 G H σ Δ A) {j : Nat} {z : Sl} {t : Tn} (e : Δ[j]? = some z) (zo : z.own = some t) : Same G (joinG G H (A j)) ∧ Ev K H0 G0 (joinG G H (A j)) H σ (Δ.set j (.sh t.d)) (setA A j fun _ => False) := by
      obtain ⟨v, s1, t⟩ := E.ow j z t e zo
      have sg : Same G (joinG G H (A j)) := fun b o q => by
        unfold joinG
        split
        · rename_i hb; rw [(E.out j b hb).1] at q; cases q
        · exact q
      have gh : Same (joinG G H (A j)) H := fun b o q => by
        unfold joinG at q
        split at q
        · exact q
        · exact E.st.gh b o q
      refine ⟨sg, ⟨E.st.hh, gh, E.st.gg.trans sg, fun b h1 h2 => ?_⟩, by rw [List.length_set]; exact E.len, fun i d' e' => ?_, fun i z' d' e' zo' => ?_, fun i b hb => ?_, fun i i' b h1 h2 => ?_, fun i d' e' => ?_, fun i d' e' => ?_⟩
      · unfold joinG
        split
        · rename_i hb; exact absurd (E.out j b hb).2.1 h2
        · exact E.st.nw b h1 h2
      · rcases getSet e' with ⟨rfl, q⟩ | ⟨n, q⟩
        · cases q
          refine ⟨v, s1, t.has sg fun b o hb q => ?_⟩
          unfold joinG
          rw [if_pos hb]
          exact q
        · obtain ⟨v', e1, r⟩ := E.sh i d' q
          exact ⟨v', e1, r.mono sg⟩
      · rcases getSet e' with ⟨rfl, q⟩ | ⟨n, q⟩
        · subst q; cases zo'
        · obtain ⟨v', e1, t'⟩ := E.ow i z' d' q zo'
          rw [setA_ne (Ne.symm n)]
          exact ⟨v', e1, t'.mono sg (fun b o _ q => q) fun _ q => q⟩
      · by_cases z : i = j
        · subst z; rw [setA_same] at hb; exact hb.elim
        · rw [setA_ne z] at hb
          obtain ⟨k1, k2, k3⟩ := E.out i b hb
          refine ⟨?_, k2, k3⟩
          unfold joinG
          rw [if_neg fun q => z (E.dj i j b hb q)]
          exact k1
      · by_cases z : i = j
        · subst z; rw [setA_same] at h1; exact h1.elim
        · by_cases z' : i' = j
          · subst z'; rw [setA_same] at h2; exact h2.elim
          · rw [setA_ne z] at h1
            rw [setA_ne z'] at h2
            exact E.dj i i' b h1 h2
      · rcases getSet e' with ⟨rfl, q⟩ | ⟨n, q⟩
        · cases q
        · exact E.lk i d' q
      · rcases getSet e' with ⟨rfl, q⟩ | ⟨n, q⟩
        · cases q
        · exact E.lt i d' q
theorem Ev.give2 (E : Ev K H0 G0 G H σ Δ A) {j : Nat} {z : Sl} {t : Tn} (e : Δ[j]? = some z) (zo : z.own = some t) : ∃ G' A', Same G G' ∧ Ev K H0 G0 G' H σ (Δ.set j (.sh t.d)) A' := ⟨_, _, E.give3 e zo⟩
theorem Ev.give1 (E : Ev K H0 G0 G H σ Δ A) (j : Nat) : ∃ G' A', Same G G' ∧ Ev K H0 G0 G' H σ (L3.give1 Δ j) A' := by
  unfold L3.give1
  cases e : Δ[j]? with
  | none => exact ⟨G, A, Same.refl _, E⟩
  | some s =>
    cases s with
    | no => exact ⟨G, A, Same.refl _, by show Ev K H0 G0 G H σ (Δ.set j .no) A; rw [set_same e]; exact E⟩
    | sh d => exact ⟨G, A, Same.refl _, by show Ev K H0 G0 G H σ (Δ.set j (.sh d)) A; rw [set_same e]; exact E⟩
    | ow d =>
      have := E.give2 e (t := Tn.of d) rfl
      rw [Tn.of_d] at this
      exact this
    | tr t => exact E.give2 e rfl
    | lk d => exact ⟨G, A, Same.refl _, by show Ev K H0 G0 G H σ (Δ.set j (.lk d)) A; rw [set_same e]; exact E⟩
    | lt t => exact ⟨G, A, Same.refl _, by show Ev K H0 G0 G H σ (Δ.set j (.lt t)) A; rw [set_same e]; exact E⟩
theorem Ev.gsome : ∀ (js : List Nat) {G : Hp} {Δ : SE} {A : OS}, Ev K H0 G0 G H σ Δ A → ∃ G' A', Same G G' ∧ Ev K H0 G0 G' H σ (L3.gsome js Δ) A'
  | [], G, Δ, A, E => ⟨G, A, Same.refl _, E⟩
  | j :: js, G, Δ, A, E => by
    obtain ⟨G1, A1, s1, E1⟩ := E.give1 j
    obtain ⟨G2, A2, s2, E2⟩ := Ev.gsome js E1
    exact ⟨G2, A2, s1.trans s2, E2⟩
end

noncomputable def Fin (K : PySem.W.Frag) (EX : EXS) (H0 : HB) (G0 G1 : Hp) (D : Ends) : Fl → Prop
  | .nx Δ => ∀ σ G H O, Ev K H0 G0 G H σ Δ O → Same G1 G → D.nx σ H
  | .bk Δ => ∀ σ G H O, Ev K H0 G0 G H σ Δ O → Same G1 G → D.bk σ H
  | .ct Δ => ∀ σ G H O, Ev K H0 G0 G H σ Δ O → Same G1 G → D.ct σ H
  | .rt w => WP K G0 H0.h w D.rt
  | .ex x Δ => ∀ σ G H O, Ev K H0 G0 G H σ Δ O → Same G1 G → (EX σ).p x G H
  | .no => False
theorem Fin.mono {K : PySem.W.Frag} {EX : EXS} {H0 : HB} {G0 G1 G2 : Hp} {D : Ends} {r : Fl} (s : Same G1 G2) (h : Fin K EX H0 G0 G1 D r) : Fin K EX H0 G0 G2 D r := by
  cases r with
  | nx Δ => exact fun σ G H O E q => h σ G H O E (s.trans q)
  | bk Δ => exact fun σ G H O E q => h σ G H O E (s.trans q)
  | ct Δ => exact fun σ G H O E q => h σ G H O E (s.trans q)
  | rt w => exact h
  | ex x Δ => exact fun σ G H O E q => h σ G H O E (s.trans q)
  | no => exact h
noncomputable def tS (K : PySem.W.Frag) (EX : EXS) (g : FS) : TS := fun D σ H => ∃ H0 G0 G Δ O, Ev K H0 G0 G H σ Δ O ∧ Fin K EX H0 G0 G D (g Δ)
noncomputable abbrev SD (X : Cx) (EX : EXS) (st : Stmt) (g : FS) : Prop := PS X st (tS X.K EX g)
noncomputable abbrev BD (X : Cx) (EX : EXS) (st : List Stmt) (g : FS) : Prop := PSs X st (tS X.K EX g)
section
variable {X : Cx} {EX : EXS} {st : Stmt} {sts : List Stmt} {g h : FS} {pos : Pos} {e : Expr} {f : FE} {p : FT}

noncomputable def sNil : FS := fun Δ => .nx Δ
noncomputable def sSeq (g h : FS) : FS := fun Δ => match g Δ with
  | .nx Δ' => h Δ'
  | r => r
theorem bd_nil : BD X EX [] sNil := PSs.imp pss_nil fun D σ H ⟨H0, G0, G, Δ, O, E, q⟩ => q σ G H O E (Same.refl _)
theorem bd_one (h1 : SD X EX st g) : BD X EX [st] g := pss_one h1
theorem bd_cons (h1 : SD X EX st g) (h2 : BD X EX sts h) : BD X EX (st :: sts) (sSeq g h) :=
  PSs.imp (pss_cons h1 h2) fun D σ H ⟨H0, G0, G, Δ, O, E, q⟩ => by
    refine ⟨H0, G0, G, Δ, O, E, ?_⟩
    unfold sSeq at q
    cases e : g Δ with
    | nx Δ' => rw [e] at q; exact fun σ' G' H' O' E' sm => ⟨H0, G0, G', Δ', O', E', Fin.mono sm q⟩
    | bk Δ' => rw [e] at q; exact q
    | ct Δ' => rw [e] at q; exact q
    | rt w => rw [e] at q; exact q
    | ex x Δ' => rw [e] at q; exact q
    | no => rw [e] at q; exact q
noncomputable def exG (js : List Nat) (f : FE) (Δ : SE) : Fl := match f (vsh (gsome js Δ)) with
  | .ex x => .ex x (gsome js Δ)
  | _ => .no
noncomputable def exT (js : List Nat) (p : FT) (Δ : SE) : Fl := match p (vsh (gsome js Δ)) with
  | .ex x => .ex x (gsome js Δ)
  | _ => .no
theorem exG_core {K : PySem.W.Frag} {H0 : HB} {G0 G G1 H : Hp} {σ : Sg} {Δ : SE} {O : OS} {D : Ends} {js : List Nat} {Q : VK} (E : Ev K H0 G0 G H σ Δ O) (sg : Same G1 G) (q : Fin K EX H0 G0 G1 D (exG js f Δ)) : tD K EX f σ H Q := by
  obtain ⟨G', O', s', E'⟩ := E.gsome js
  refine ⟨G', vsh (gsome js Δ), E'.st.gh, E'.gsh, ?_⟩
  unfold exG at q
  cases e : f (vsh (gsome js Δ)) with
  | ok w => rw [e] at q; exact q.elim
  | ex x => rw [e] at q; exact q σ G' H O' E' (sg.trans s')
  | no => rw [e] at q; exact q.elim
theorem exT_core {K : PySem.W.Frag} {H0 : HB} {G0 G G1 H : Hp} {σ : Sg} {Δ : SE} {O : OS} {D : Ends} {js : List Nat} {Q : Bool → Hp → Prop} (E : Ev K H0 G0 G H σ Δ O) (sg : Same G1 G) (q : Fin K EX H0 G0 G1 D (exT js p Δ)) : tDt K EX p σ H Q := by
  obtain ⟨G', O', s', E'⟩ := E.gsome js
  refine ⟨G', vsh (gsome js Δ), E'.st.gh, E'.gsh, ?_⟩
  unfold exT at q
  cases e : p (vsh (gsome js Δ)) with
  | ok w => rw [e] at q; exact q.elim
  | ex x => rw [e] at q; exact q σ G' H O' E' (sg.trans s')
  | no => rw [e] at q; exact q.elim

noncomputable def sRet (js : List Nat) (f : FE) : FS := fun Δ => match f (vall Δ) with
  | .ok w => .rt w
  | .ex _ => exG js f Δ
  | .no => .no
theorem sd_ret (js : List Nat) (he : ED X EX e f) : SD X EX (.Return (some e) pos) (sRet js f) :=
  PS.imp (ps_ret he) fun D σ H ⟨H0, G0, G, Δ, O, E, q⟩ => by
    unfold sRet at q
    cases e1 : f (vall Δ) with
    | ok w =>
      rw [e1] at q
      exact ⟨allG G H O, vall Δ, E.aH, E.gall, by rw [e1]; exact WP.mono E.aStep q⟩
    | ex x => rw [e1] at q; exact exG_core E (Same.refl _) q
    | no => rw [e1] at q; exact q.elim
noncomputable def sRetV (i : Nat) : FS := fun Δ => match Δ[i]? with
  | some (.sh d) => .rt (.sh d)
  | some (.ow d) => .rt (.ow d)
  | some (.tr t) => .rt (.tr t)
  | _ => .no
theorem sd_retV (i : Nat) {x : Str} {pos pos' : Pos} (hN : X.N[i]? = some x := by rfl) (hv : Vis X.env.scope x := by first | exact Or.inl rfl | exact Or.inr (Or.inl rfl) | exact Or.inr (Or.inr rfl)) (hd : (x == ("__debug__" : Str)) = false := by decide)
    (hcd : (x == ("__classdict__" : Str)) = false := by decide) : SD X EX (.Return (some (.Name x pos)) pos') (sRetV i) :=
  PS.imp (ps_ret (pe_var hN hv hd hcd)) fun D σ H ⟨H0, G0, G, Δ, O, E, q⟩ => by
    unfold sRetV at q
    split at q
    · rename_i d e
      obtain ⟨v, e1, r⟩ := E.sh i d e
      exact ⟨v, e1, (WP.mono (w := .sh d) (Q := D.rt) E.st q).use E.st.gh r⟩
    · rename_i d e
      obtain ⟨v, e1, t⟩ := E.ow i _ _ e rfl
      exact ⟨v, e1, q v (O i) G H E.st (fun a ha => let ⟨h1, h2, h3⟩ := E.out i a ha; ⟨h2, h1, h3⟩) t⟩
    · rename_i d e
      obtain ⟨v, e1, t⟩ := E.ow i _ _ e rfl
      exact ⟨v, e1, q v (O i) G H E.st (fun a ha => let ⟨h1, h2, h3⟩ := E.out i a ha; ⟨h2, h1, h3⟩) t⟩
    · exact q.elim

noncomputable def sPut (i : Nat) (Δ : SE) : R W → Fl
  | .ok (.sh d) => .nx (Δ.set i (.sh d))
  | .ok (.ow d) => .nx (Δ.set i (.ow d))
  | .ok (.tr t) => .nx (Δ.set i (.tr t))
  | .ex x => .ex x Δ
  | .no => .no
noncomputable def sSet (i : Nat) (js : List Nat) (f : FE) : FS := fun Δ => match f (vsh Δ) with
  | .ok (.sh d) => .nx (Δ.set i (.sh d))
  | .ok (.ow d) => .nx (Δ.set i (.ow d))
  | .ok (.tr t) => .nx (Δ.set i (.tr t))
  | .ex x => .ex x Δ
  | .no => match f (vall Δ) with
    | .ex _ => sPut i (gsome js Δ) (f (vsh (gsome js Δ)))
    | .no => .no
    | .ok w => if flatD w.d = true then .nx (Δ.set i (.sh w.d)) else sPut i (gsome js Δ) (f (vsh (gsome js Δ)))
theorem set_one {K : PySem.W.Frag} {H0 : HB} {G0 G G1 H : Hp} {σ : Sg} {Δ : SE} {O : OS} {D : Ends} {i : Nat} (E : Ev K H0 G0 G H σ Δ O) (sg : Same G1 G)
    (q : Fin K EX H0 G0 G1 D (sPut i Δ (f (vsh Δ)))) : tAsg (tD K EX f) (gName i) D σ H := by
  refine ⟨G, vsh Δ, E.st.gh, E.gsh, ?_⟩
  unfold sPut at q
  cases e1 : f (vsh Δ) with
  | ok w =>
    rw [e1] at q
    cases w with
    | sh d => exact fun v G' H' st r => q _ G' H' O ((E.grow st).put r) (sg.trans st.gg)
    | ow d =>
      intro v S G' H' st fr t
      exact q _ G' H' _ ((E.grow st).putO (fun a ha => ⟨E.st.hh.free (fr a ha).1, (fr a ha).2⟩) rfl (fun _ z => by cases z) t fun j a hj hs => (E.out j a hj).2.2 (fr a hs).1) (sg.trans st.gg)
    | tr d =>
      intro v S G' H' st fr t
      exact q _ G' H' _ ((E.grow st).putO (fun a ha => ⟨E.st.hh.free (fr a ha).1, (fr a ha).2⟩) rfl (fun _ z => by cases z) t fun j a hj hs => (E.out j a hj).2.2 (fr a hs).1) (sg.trans st.gg)
  | ex x => rw [e1] at q; exact q σ G H O E sg
  | no => rw [e1] at q; exact q
theorem set_core {K : PySem.W.Frag} {D : Ends} {σ : Sg} {H : Hp} {i : Nat} {js : List Nat} (q : tS K EX (sSet i js f) D σ H) : tAsg (tD K EX f) (gName i) D σ H := by
  obtain ⟨H0, G0, G, Δ, O, E, q⟩ := q
  unfold sSet at q
  cases e1 : f (vsh Δ) with
  | ok w =>
    rw [e1] at q
    refine set_one E (Same.refl _) ?_
    unfold sPut
    rw [e1]
    cases w <;> exact q
  | ex x =>
    rw [e1] at q
    refine set_one E (Same.refl _) ?_
    unfold sPut
    rw [e1]
    exact q
  | no =>
    rw [e1] at q
    cases e2 : f (vall Δ) with
    | ok w =>
      simp only [e2] at q
      split at q
      · rename_i fl
        refine ⟨allG G H O, vall Δ, E.aH, E.gall, ?_⟩
        rw [e2]
        exact WP.intro fun v G' H' st r => q _ G H' O ((E.keep st.hh).put (r.ofFl fl)) (Same.refl _)
      · obtain ⟨G', O', sg, E'⟩ := E.gsome js
        exact set_one E' sg q
    | ex x =>
      simp only [e2] at q
      obtain ⟨G', O', sg, E'⟩ := E.gsome js
      exact set_one E' sg q
    | no => simp only [e2] at q; exact q.elim
theorem sd_set {i : Nat} (js : List Nat) {x : Str} {pos' : Pos} (he : ED X EX e f) (hN : X.N.Nodup) (hi : X.N[i]? = some x := by rfl) (hx : Loc X.env.scope x := by first | exact Or.inl rfl | exact Or.inr rfl) (hs : swapsWith e (some (.Name x pos')) pos.line X.env = pure false := by rfl)
    (hf : X.fn x = true ∨ X.env.scope.names.lookup x = some .local := by first | exact .inl rfl | exact .inr rfl | assumption) : SD X EX (.Assign [.Name x pos'] e pos) (sSet i js f) :=
  PS.imp (ps_set hN hi hx he hs hf) fun D σ H q => set_core q

noncomputable def sExpr (js : List Nat) (f : FE) : FS := fun Δ => match f (vall Δ) with
  | .ok _ => .nx Δ
  | .ex _ => exG js f Δ
  | .no => .no
noncomputable def sIf (js : List Nat) (p : FT) (g h : FS) : FS := fun Δ => match p (vall Δ) with
  | .ok b => if b = true then g Δ else h Δ
  | .ex _ => exT js p Δ
  | .no => .no
theorem test_core {K : PySem.W.Frag} {H0 : HB} {G0 G H : Hp} {σ : Sg} {Δ : SE} {O : OS} {D : Ends} {k : Bool → Fl} {P : Bool → Hp → Prop} {js : List Nat} (E : Ev K H0 G0 G H σ Δ O)
    {G1 : Hp} (sg : Same G1 G) (q : Fin K EX H0 G0 G1 D (match p (vall Δ) with | .ok b => k b | .ex _ => exT js p Δ | .no => .no)) (i : ∀ b H', p (vall Δ) = .ok b → Ev K H0 G0 G H' σ Δ O → Fin K EX H0 G0 G1 D (k b) → P b H') : tDt K EX p σ H P := by
  cases e1 : p (vall Δ) with
  | ok b => rw [e1] at q; exact ⟨allG G H O, vall Δ, E.aH, E.gall, by rw [e1]; exact fun G' H' st => i b H' e1 (E.keep st.hh) q⟩
  | ex x => rw [e1] at q; exact exT_core E sg q
  | no => rw [e1] at q; exact q.elim
theorem sd_if (js : List Nat) {c : Expr} {as bs : List Stmt} (hc : TD X EX c p) (ha : BD X EX as g) (hb : BD X EX bs h) : SD X EX (.If c as bs pos) (sIf js p g h) :=
  PS.imp (ps_if hc ha hb) fun D σ H ⟨H0, G0, G, Δ, O, E, q⟩ => test_core (k := fun b => if b = true then g Δ else h Δ) E (Same.refl _) q fun b H' _ E' q' => by
    cases b with
    | true => rw [if_pos rfl]; exact ⟨H0, G0, G, Δ, O, E', q'⟩
    | false => rw [if_neg Bool.false_ne_true]; exact ⟨H0, G0, G, Δ, O, E', q'⟩

noncomputable def sWhile (js : List Nat) (p : FT) (g : FS) : Nat → FS
  | 0 => fun _ => .no
  | n + 1 => fun Δ => match p (vall Δ) with
    | .ok b => if b = true then (match g Δ with
        | .nx Δ' => sWhile js p g n Δ'
        | .ct Δ' => sWhile js p g n Δ'
        | .bk Δ' => .nx Δ'
        | r => r) else .nx Δ
    | .ex _ => exT js p Δ
    | .no => .no
theorem sd_while (js : List Nat) (n : Nat) {c : Expr} {body : List Stmt} (hp : PassesOwn (model X.prog X.w) X.A X.env X.xe) (hc : TD X EX c p) (hb : BD X EX body g) : SD X EX (.While c body [] pos) (sWhile js p g n) :=
  PS.imp (ps_while hp hc hb) fun D σ H ⟨H0, G0, G1, Δ, O, E, q⟩ => by
    refine ⟨fun m σ H => ∃ G Δ O, Ev X.K H0 G0 G H σ Δ O ∧ Same G1 G ∧ Fin X.K EX H0 G0 G1 D (sWhile js p g m Δ), ⟨n, G1, Δ, O, E, Same.refl _, q⟩, ?_⟩
    rintro m σ H ⟨G, Δ, O, E, sg, q⟩
    cases m with
    | zero => exact False.elim q
    | succ m =>
      refine test_core (k := fun b => if b = true then (match g Δ with | .nx Δ' => sWhile js p g m Δ' | .ct Δ' => sWhile js p g m Δ' | .bk Δ' => .nx Δ' | r => r) else .nx Δ) E sg q fun b H' _ E' q' => ?_
      cases b with
      | false => rw [if_neg Bool.false_ne_true]; exact q' σ G H' O E' sg
      | true =>
        rw [if_pos rfl]
        rw [if_pos rfl] at q'
        refine ⟨fun σ' H' => ∃ G Δ O, Ev X.K H0 G0 G H' σ' Δ O ∧ Same G1 G ∧ Fin X.K EX H0 G0 G1 D (sWhile js p g m Δ), fun σ' H' w => ⟨m, Nat.lt_succ_self _, w⟩, H0, G0, G, Δ, O, E', ?_⟩
        cases e1 : g Δ with
        | nx Δ' => rw [e1] at q'; exact fun σ' G' H' O' E2 s2 => ⟨G', Δ', O', E2, sg.trans s2, q'⟩
        | ct Δ' => rw [e1] at q'; exact fun σ' G' H' O' E2 s2 => ⟨G', Δ', O', E2, sg.trans s2, q'⟩
        | bk Δ' => rw [e1] at q'; exact Fin.mono (r := .nx Δ') sg q'
        | rt w => rw [e1] at q'; exact q'
        | ex x Δ' => rw [e1] at q'; exact Fin.mono (r := .ex x Δ') sg q'
        | no => rw [e1] at q'; exact q'
end

noncomputable def start3 (n : Nat) (ds : List D) : SE := ds.map Sl.sh ++ List.replicate (n - ds.length) .no
noncomputable def bodyD (n : Nat) (g : FS) (ds : List D) : R W := match g (start3 n ds) with
  | .nx _ => .ok (.sh .non)
  | .rt w => .ok w
  | .ex x _ => .ex x
  | _ => .no
theorem ev_start {K : PySem.W.Frag} {G H : Hp} {vs : List V} {ds : List D} {N : List Str} (g : Same G H) (r : HasL K G vs ds) : Ev K ⟨H, fun _ => 0⟩ G G H (L2.start N vs) (start3 N.length ds) (fun _ _ => False) := by
  refine ⟨Step.refl g, ?_, fun i d e => ?_, fun i z d e zo => ?_, fun _ _ ha => ha.elim, fun _ _ _ ha => ha.elim, fun i d e => ?_, fun i d e => ?_⟩
  · unfold L2.start start3
    simp only [List.length_append, List.length_map, List.length_replicate, r.length]
  · unfold start3 at e
    by_cases hi : i < ds.length
    · rw [List.getElem?_append_left (by rw [List.length_map]; exact hi), List.getElem?_map] at e
      cases q : ds[i]? with
      | none => rw [q] at e; cases e
      | some d' =>
        rw [q] at e
        cases e
        obtain ⟨v, e1, h⟩ := r.get q
        refine ⟨v, ?_, h⟩
        unfold L2.start
        rw [List.getElem?_append_left (by rw [List.length_map, r.length]; exact hi), List.getElem?_map, e1]
        rfl
    · rw [List.getElem?_append_right (by rw [List.length_map]; omega), List.getElem?_replicate] at e
      split at e <;> cases e
  · exfalso
    unfold start3 at e
    by_cases hi : i < ds.length
    · rw [List.getElem?_append_left (by rw [List.length_map]; exact hi), List.getElem?_map] at e
      cases q : ds[i]? with
      | none => rw [q] at e; cases e
      | some d' => rw [q] at e; cases e; cases zo
    · rw [List.getElem?_append_right (by rw [List.length_map]; omega), List.getElem?_replicate] at e
      split at e
      · cases e; cases zo
      · cases e
  · exfalso
    unfold start3 at e
    by_cases hi : i < ds.length
    · rw [List.getElem?_append_left (by rw [List.length_map]; exact hi), List.getElem?_map] at e
      cases q : ds[i]? with
      | none => rw [q] at e; cases e
      | some d' => rw [q] at e; cases e
    · rw [List.getElem?_append_right (by rw [List.length_map]; omega), List.getElem?_replicate] at e
      split at e <;> cases e
  · exfalso
    unfold start3 at e
    by_cases hi : i < ds.length
    · rw [List.getElem?_append_left (by rw [List.length_map]; exact hi), List.getElem?_map] at e
      cases q : ds[i]? with
      | none => rw [q] at e; cases e
      | some d' => rw [q] at e; cases e
    · rw [List.getElem?_append_right (by rw [List.length_map]; omega), List.getElem?_replicate] at e
      split at e <;> cases e
theorem fn_D {c : Bool} {P : Program} {w : World} {K : PySem.W.Frag} {mg : Str → Option Value} {base : Heap} {x qual : Str} {st : Stmt} {f : Addr} {fd : FuncData} {N ps : List Str} {k : Nat} {g : FS} (F : Fun K x qual st f fd) (S : FnScope N ps (defScope st))
    (hbody : ∀ (cdv : Value) (A : Around) (outer : List Env) (s : Shared) (H : Hp) (E : XK), RoomC c k (A.deeper (envOfC qual (defScope st) s.heap.objs.size f cdv)) →
      BD (cxN c P w K mg base N qual (defScope st) f cdv A outer s H E) (fun _ => EXof K E) (defBody st) g) : FnX P w K mg base c (k + 1) f fd ps (spX K ps.length (bodyD N.length g)) := by
  refine Fun.okX F S (fun vs H Q E h => h.1) fun cdv A outer s H vs Q E hr h => ⟨_, hbody cdv A outer s H E hr, ?_⟩
  obtain ⟨hl, G, ds, g0, r, o⟩ := h
  refine ⟨⟨H, fun _ => 0⟩, G, G, _, _, ev_start g0 r, ?_⟩
  unfold bodyD at o
  cases e : g (start3 N.length ds) with
  | nx Δ => rw [e] at o; exact fun σ G' H' O E' _ => (WP.mono (w := .sh .non) (Q := Q) E'.st o).use E'.st.gh .non
  | rt w => rw [e] at o; exact o
  | ex x Δ => rw [e] at o; exact fun σ G' H' O E' _ => (EXof K E).mono _ _ _ _ _ E'.st o
  | bk Δ => rw [e] at o; exact o.elim
  | ct Δ => rw [e] at o; exact o.elim
  | no => rw [e] at o; exact o
theorem fnd_mk {c : Bool} {P : Program} {w : World} {K : PySem.W.Frag} {mg : Str → Option Value} {base : Heap} {x : Str} {st : Stmt} {f : Addr} {fd : FuncData} {ps : List Str} {k : Nat} {Fn : List D → R W} (F : Fun K x x st f fd) (hm : mg x = some (.ref f)) (hb : Binds K fd ps [])
    (ok : FnX P w K mg base c k f fd ps (spX K ps.length Fn)) : FnD P w K mg base c x k ps Fn := ⟨f, fd, ok, hm, F.kp, hb⟩
end L3

namespace L3
open PySem PySem.Spec PyProof.Rows L2

noncomputable def strIt (x : Str) : It := ⟨fun i _ => i < x.cps.size, fun i H v H' => H' = H ∧ ∃ c, x.cps[i]? = some c ∧ v = .str ⟨#[c]⟩, fun i _ => i = x.cps.size⟩
theorem turn_walks {P : Program} {w : World} {K : PySem.W.Frag} {tg : Expr} {it : Addr} {n : Nat} {Pv : Nat → Value → Prop} {St : Nat → Heap → Prop} {J : It}
    (W : ∀ A' : Around, A'.handled = none → Walks P w A' it [it] [it] n Pv St)
    (hobj : ∀ i h, St i h → ∃ o nm vs, h.get? it = some o ∧ o.cls = .type nm ∧ o.data = .fields vs ∧ ["enumerate", "zip", "dict_itemiterator", "dict_reverseitemiterator", "odict_iterator", "itertools.zip_longest", "itertools.pairwise"].contains nm = false)
    (hkeep : ∀ (i : Nat) (h h' : Heap), St i h → (∀ b ∈ [it], ∀ o, h.get? b = some o → h'.get? b = some o) → St i h') (hself : ∀ (A : Around) (i : Nat) (s : Shared) (Q E : Value → Shared → Prop), St i s.heap → Q (.ref it) s → wpAny (model P w) A (pyIter (.ref it)) Q E s)
    (hgo : ∀ i H, J.go i H → i < n) (hst : ∀ i H, J.stop i H → i = n) (hy : ∀ i H u, Pv i u → ∃ x, RelV x u ∧ J.yld i H x H) : Turn P w K tg J [it] it St where
  mem := by simp
  obj := fun i h st b hb => by
    have e : b = it := by simpa using hb
    subst e
    obtain ⟨o, nm, vs, e, c, d, _⟩ := hobj i h st
    exact ⟨o, e, fun v z => by rw [d] at z; cases z⟩
  keep := hkeep
  item := by
    intro X hP hw hK hc i pins s σ H E I hf st hg
    subst hP hw hK
    obtain ⟨f0, f1, f2, f3, f4, f5⟩ := hf it (by simp)
    refine (W X.A (I.ok.hd hc)).item i s _ _ (hgo i H hg) st fun v h' tk hv st' kk => ?_
    have I1 : Inv X pins σ H { s with heap := h', toks := tk } := I.turned (fun b o hb e => kk b o (by simpa using hb) e) f0 f1 f3 f4 f5
    obtain ⟨x, rx, yx⟩ := hy i H v hv
    obtain ⟨o, nm, vs, e, c, d, hn⟩ := hobj (i + 1) h' st'
    exact ⟨v, rfl, go_of (s := { s with heap := h', toks := tk }) e c d hn ⟨x, H, I1, rx, yx, st', fun b hb => (hf b hb).1⟩⟩
  done := by
    intro X hP hw hK hc i pins s σ H E I hf st hg
    subst hP hw hK
    obtain ⟨f0, f1, f2, f3, f4, f5⟩ := hf it (by simp)
    obtain rfl := hst i H hg
    exact (W X.A (I.ok.hd hc)).done s _ _ st fun h' tk kk => ⟨rfl, I.turned (fun b o hb e => kk b o (by simpa using hb) e) f0 f1 f3 f4 f5⟩
  self := hself

noncomputable def ItD (K : PySem.W.Frag) (G1 : Hp) (J : It) (ds : List D) : Prop := ∀ G H, Same G1 G → Same G H → ∀ i,
  (∀ d, ds[i]? = some d → J.go i H ∧ ∀ x H', J.yld i H x H' → ∃ G', Step G H G' H' ∧ Has K G' x d) ∧ (ds.length = i → J.stop i H)
noncomputable abbrev FI := DE → R (List D)
noncomputable def tI (K : PySem.W.Frag) (EX : EXS) (fi : FI) : TI := fun σ H Q => ∃ G δ, Same G H ∧ HasS K G σ δ ∧ match fi δ with
  | .ok ds => ∀ J G' H', Step G H G' H' → ItD K G' J ds → Q J H'
  | .ex x => (EX σ).p x G H
  | .no => False
noncomputable abbrev ID (X : Cx) (EX : EXS) (tg iter : Expr) (fi : FI) : Prop := PI X tg iter (tI X.K EX fi)
theorem PI.imp {X : Cx} {tg e : Expr} {t t' : TI} (h : PI X tg e t) (i : ∀ σ H Q, t' σ H Q → t σ H Q) : PI X tg e t' := fun pins s σ H Q I q => h pins s σ H Q I (i σ H Q q)
section
variable {X : Cx} {EX : EXS} {tg e a b : Expr} {f : FE} {fa : FA} {p pos : Pos}
theorem tDa.seqI {K : PySem.W.Frag} {G H : Hp} {σ : Sg} {δ : DE} {k : List D → R (List D)} {Q : It → Hp → Prop} {P : List V → Hp → Prop} (g : Same G H) (s : HasS K G σ δ)
    (h : match (fa δ).bind k with | .ok ds => ∀ J G' H', Step G H G' H' → ItD K G' J ds → Q J H' | .ex x => (EX σ).p x G H | .no => False)
    (i : ∀ ds vs G' H', Step G H G' H' → HasL K G' vs ds → (match k ds with | .ok ds => ∀ J G2 H2, Step G' H' G2 H2 → ItD K G2 J ds → Q J H2 | .ex x => (EX σ).p x G' H' | .no => False) → P vs H') : tDa K EX fa σ H P := by
  refine ⟨G, δ, g, s, ?_⟩
  cases e : fa δ with
  | ok ds =>
    rw [e] at h
    simp only [R.bind_ok] at h
    refine fun vs G' H' st r => i ds vs G' H' st r ?_
    cases e2 : k ds with
    | ok ds' => rw [e2] at h; exact fun J G2 H2 st2 it => h J G2 H2 (st.trans st2) it
    | ex x => rw [e2] at h; exact (EX σ).mono _ _ _ _ _ st h
    | no => rw [e2] at h; exact h
  | ex x => rw [e] at h; exact h
  | no => rw [e] at h; exact h

noncomputable def zints (lo : Int) (n : Nat) : List D := (List.range n).map fun (k : Nat) => D.int (lo + (k : Int))
theorem zints_get {lo : Int} {n i : Nat} {d : D} (h : (zints lo n)[i]? = some d) : i < n ∧ d = .int (lo + (i : Int)) := by
  unfold zints at h
  rw [List.getElem?_map] at h
  by_cases hi : i < n
  · rw [List.getElem?_range hi] at h
    cases h
    exact ⟨hi, rfl⟩
  · rw [List.getElem?_eq_none (by rw [List.length_range]; omega)] at h
    cases h
theorem zints_len (lo : Int) (n : Nat) : (zints lo n).length = n := by unfold zints; rw [List.length_map, List.length_range]
theorem itd_range {K : PySem.W.Frag} {G : Hp} (lo : Int) (n : Nat) : ItD K G (Itr lo n) (zints lo n) := fun G' H _ g i => by
  refine ⟨fun d e => ?_, fun e => ?_⟩
  · obtain ⟨hi, rfl⟩ := zints_get e
    refine ⟨hi, fun x H' y => ?_⟩
    obtain ⟨e1, e2⟩ := y
    subst e1 e2
    exact ⟨G', Step.refl g, .int _⟩
  · rw [zints_len] at e
    exact Nat.le_of_eq e
noncomputable def rng1 : List D → R (List D)
  | [.int j] => if j.natAbs < 4611686018427387904 then .ok (zints 0 j.toNat) else .no
  | _ => .no
noncomputable def iArgs (k : List D → R (List D)) (fa : FA) : FI := fun δ => (fa δ).bind k
theorem id_range1 (hm : X.mg "range" = none) (ha : AD X EX [a] fa) (hg : Gl X "range" := by rfl) (hs : starEach [a] X.env = [(false, eval a X.env)] := by rfl) : ID X EX tg (.Call (.Name "range" p) [a] [] pos) (iArgs rng1 fa) :=
  PI.imp (pi_range1 hg hm ha hs) fun σ H Q ⟨G, δ, g0, s0, o⟩ => tDa.seqI g0 s0 o fun ds vs G' H' st r o' => by
    cases r with
    | nil => exact False.elim o'
    | cons h t =>
      cases t with
      | cons _ _ => cases h <;> exact False.elim o'
      | nil =>
        cases h with
        | int j =>
          by_cases hc : j.natAbs < 4611686018427387904
          · rw [show rng1 [.int j] = .ok (zints 0 j.toNat) from if_pos hc] at o'
            exact ⟨j, rfl, by omega, by omega, o' _ G' H' (Step.refl st.gh) (itd_range 0 j.toNat)⟩
          · rw [show rng1 [.int j] = .no from if_neg hc] at o'
            exact o'.elim
        | _ => exact False.elim o'
noncomputable def signs (x : Str) : List D := x.cps.toList.map fun c => .str ⟨#[c]⟩
noncomputable def itemsD : D → R (List D)
  | .lst ds => .ok ds
  | .tup ds => .ok ds
  | .str x => .ok (signs x)
  | _ => .no
noncomputable def iOf (f : FE) : FI := fun δ => (f δ).bind fun w => itemsD w.d
noncomputable def iAny (K : PySem.W.Frag) (tl : TE) : TI := fun σ H Q => tl σ H fun x H1 =>
  (∃ a, x = .ref a ∧ (∃ xs, SqL K H1 a xs) ∧ Q (Itl K a) H1) ∨ (∃ a, x = .ref a ∧ (∃ xs, SqT K H1 a xs) ∧ Q (Itt K a) H1) ∨ (∃ z, x = .str z ∧ Q (strIt z) H1)
theorem pi_any {l : Expr} {tl : TE} (hl : PE X l tl) : PI X tg l (iAny X.K tl) := by
  intro pins s σ H Q I h
  refine thn (hl pins s σ H _ I h) fun v s1 ⟨x, H1, I1, r1, q1⟩ => ?_
  rcases q1 with ⟨a, e, ⟨xs, hq⟩, q⟩ | ⟨a, e, ⟨xs, hq⟩, q⟩ | ⟨z, e, q⟩
  · subst e
    cases r1
    obtain ⟨its, rv, p, hz⟩ := I1.list hq
    refine wpAny_pyIter_list p.isList ?_
    refine ⟨s1.heap.objs.size, [s1.heap.objs.size], _, _, H1, rfl, I1.kept (t' := s1.toks) fun b o e => Heap.get?_push_of_some _ e, turn_list a _, ⟨_, Heap.get?_push_size _ rfl, rfl, rfl⟩, fun b hb => ?_, q⟩
    have e : b = s1.heap.objs.size := by simpa using hb
    subst e
    exact I1.fpOk (Nat.le_refl _) (I1.hok.fresh (Nat.le_refl _))
  · subst e
    cases r1
    obtain ⟨its, rv, p, hz⟩ := I1.tuple hq
    refine wpAny_pyIter_tuple (show s1.heap.IsTuple a its.toArray from p) ?_
    refine ⟨s1.heap.objs.size, [s1.heap.objs.size], _, _, H1, rfl, I1.kept (t' := s1.toks) fun b o e => Heap.get?_push_of_some _ e, turn_tuple a _, ⟨_, Heap.get?_push_size _ rfl, rfl, rfl⟩, fun b hb => ?_, q⟩
    have e : b = s1.heap.objs.size := by simpa using hb
    subst e
    exact I1.fpOk (Nat.le_refl _) (I1.hok.fresh (Nat.le_refl _))
  · subst e
    obtain ⟨t, rfl⟩ := r1
    have fin : ∀ (nm : String) (St : Nat → Heap → Prop), (∀ i h, St i h ↔ h.IsStrIter s1.heap.objs.size nm z t i) → (∀ A' : Around, A'.handled = none → Walks X.prog X.w A' s1.heap.objs.size [s1.heap.objs.size] [s1.heap.objs.size] z.cps.size (SignAt z) St) →
        ["enumerate", "zip", "dict_itemiterator", "dict_reverseitemiterator", "odict_iterator", "itertools.zip_longest", "itertools.pairwise"].contains nm = false →
        (∀ (A : Around) (i : Nat) (s : Shared) (Q E : Value → Shared → Prop), s.heap.IsStrIter s1.heap.objs.size nm z t i → Q (.ref s1.heap.objs.size) s → wpAny (model X.prog X.w) A (pyIter (.ref s1.heap.objs.size)) Q E s) →
        PIE X pins σ tg Q (.ref s1.heap.objs.size) { s1 with heap := s1.heap.push { cls := .type nm, data := .fields #[.str z t, .int 0 0] } } := by
      intro nm St hS W hn hslf
      refine ⟨s1.heap.objs.size, [s1.heap.objs.size], St, strIt z, H1, rfl, I1.kept (t' := s1.toks) fun b o e => Heap.get?_push_of_some _ e,
        turn_walks W (fun i h st => ?_) (fun i h h' st k => ?_) (fun A i s Q E st h => hslf A i s Q E ((hS _ _).mp st) h) (fun i H g => g) (fun i H g => ?_) (fun i H u hu => ?_), (hS _ _).mpr ⟨_, Heap.get?_push_size _ rfl, rfl, rfl⟩, fun b hb => ?_, q⟩
      · obtain ⟨o, ho, hc, hd⟩ := (hS _ _).mp st
        exact ⟨o, nm, _, ho, hc, hd, hn⟩
      · obtain ⟨o, ho, r⟩ := (hS _ _).mp st
        exact (hS _ _).mpr ⟨o, k _ (by simp) o ho, r⟩
      · exact g
      · obtain ⟨c, u', e1, e2⟩ := hu
        subst e2
        exact ⟨.str ⟨#[c]⟩, ⟨u', rfl⟩, rfl, c, e1, rfl⟩
      · have e : b = s1.heap.objs.size := by simpa using hb
        subst e
        exact I1.fpOk (Nat.le_refl _) (I1.hok.fresh (Nat.le_refl _))
    cases ha : z.cps.all (· < 128)
    · exact wpAny_pyIter_wide ha (fin "str_iterator" _ (fun _ _ => Iff.rfl) (fun A' hA => Walks.strWide hA _ z t) (by decide) fun A i s Q E st h => wpAny_pyIter_striter_wide st h)
    · exact wpAny_pyIter_ascii ha (fin "str_ascii_iterator" _ (fun _ _ => Iff.rfl) (fun A' hA => Walks.strAscii hA _ z t) (by decide) fun A i s Q E st h => wpAny_pyIter_striter_ascii st h)
theorem itd_list {K : PySem.W.Frag} {G : Hp} {a : Addr} {vs : List V} {ds : List D} (h : SqL K G a vs) (r : HasL K G vs ds) : ItD K G (Itl K a) ds := fun G' H g1 g i => by
  refine ⟨fun d e => ?_, fun e => ?_⟩
  · obtain ⟨v, e1, hv⟩ := r.get e
    refine ⟨⟨vs, v, (g1.trans g).seq h, e1⟩, fun x H' y => ?_⟩
    obtain ⟨e2, y⟩ := y
    subst e2
    have e3 := y vs ((g1.trans g).seq h)
    rw [e1] at e3
    cases e3
    exact ⟨G', Step.refl g, hv.mono g1⟩
  · exact ⟨vs, (g1.trans g).seq h, by rw [r.length]; exact Nat.le_of_eq e⟩
theorem itd_tup {K : PySem.W.Frag} {G : Hp} {a : Addr} {vs : List V} {ds : List D} (h : SqT K G a vs) (r : HasL K G vs ds) : ItD K G (Itt K a) ds := fun G' H g1 g i => by
  refine ⟨fun d e => ?_, fun e => ?_⟩
  · obtain ⟨v, e1, hv⟩ := r.get e
    refine ⟨⟨vs, v, Same.tupS (g1.trans g) h, e1⟩, fun x H' y => ?_⟩
    obtain ⟨e2, y⟩ := y
    subst e2
    have e3 := y vs (Same.tupS (g1.trans g) h)
    rw [e1] at e3
    cases e3
    exact ⟨G', Step.refl g, hv.mono g1⟩
  · exact ⟨vs, Same.tupS (g1.trans g) h, by rw [r.length]; exact Nat.le_of_eq e⟩
theorem itd_str {K : PySem.W.Frag} {G : Hp} (z : Str) : ItD K G (strIt z) (signs z) := fun G' H g1 g i => by
  refine ⟨fun d e => ?_, fun e => ?_⟩
  · unfold signs at e
    rw [List.getElem?_map] at e
    cases q : z.cps.toList[i]? with
    | none => rw [q] at e; cases e
    | some c =>
      rw [q] at e
      cases e
      have hi : i < z.cps.size := by
        have := (List.getElem?_eq_some_iff.mp q).1
        simpa using this
      refine ⟨hi, fun x H' y => ?_⟩
      obtain ⟨e2, c', e3, e4⟩ := y
      subst e2 e4
      have : z.cps.toList[i]? = some c' := by simpa using e3
      rw [q] at this
      cases this
      exact ⟨G', Step.refl g, .str _⟩
  · unfold signs at e
    rw [List.length_map] at e
    show i = z.cps.size
    simp at e
    omega
theorem id_of (he : ED X EX e f) : ID X EX tg e (iOf f) :=
  PI.imp (pi_any he) fun σ H Q ⟨G, δ, g0, s0, o⟩ => by
    refine ⟨G, δ, g0, s0, ?_⟩
    unfold iOf at o
    cases e1 : f δ with
    | ok w =>
      rw [e1] at o
      simp only [R.bind_ok] at o
      refine WP.intro fun v G' H' st r => ?_
      revert r o
      cases w.d with
      | lst ds =>
        intro o r
        cases r with
        | lst h r => exact .inl ⟨_, rfl, ⟨_, st.gh.seq h⟩, o _ G' H' st (itd_list h r)⟩
      | tup ds =>
        intro o r
        cases r with
        | tup h r => exact .inr (.inl ⟨_, rfl, ⟨_, Same.tupS st.gh h⟩, o _ G' H' st (itd_tup h r)⟩)
      | str z =>
        intro o r
        cases r
        exact .inr (.inr ⟨z, rfl, o _ G' H' st (itd_str z)⟩)
      | _ => intro o _; exact False.elim o
    | ex x => rw [e1] at o; exact o
    | no => rw [e1] at o; exact o
end

noncomputable abbrev FG := D → SE → R SE
noncomputable def tG (K : PySem.W.Frag) (EX : EXS) (fg : FG) : TG := fun v σ H Q => ∃ H0 G0 G Δ O d, Ev K H0 G0 G H σ Δ O ∧ Has K G v d ∧ match fg d Δ with
  | .ok Δ' => ∀ σ' G' H' O', Ev K H0 G0 G' H' σ' Δ' O' → Same G G' → Q σ' H'
  | .ex _ => False
  | .no => False
theorem PG.imp {X : Cx} {tg : Expr} {t t' : TG} (h : PG X tg t) (i : ∀ v σ H Q, t' v σ H Q → t v σ H Q) : PG X tg t' := fun pins s σ H v u Q I r q => h pins s σ H v u Q I r (i v σ H Q q)
noncomputable abbrev GD (X : Cx) (EX : EXS) (tg : Expr) (fg : FG) : Prop := PG X tg (tG X.K EX fg)
section
variable {X : Cx} {EX : EXS} {pos : Pos}
noncomputable def gV (i : Nat) : FG := fun d Δ => .ok (Δ.set i (.sh d))
theorem gd_name {i : Nat} {x : Str} (hN : X.N.Nodup) (hi : X.N[i]? = some x := by rfl) (hx : Loc X.env.scope x := by first | exact Or.inl rfl | exact Or.inr rfl)
    (hf : X.fn x = true ∨ X.env.scope.names.lookup x = some .local := by first | exact .inl rfl | exact .inr rfl | assumption) : GD X EX (.Name x pos) (gV i) :=
  PG.imp (pg_name hN hi hx hf) fun v σ H Q ⟨H0, G0, G, Δ, O, d, E, r, q⟩ => q _ G H O (E.put r) (Same.refl _)
noncomputable def gV2 (i j : Nat) : FG := fun d Δ => match d with
  | .tup [a, b] => .ok ((Δ.set i (.sh a)).set j (.sh b))
  | _ => .no
theorem gd_two {i j k : Nat} {x y : Str} {p1 p2 : Pos} (hc : X.calm = true) (hN : X.N.Nodup) (hi : X.N[i]? = some x := by rfl) (hj : X.N[j]? = some y := by rfl) (hx : Loc X.env.scope x := by first | exact Or.inl rfl | exact Or.inr rfl) (hy : Loc X.env.scope y := by first | exact Or.inl rfl | exact Or.inr rfl)
    (hf : X.fn x = true ∨ X.env.scope.names.lookup x = some .local := by first | exact .inl rfl | exact .inr rfl | assumption) (hf2 : X.fn y = true ∨ X.env.scope.names.lookup y = some .local := by first | exact .inl rfl | exact .inr rfl | assumption)
    (hn : (assignEach [.Name x p1, .Name y p2] X.env).length = 2 := by rfl) (hst : (assignEach [.Name x p1, .Name y p2] X.env).findIdx? (·.1) = none := by rfl)
    (hs : (assignEach [.Name x p1, .Name y p2] X.env).map (·.2) = assign (.Name x p1) X.env :: (assignEach [.Name y p2] X.env).map (·.2) := by rfl) (hs2 : (assignEach [.Name y p2] X.env).map (·.2) = assign (.Name y p2) X.env :: (assignEach [] X.env).map (·.2) := by rfl) :
    GD X EX (.Tuple [.Name x p1, .Name y p2] k pos) (gV2 i j) :=
  PG.imp (pg_tup hc (pgs_cons (pg_name hN hi hx hf) (pgs_cons (pg_name hN hj hy hf2) pgs_nil hs2) hs) hn hst) fun v σ H Q ⟨H0, G0, G, Δ, O, d, E, r, q⟩ => by
    cases r with
    | tup h r =>
      cases r with
      | nil => exact False.elim q
      | cons r1 r =>
        cases r with
        | nil => exact False.elim q
        | cons r2 r =>
          cases r with
          | nil => exact ⟨_, _, rfl, Same.tupS E.st.gh h, rfl, _, _, rfl, _, _, rfl, rfl, q _ G H O ((E.put r1).put r2) (Same.refl _)⟩
          | cons _ _ => exact False.elim q
    | _ => exact False.elim q
noncomputable def sLoop (fg : FG) (g : FS) : List D → FS
  | [] => fun Δ => .nx Δ
  | d :: ds => fun Δ => match fg d Δ with
    | .ok Δ1 => (match g Δ1 with
      | .nx Δ2 => sLoop fg g ds Δ2
      | .ct Δ2 => sLoop fg g ds Δ2
      | .bk Δ2 => .nx Δ2
      | r => r)
    | .ex _ => .no
    | .no => .no
noncomputable def sFor (js : List Nat) (fi : FI) (fg : FG) (g : FS) : FS := fun Δ => match fi (vsh Δ) with
  | .ok ds => sLoop fg g ds Δ
  | .ex x => .ex x Δ
  | .no => match fi (vsh (gsome js Δ)) with
    | .ok ds => sLoop fg g ds (gsome js Δ)
    | .ex x => .ex x (gsome js Δ)
    | .no => .no
theorem drop_one {α : Type} {l : List α} {i : Nat} (h : i < l.length) : ∃ x, l[i]? = some x ∧ l.drop i = x :: l.drop (i + 1) := ⟨l[i], by simp [h], List.drop_eq_getElem_cons h⟩
theorem loop_core {K : PySem.W.Frag} {fg : FG} {g : FS} {H0 : HB} {G0 G1 H1 : Hp} {J : It} {ds : List D} {Δ : SE} {O : OS} {σ : Sg} {D : Ends} (E : Ev K H0 G0 G1 H1 σ Δ O) (it : ItD K G1 J ds) (q : Fin K EX H0 G0 G1 D (sLoop fg g ds Δ)) :
    ∃ W : Nat → Nat → Sg → Hp → Prop, (∃ m, W 0 m σ H1) ∧ ∀ i m σ H, W i m σ H →
      (J.stop i H ∧ D.nx σ H) ∨ (J.go i H ∧ ∃ N : Sg → Hp → Prop, (∀ σ' H', N σ' H' → ∃ m', m' < m ∧ W (i + 1) m' σ' H') ∧ ∀ x H', J.yld i H x H' → tG K EX fg x σ H' fun σ2 H2 => tS K EX g { D with nx := N, ct := N, bk := D.nx } σ2 H2) := by
  refine ⟨fun i m σ H => m = ds.length - i ∧ i ≤ ds.length ∧ ∃ G Δ O, Ev K H0 G0 G H σ Δ O ∧ Same G1 G ∧ Fin K EX H0 G0 G1 D (sLoop fg g (ds.drop i) Δ), ⟨ds.length, by simp, Nat.zero_le _, G1, Δ, O, E, Same.refl _, q⟩, ?_⟩
  rintro i m σ H ⟨rfl, hi, G, Δ, O, E, sg, q⟩
  obtain ⟨i1, i2⟩ := it G H sg E.st.gh i
  by_cases hlt : i < ds.length
  · obtain ⟨d, e1, e2⟩ := drop_one hlt
    obtain ⟨go, yl⟩ := i1 d e1
    refine .inr ⟨go, fun σ' H' => ∃ G Δ O, Ev K H0 G0 G H' σ' Δ O ∧ Same G1 G ∧ Fin K EX H0 G0 G1 D (sLoop fg g (ds.drop (i + 1)) Δ), fun σ' H' w => ⟨ds.length - (i + 1), by omega, rfl, hlt, w⟩, fun x H' y => ?_⟩
    obtain ⟨G', st, hx⟩ := yl x H' y
    rw [e2] at q
    refine ⟨H0, G0, G', Δ, O, d, E.grow st, hx, ?_⟩
    have q' : Fin K EX H0 G0 G1 D (match fg d Δ with
      | .ok Δ1 => (match g Δ1 with
        | .nx Δ2 => sLoop fg g (ds.drop (i + 1)) Δ2
        | .ct Δ2 => sLoop fg g (ds.drop (i + 1)) Δ2
        | .bk Δ2 => .nx Δ2
        | r => r)
      | .ex _ => .no
      | .no => .no) := q
    cases e3 : fg d Δ with
    | ok Δ1 =>
      rw [e3] at q'
      intro σ2 G2 H2 O2 E2 s2
      have s12 : Same G1 G2 := sg.trans (st.gg.trans s2)
      refine ⟨H0, G0, G2, Δ1, O2, E2, ?_⟩
      cases e4 : g Δ1 with
      | nx Δ2 => simp only [e4] at q'; exact fun σ3 G3 H3 O3 E3 s3 => ⟨G3, Δ2, O3, E3, s12.trans s3, q'⟩
      | ct Δ2 => simp only [e4] at q'; exact fun σ3 G3 H3 O3 E3 s3 => ⟨G3, Δ2, O3, E3, s12.trans s3, q'⟩
      | bk Δ2 => simp only [e4] at q'; exact fun σ3 G3 H3 O3 E3 s3 => q' σ3 G3 H3 O3 E3 (s12.trans s3)
      | rt w => simp only [e4] at q'; exact q'
      | ex x Δ2 => simp only [e4] at q'; exact fun σ3 G3 H3 O3 E3 s3 => q' σ3 G3 H3 O3 E3 (s12.trans s3)
      | no => simp only [e4] at q'; exact q'
    | ex x => rw [e3] at q'; exact q'
    | no => rw [e3] at q'; exact q'
  · have e : ds.length = i := by omega
    refine .inl ⟨i2 e, ?_⟩
    rw [List.drop_eq_nil_of_le (by omega)] at q
    exact q σ G H O E sg
theorem sd_for {tg iter : Expr} {body : List Stmt} {fi : FI} {fg : FG} {g : FS} (js : List Nat) (hp : PassesOwn (model X.prog X.w) X.A X.env X.xe) (hc : X.calm = true) (hi : ID X EX tg iter fi) (hg : GD X EX tg fg) (hb : BD X EX body g)
    (hs : ∀ x, foldedSetIterable iter X.env x = pure x := by intro _; rfl) : SD X EX (.For tg iter body [] pos) (sFor js fi fg g) :=
  PS.imp (ps_for hp hc hi hg hb hs) fun D σ H ⟨H0, G0, G, Δ, O, E, q⟩ => by
    unfold sFor at q
    cases e1 : fi (vsh Δ) with
    | ok ds =>
      rw [e1] at q
      refine ⟨G, vsh Δ, E.st.gh, E.gsh, ?_⟩
      rw [e1]
      exact fun J G' H' st it => loop_core (E.grow st) it (Fin.mono st.gg q)
    | ex x =>
      rw [e1] at q
      exact ⟨G, vsh Δ, E.st.gh, E.gsh, by rw [e1]; exact q σ G H O E (Same.refl _)⟩
    | no =>
      rw [e1] at q
      obtain ⟨G1, O1, sg, E1⟩ := E.gsome js
      refine ⟨G1, vsh (gsome js Δ), E1.st.gh, E1.gsh, ?_⟩
      cases e2 : fi (vsh (gsome js Δ)) with
      | ok ds =>
        simp only [e2] at q
        exact fun J G' H' st it => loop_core (E1.grow st) it (Fin.mono (sg.trans st.gg) q)
      | ex x => simp only [e2] at q; exact q σ G1 H O1 E1 sg
      | no => simp only [e2] at q; exact q

noncomputable def sApp (i : Nat) (f : FE) : FS := fun Δ => match Δ[i]? with
  | some (.ow (.lst ds)) => if ds.length < 16777216 then (match f (vsh Δ) with
      | .ok w => .nx (Δ.set i (.ow (.lst (ds ++ [w.d]))))
      | .ex x => .ex x Δ
      | .no => match f (vall Δ) with
        | .ok w => if flatD w.d = true then .nx (Δ.set i (.ow (.lst (ds ++ [w.d])))) else .no
        | _ => .no) else .no
  | _ => .no
theorem sd_app {i : Nat} {x : Str} {e : Expr} {f : FE} {p1 apos cpos : Pos} (he : ED X EX e f) (hN : X.N[i]? = some x := by rfl) (hv : Vis X.env.scope x := by first | exact Or.inl rfl | exact Or.inr (Or.inl rfl) | exact Or.inr (Or.inr rfl)) (hd : (x == ("__debug__" : Str)) = false := by decide)
    (hcd : (x == ("__classdict__" : Str)) = false := by decide) (hsw : swapsWith (.Call (.Attribute (.Name x p1) "append" apos) [e] [] cpos) none pos.line X.env = pure false := by rfl)
    (hbase : attributeBase (.Name x p1) "append" X.env (eval (.Name x p1) X.env) = eval (.Name x p1) X.env := by rfl)
    (hfew : ((backTo cpos (starEach [e] X.env)).all (fun x => !x.1) && (backToKw cpos (keywordEach [] X.env)).all (fun x => x.1.isSome)
      && decide ([e].length + ([] : List Keyword).length + (if ([] : List Keyword).isEmpty then 0 else 1) < 30)) = true := by rfl)
    (hline : (apos.endLine == cpos.line) = true := by rfl) (hs : starEach [e] X.env = (false, eval e X.env) :: starEach [] X.env := by rfl) (hplain : (backTo cpos (starEach [] X.env)).any (·.1) = false := by rfl) :
    SD X EX (.Expr (.Call (.Attribute (.Name x p1) "append" apos) [e] [] cpos) pos) (sApp i f) :=
  PS.imp (ps_expr (pe_bm PySem.F.plainAttrs_list PySem.F.slot_list_append PySem.F.type_list_append mt_append (pe_var hN hv hd hcd) (pa_cons he pa_nil hs) hbase hfew hline hs hplain) hsw) fun D σ H ⟨H0, G0, G, Δ, O, E, q⟩ => by
    unfold sApp at q
    split at q
    · rename_i ds e1
      split at q
      · rename_i hz
        obtain ⟨v0, s1, t⟩ := E.ow i _ _ e1 rfl
        obtain ⟨a, vs, rfl, m, hH, rl⟩ := t.list_of
        · skip
          refine ⟨.ref a, s1, .inl ⟨rfl, _, SqL.of hH⟩, ?_⟩
          have fin : ∀ {G' H' : Hp} {v : V} {d : L3.D}, Ev X.K H0 G0 G' H' σ Δ O → Same G G' → H' a = some (.lst vs) → HasL X.K G' vs ds → Has X.K G' v d → Fin X.K EX H0 G0 G D (.nx (Δ.set i (.ow (.lst (ds ++ [d]))))) →
              rAppend (.ref a) [v] H' fun _ H1 => D.nx σ H1 := fun {G' H' v d} E' sg hH' r' hv' q' =>
            ⟨a, vs, v, rfl, rfl, hH', by rw [r'.length, sizeLine_eq]; exact hz, q' σ G' _ _ (E'.writeL s1 m (r'.append (.cons hv' .nil))) sg⟩
          cases e2 : f (vsh Δ) with
          | ok w =>
            simp only [e2] at q
            refine ⟨G, vsh Δ, E.st.gh, E.gsh, ?_⟩
            rw [e2]
            exact WP.intro fun v G' H' st r => fin (E.grow st) st.gg (st.hh _ _ hH) (rl.mono st.gg) r q
          | ex x =>
            simp only [e2] at q
            exact ⟨G, vsh Δ, E.st.gh, E.gsh, by rw [e2]; exact q σ G H O E (Same.refl _)⟩
          | no =>
            simp only [e2] at q
            refine ⟨allG G H O, vall Δ, E.aH, E.gall, ?_⟩
            cases e3 : f (vall Δ) with
            | ok w =>
              simp only [e3] at q
              split at q
              · rename_i fl
                exact WP.intro fun v G' H' st r => fin (E.keep st.hh) (Same.refl _) (st.hh _ _ hH) rl (r.ofFl fl) q
              · exact q.elim
            | ex x => simp only [e3] at q; exact q.elim
            | no => simp only [e3] at q; exact q
      · exact q.elim
    · exact q.elim
end
end L3

namespace L3
open PySem PySem.Spec PyProof.Rows L2

noncomputable def compCx (X : Cx) (scope : Scope) (cl : List (Str × Addr)) (N' : List Str) (C : Addr) (s0 : Shared) (H0 : Hp) (fp : List Addr) (pn : List (Addr × Obj)) : Cx where
  prog := X.prog
  w := X.w
  K := X.K
  mg := X.mg
  base := X.base
  A := X.A
  N := N'
  s₀ := s0
  H₀ := H0
  env := compEnvC scope cl C X.env
  outer := X.stack
  stack := X.stack
  ex := fp
  fn := fun _ => false
  calm := X.calm
  pn := pn
  xe := fun _ _ => False
noncomputable abbrev FGc := D → DE → R DE
noncomputable def tGc (K : PySem.W.Frag) (EX : EXS) (fg : FGc) : TG := fun v σ H Q => ∃ G δ d, Same G H ∧ HasS K G σ δ ∧ Has K G v d ∧ match fg d δ with
  | .ok δ' => ∀ σ', HasS K G σ' δ' → HasS K G σ' δ → Q σ' H
  | .ex x => (EX σ).p x G H
  | .no => False
noncomputable abbrev GC (X : Cx) (EX : EXS) (tg : Expr) (fg : FGc) : Prop := PG X tg (tGc X.K EX fg)
noncomputable def CTs (X : Cx) (EX : EXS) (ifs : List Expr) (p : FT) : Prop :=
  ∀ (pins : List (Addr × Obj)) (s : Shared) (σ : Sg) (H : Hp) (Q : Bool → Hp → Prop), Inv X pins σ H s → tDt X.K EX p σ H Q →
    wpAny (model X.prog X.w) X.A (forIn ifs true fun c r => if r = true then do let ok ← isTrue c X.env (eval c X.env); pure (ForInStep.yield ok) else pure (ForInStep.yield r)) (TP X pins σ Q) X.xe s
section
variable {X : Cx} {EX : EXS} {pos : Pos}
noncomputable def gC (i : Nat) : FGc := fun d δ => match δ[i]? with
  | some none => .ok (δ.set i (some d))
  | _ => .no
theorem HasS.put {K : PySem.W.Frag} {G : Hp} {σ : Sg} {δ : DE} {v : V} {d : D} (h : HasS K G σ δ) (r : Has K G v d) (i : Nat) : HasS K G (σ.set i (some v)) (δ.set i (some d)) := by
  refine ⟨by rw [List.length_set, List.length_set]; exact h.len, fun j d' e => ?_⟩
  rcases getSet e with ⟨rfl, q⟩ | ⟨n, q⟩
  · cases q
    have hlt : i < δ.length := by
      by_cases hh : i < δ.length
      · exact hh
      · rw [List.getElem?_eq_none (by rw [List.length_set]; omega)] at e; cases e
    exact ⟨v, by rw [List.getElem?_set_self (by rw [h.len]; exact hlt)], r⟩
  · obtain ⟨v', e1, r'⟩ := h.get j d' q
    exact ⟨v', by rw [List.getElem?_set_ne n]; exact e1, r'⟩
theorem gc_name {i : Nat} {x : Str} (hN : X.N.Nodup) (hi : X.N[i]? = some x := by rfl) (hx : Loc X.env.scope x := by first | exact Or.inl rfl | exact Or.inr rfl)
    (hf : X.fn x = true ∨ X.env.scope.names.lookup x = some .local := by first | exact .inl rfl | exact .inr rfl | assumption) : GC X EX (.Name x pos) (gC i) :=
  PG.imp (pg_name hN hi hx hf) fun v σ H Q ⟨G, δ, d, g, s, r, q⟩ => by
    unfold gC at q
    cases e : δ[i]? with
    | none => rw [e] at q; exact q.elim
    | some o =>
      rw [e] at q
      cases o with
      | some _ => exact q.elim
      | none =>
        refine q _ (s.put r i) ⟨by rw [List.length_set]; exact s.len, fun j d' e' => ?_⟩
        obtain ⟨v', e1, r'⟩ := s.get j d' e'
        refine ⟨v', ?_, r'⟩
        rw [List.getElem?_set_ne]
        · exact e1
        · rintro rfl
          rw [e] at e'
          cases e'
theorem ct_nil : CTs X EX [] (fun _ => .ok true) := fun pins s σ H Q I ⟨G, δ, g, h, q⟩ => wpAny_tests_nil ⟨H, I, q G H (Step.refl g)⟩
theorem ct_one {c : Expr} {p : FT} (h : TD X EX c p) : CTs X EX [c] p := fun pins s σ H Q I q => wpAny_tests_one (h pins s σ H Q I q)

noncomputable def compD (fg : FGc) (p : FT) (f : FE) (δ : DE) : List D → R (List D)
  | [] => .ok []
  | d :: ds => (fg d δ).bind fun δ1 => (p δ1).bind fun b => if b = true then (f δ1).bind fun w => (compD fg p f δ ds).bind fun rs => .ok (w.d :: rs) else compD fg p f δ ds
noncomputable def R.calm {α : Type} : R α → R α
  | .ok w => .ok w
  | _ => .no
@[simp] theorem R.calm_ok {α : Type} (a : α) : (R.ok a).calm = .ok a := rfl
@[simp] theorem R.calm_ex {α : Type} (x : Xn) : (R.ex x : R α).calm = .no := rfl
@[simp] theorem R.calm_no {α : Type} : (R.no : R α).calm = .no := rfl
noncomputable def eComp (m : Nat) (fi : FI) (fg : FGc) (p : FT) (f : FE) : FE := fun δ => ((fi δ).bind fun ds => if ds.length ≤ 16777216 then (compD fg p f (δ ++ List.replicate m none) ds).bind fun rs => .ok (.ow (.lst rs)) else .no).calm
theorem R.calm_never {α : Type} {r : R α} {x : Xn} (h : r.calm = .ex x) : False := by
  cases r <;> cases h
theorem eComp_no {m : Nat} {fi : FI} {fg : FGc} {p : FT} {f : FE} {δ : DE} {x : Xn} (h : eComp m fi fg p f δ = .ex x) : False := R.calm_never h

@[reducible] def CompGo (prog : Program) (w : World) (A : Around) (env : Env) (tg elt : Expr) (ifs : List Expr) (it acc : Value) (bad : Value → Shared → Prop) (fin more : Shared → Prop) : Option Value → Shared → Prop
  | none => fin
  | some v => wpAny (model prog w) A (letOwnedTupleGo tg it v) (fun _ => wpAny (model prog w) A (assign tg env v) (fun _ =>
      wpAny (model prog w) A (forIn ifs true fun c r => if r = true then do let ok ← isTrue c env (eval c env); pure (ForInStep.yield ok) else pure (ForInStep.yield r)) (fun ok =>
        if ok = true then wpAny (model prog w) A (eval elt env) (fun x => wpAny (model prog w) A (call (.builtin "list.append") [acc, x]) (fun _ => more) bad) bad else more) bad) bad) bad
theorem comp_turns {prog : Program} {w : World} {A : Around} {R : Result → Shared → Prop} {s : Shared} {elt target iter : Expr} {ifs : List Expr} {scope : Scope} {pos : Pos} {it acc : Value} {env : Env} (I : Nat → Shared → Prop)
    (turn : ∀ n s, I n s → wpAny (model prog w) A (pyNext it) (CompGo prog w A env target elt ifs it acc (notedBy (model prog w) A env fun e => R (.error e)) (R (.ok .next)) fun s' => ∃ m, m < n ∧ I m s') (notedBy (model prog w) A env fun e => R (.error e)) s)
    (n : Nat) (h : I n s) : codeAny (model prog w) A (.compLoop (.ListComp elt [⟨target, iter, ifs, 0⟩] scope pos) 0 it acc env) R s := by
  refine codeAny_loop rfl I (fun k t hk => wpAny_noted (env := env) (m := compTurn (.ListComp elt [⟨target, iter, ifs, 0⟩] scope pos) 0 it acc env) (compTurn_list .. ▸ ?_)) n h
  refine wpAny_bind (wpAny_standAt (wpAny_bind (thn (turn k t hk) ?_)))
  rintro (_ | v) t1 g1
  · exact wpAny_pure g1
  refine wpAny_bind (thn g1 fun _ t2 g2 => wpAny_bind (thn g2 fun _ t3 g3 => wpAny_bind (thn g3 ?_)))
  rintro (_ | _) t4 g4
  · exact wpAny_pure ⟨rfl, g4⟩
  · exact wpAny_bind (wpAny_bind (thn g4 fun _ t5 g5 => wpAny_bind (thn g5 fun _ t6 g6 => wpAny_pure (wpAny_pure ⟨rfl, g6⟩))))

structure CompN (X : Cx) (scope : Scope) (cl : List (Str × Addr)) (N' : List Str) : Prop where
  clos : closureFor scope X.env = pure cl
  cell : ∀ y ∈ scope.names, y.2 ≠ .cell
  kind : scope.kind = .function
  names : ∀ y ∈ scope.names, y.2 = .local → scope.names.lookup y.1 = some .local
  sub : ∀ x c, cl.lookup x = some c → X.env.cells.lookup x = some c
  has : ∀ x, ((relabel scope X.env).names.lookup x = some .cell ∨ (relabel scope X.env).names.lookup x = some .free) → ∃ c, cl.lookup x = some c
  old : ∀ (i : Nat) (x : Str), N'[i]? = some x → i < X.N.length → Vis (relabel scope X.env) x → X.N[i]? = some x ∧ (X.env.scope.names.lookup x = some .cell ∨ X.env.scope.names.lookup x = some .free) ∧ (∃ c, cl.lookup x = some c) ∧ ((relabel scope X.env).names.lookup x = some .cell ∨ (relabel scope X.env).names.lookup x = some .free)
noncomputable def clOf (cells : List (Str × Addr)) : List (Str × NameKind) → List (Str × Addr) → List (Str × Addr)
  | [], acc => acc
  | (x, k) :: r, acc => clOf cells r (if k = .free then (x, (cells.lookup x).getD 0) :: acc else acc)
theorem closureFor_eq {scope : Scope} {env : Env} (h : ∀ p ∈ scope.names, p.2 = .free → ∃ c, env.cells.lookup p.1 = some c) : closureFor scope env = pure (clOf env.cells scope.names []) := by
  have all : ∀ (names : List (Str × NameKind)) (acc : List (Str × Addr)), (∀ p ∈ names, p.2 = .free → ∃ c, env.cells.lookup p.1 = some c) →
      (forIn names acc fun (x : Str × NameKind) (r : List (Str × Addr)) => if (x.2 == .free) = true then do let a ← cellOf env x.1; pure (ForInStep.yield ((x.1, a) :: r)) else pure (ForInStep.yield r) : Sem (List (Str × Addr))) = pure (clOf env.cells names acc) := by
    intro names
    induction names with
    | nil => intro acc _; rfl
    | cons p r ih =>
      intro acc hp
      obtain ⟨x, k⟩ := p
      rw [List.forIn_cons]
      by_cases hk : k = .free
      · subst hk
        obtain ⟨c, e⟩ := hp (x, .free) List.mem_cons_self rfl
        have e1 : cellOf env x = pure c := by unfold cellOf; rw [show env.cells.lookup x = some c from e]
        simp only [beq_self_eq_true, if_true, e1, pure_bind]
        rw [ih _ fun q hq => hp q (List.mem_cons_of_mem _ hq)]
        show _ = pure (clOf env.cells r (if NameKind.free = .free then (x, (env.cells.lookup x).getD 0) :: acc else acc))
        rw [if_pos rfl, show env.cells.lookup x = some c from e]
        rfl
      · have hb : (k == NameKind.free) = false := by simpa using hk
        simp only [hb, Bool.false_eq_true, if_false, pure_bind]
        rw [ih _ fun q hq => hp q (List.mem_cons_of_mem _ hq)]
        show _ = pure (clOf env.cells r (if k = .free then (x, (env.cells.lookup x).getD 0) :: acc else acc))
        rw [if_neg hk]
  unfold closureFor
  have := all scope.names [] h
  simpa using this
theorem clOf_mem {cells : List (Str × Addr)} {q : Str × Addr} : ∀ {names : List (Str × NameKind)} {acc : List (Str × Addr)}, q ∈ clOf cells names acc → q ∈ acc ∨ ((q.1, NameKind.free) ∈ names ∧ q.2 = (cells.lookup q.1).getD 0)
  | [], acc, h => .inl h
  | (x, k) :: r, acc, h => by
    rcases clOf_mem (names := r) h with h | ⟨h1, h2⟩
    · split at h
      · rename_i hk
        rcases List.mem_cons.mp h with rfl | h
        · exact .inr ⟨by rw [hk]; exact List.mem_cons_self, rfl⟩
        · exact .inl h
      · exact .inl h
    · exact .inr ⟨List.mem_cons_of_mem _ h1, h2⟩
theorem clOf_acc {cells : List (Str × Addr)} {x : Str} : ∀ {names : List (Str × NameKind)} {acc : List (Str × Addr)}, (acc.lookup x).isSome = true → ((clOf cells names acc).lookup x).isSome = true
  | [], acc, h => h
  | (y, k) :: r, acc, h => by
    refine clOf_acc (names := r) ?_
    split
    · rw [List.lookup_cons]
      split
      · rfl
      · exact h
    · exact h
theorem clOf_has {cells : List (Str × Addr)} {x : Str} : ∀ {names : List (Str × NameKind)} {acc : List (Str × Addr)}, (x, NameKind.free) ∈ names → ((clOf cells names acc).lookup x).isSome = true
  | (y, k) :: r, acc, h => by
    rcases List.mem_cons.mp h with h | h
    · cases h
      refine clOf_acc (names := r) ?_
      rw [if_pos rfl, List.lookup_cons]
      simp
    · exact clOf_has (names := r) h
theorem lookup_relabel {env : Env} : ∀ (names : List (Str × NameKind)) (x : Str),
    (names.map fun (n, k) => if (k == NameKind.free && env.scope.kind == .function && env.kindOf n == some .cell) then (n, NameKind.cell) else (n, k)).lookup x = (names.lookup x).map fun k => if (k == NameKind.free && env.scope.kind == .function && env.kindOf x == some .cell) = true then NameKind.cell else k
  | [], x => rfl
  | (n, k) :: r, x => by
    have ih := lookup_relabel (env := env) r x
    show List.lookup x ((if (k == NameKind.free && env.scope.kind == .function && env.kindOf n == some .cell) = true then (n, NameKind.cell) else (n, k)) :: _) = _
    cases hx : x == n with
    | true =>
      have e : x = n := eq_of_beq hx
      subst e
      by_cases hc : (k == NameKind.free && env.scope.kind == .function && env.kindOf x == some .cell) = true
      · rw [if_pos hc]; simp only [List.lookup_cons, beq_self_eq_true, Option.map_some]; rw [if_pos hc]
      · rw [if_neg hc]; simp only [List.lookup_cons, beq_self_eq_true, Option.map_some]; rw [if_neg hc]
    | false =>
      by_cases hc : (k == NameKind.free && env.scope.kind == .function && env.kindOf n == some .cell) = true
      · rw [if_pos hc]; simp only [List.lookup_cons, hx]; exact ih
      · rw [if_neg hc]; simp only [List.lookup_cons, hx]; exact ih
noncomputable def compB (inner outer : List (Str × NameKind)) (N N' : List Str) : Bool :=
  (inner.all fun p => p.2 != .cell && (p.2 != .local || inner.lookup p.1 == some .local) && (p.2 != .free || (outer.lookup p.1 == some .cell || outer.lookup p.1 == some .free))) &&
  (List.range N.length).all fun i => match N'[i]? with
    | some x => (match inner.lookup x with
      | some .free => N[i]? == some x && (outer.lookup x == some .cell || outer.lookup x == some .free)
      | some .local => false
      | some .cell => false
      | _ => true)
    | none => true
theorem compN_mk {scope : Scope} {N' : List Str} (ok : X.Ok) (hk : scope.kind = .function) (hb : compB scope.names X.env.scope.names X.N N' = true) : CompN X scope (clOf X.env.cells scope.names []) N' := by
  unfold compB at hb
  rw [Bool.and_eq_true] at hb
  obtain ⟨h1, h2⟩ := hb
  have h1 := List.all_eq_true.mp h1
  have h2 := List.all_eq_true.mp h2
  have fr : ∀ p ∈ scope.names, p.2 = .free → ∃ c, X.env.cells.lookup p.1 = some c := fun p hp hf => by
    have z := h1 p hp
    simp only [hf, Bool.and_eq_true, Bool.or_eq_true, bne_iff_ne, beq_iff_eq] at z
    exact ok.has p.1 (by
      rcases z.2 with z | z
      · exact absurd rfl z
      · exact z)
  have inn : ∀ x k, scope.names.lookup x = some k → (x, k) ∈ scope.names := fun x k e => PySem.mem_of_lookup e
  have nocell : ∀ p ∈ scope.names, p.2 ≠ .cell := fun p hp hc => by
    have z := h1 p hp
    rw [hc] at z
    simp at z
  have hasF : ∀ x, scope.names.lookup x = some .free → ∃ c, (clOf X.env.cells scope.names []).lookup x = some c := fun x e => Option.isSome_iff_exists.mp (clOf_has (inn x _ e))
  have relF : ∀ x, ((relabel scope X.env).names.lookup x = some .cell ∨ (relabel scope X.env).names.lookup x = some .free) → scope.names.lookup x = some .free := fun x h => by
    unfold relabel at h
    rw [lookup_relabel] at h
    cases e : scope.names.lookup x with
    | none => rw [e] at h; simp at h
    | some k =>
      rw [e] at h
      have nc := nocell (x, k) (inn x k e)
      cases k with
      | free => rfl
      | cell => exact absurd rfl nc
      | «local» => simp at h
      | globalExplicit => simp at h
      | globalImplicit => simp at h
  refine ⟨closureFor_eq fr, nocell, hk, fun y hy hl => ?_, fun x c e => ?_, fun x h => hasF x (relF x h), fun i x e hi hv => ?_⟩
  · have z := h1 y hy
    simp only [hl, Bool.and_eq_true, Bool.or_eq_true, bne_iff_ne, beq_iff_eq] at z
    rcases z.1.2 with z | z
    · exact absurd rfl z
    · exact z
  · rcases clOf_mem (PySem.mem_of_lookup e) with z | ⟨z1, z2⟩
    · exact absurd z (by simp)
    · obtain ⟨c', e'⟩ := fr (x, .free) z1 rfl
      have z2 : c = (X.env.cells.lookup x).getD 0 := z2
      have e' : X.env.cells.lookup x = some c' := e'
      rw [e'] at z2 ⊢
      cases z2
      rfl
  · have z := h2 i (List.mem_range.mpr hi)
    rw [e] at z
    dsimp only at z
    have look : scope.names.lookup x = some .free ∧ (((relabel scope X.env).names.lookup x = some .cell ∨ (relabel scope X.env).names.lookup x = some .free)) := by
      unfold Vis relabel at hv
      unfold relabel
      rw [lookup_relabel] at hv ⊢
      cases q : scope.names.lookup x with
      | none => rw [q] at hv; simp at hv
      | some k =>
        rw [q] at hv z
        cases k with
        | free =>
          refine ⟨rfl, ?_⟩
          by_cases hc : (X.env.scope.kind == .function && X.env.kindOf x == some .cell) = true
          · left; simp [Bool.and_assoc, hc]
          · right; simp [Bool.and_assoc, hc]
        | cell => simp at z
        | «local» => simp at z
        | globalExplicit => simp at hv
        | globalImplicit => simp at hv
    rw [look.1] at z
    simp only [Bool.and_eq_true, Bool.or_eq_true, beq_iff_eq] at z
    exact ⟨z.1, z.2, hasF x look.1, look.2⟩
theorem comp_core {elt iter tg : Expr} {ifs : List Expr} {scope : Scope} {N' : List Str} {fi : FI} {fg : FGc} {p : FT} {f : FE} {m : Nat} (hx0 : ∀ e s, ¬ X.xe e s) (hc : X.calm = true) (hk : scope.kind = .function) (hb : compB scope.names X.env.scope.names X.N N' = true)
    (hm : N'.length = X.N.length + m)
    (hin : ∀ C s0 H0 fp pn, GC (compCx X scope (clOf X.env.cells scope.names []) N' C s0 H0 fp pn) EXS0 tg fg ∧ CTs (compCx X scope (clOf X.env.cells scope.names []) N' C s0 H0 fp pn) EXS0 ifs p ∧ ED (compCx X scope (clOf X.env.cells scope.names []) N' C s0 H0 fp pn) EXS0 elt f)
    {pins : List (Addr × Obj)} {s : Shared} {σ : Sg} {H : Hp} {δ : DE} (I : Inv X pins σ H s) {Z : Hp → Hp → Prop} (hZ : ∀ G2 H2, Z G2 H2 → Same G2 H2 ∧ HasS X.K G2 σ δ)
    (hit : wpAny (model X.prog X.w) X.A (eval iter X.env) (fun xv s₁ => wpAny (model X.prog X.w) X.A (pyIter xv) (fun itv s₂ => ∃ (it : Addr) (fp : List Addr) (tn : Nat → Heap → Prop) (J : It) (H2 : Hp) (ds : List D) (G2 : Hp), itv = .ref it ∧ Inv X pins σ H2 s₂ ∧ Turn X.prog X.w X.K tg J fp it tn ∧ tn 0 s₂.heap ∧ (∀ b ∈ fp, FpOk X pins H2 b) ∧ fi δ = .ok ds ∧ Z G2 H2 ∧ ItD X.K G2 J ds) X.xe s₁) X.xe s)
    {RR : Value → Addr → Result → Shared → Prop}
    (o : match eComp m fi fg p f δ with | .ok _ => True | .ex x => False | .no => False)
    (hRR : ∀ (Da C : Addr) (s1 : Shared) (G2 H2 G' H' : Hp) (vs : List V) (rs : List D), eComp m fi fg p f δ = .ok (.ow (.lst rs)) → Inv X pins σ H' s1 → (∃ m, s1.heap.Ns C m) → FpOk X pins H' C → Z G2 H2 → Step G2 H2 G' H' → H2 Da = none → H' Da = some (.lst vs) → G' Da = none → HasL X.K G' vs rs → RR (.ref Da) C (.ok .next) s1) :
    wpAny (model X.prog X.w) X.A (eval iter X.env) (fun x s₁ => wpAny (model X.prog X.w) X.A (pyIter x) (fun it s₂ => wpAny (model X.prog X.w) X.A (newList []) (fun acc s₃ =>
      wpAny (model X.prog X.w) X.A (newFunctionEnv scope X.env.globals (clOf X.env.cells scope.names []) [] X.env.qual none .none (some X.env)) (fun cenv s₄ =>
        codeAny (model X.prog X.w) X.A (.compStart (.ListComp elt [⟨tg, iter, ifs, 0⟩] scope pos) 0 it acc { cenv with scope := relabel scope X.env }) (RR acc cenv.locals) s₄) X.xe s₃) X.xe s₂) X.xe s₁) X.xe s := by
  have n := compN_mk I.ok hk hb
  generalize hcle : clOf X.env.cells scope.names [] = cl at n hin ⊢
  have hcomp : ∀ ds, fi δ = .ok ds → ds.length ≤ 16777216 ∧ (match compD fg p f (δ ++ List.replicate m none) ds with | .ok rs => eComp m fi fg p f δ = .ok (.ow (.lst rs)) | .ex x => False | .no => False) := fun ds e => by
    unfold eComp at o ⊢
    simp only [e, R.bind_ok] at o ⊢
    by_cases hz : ds.length ≤ 16777216
    · refine ⟨hz, ?_⟩
      rw [if_pos hz] at o ⊢
      cases e2 : compD fg p f (δ ++ List.replicate m none) ds with
      | ok rs => rfl
      | ex x => rw [e2] at o; exact o
      | no => rw [e2] at o; exact o
    · rw [if_neg hz] at o; exact o.elim
  
  refine wpAny_mono hit (fun xv s₁ h₁ => wpAny_mono h₁ (fun itv s₂ h₂ => ?_) fun _ _ e => (hx0 _ _ e).elim) fun _ _ e => (hx0 _ _ e).elim
  obtain ⟨it, fp, tn, J, H2, ds, G2, rfl, I2, T, st2, f2, e2, hz2, itd⟩ := h₂
  obtain ⟨sg2, h0⟩ := hZ G2 H2 hz2
  obtain ⟨hz, o⟩ := hcomp ds e2
  
  have hfD : H2 s₂.heap.objs.size = none := I2.hok.fresh (Nat.le_refl _)
  refine wpAny_newObj_type (wpAny_newFunctionEnv n.cell (by intro y hy; simp at hy) (fun h₁ hns₁ hsb₁ => ?_) n.kind)
  dsimp only at hns₁ hsb₁ ⊢
  generalize hDa : s₂.heap.objs.size = Da at hfD
  have hDn : @Eq Nat s₂.heap.objs.size Da := hDa
  have I3 : Inv X pins σ (upd H2 Da (.lst [])) { s₂ with heap := s₂.heap.push { cls := .type "list", dict := none, data := .seq ([] : List Value).toArray } } := by
    rw [← hDa]
    exact I2.lnew (t' := s₂.toks) .nil (Nat.zero_le _)
  generalize hH3 : s₂.heap.push { cls := .type "list", dict := none, data := .seq ([] : List Value).toArray } = hp3 at hns₁ hsb₁ I3 ⊢
  have hC : hp3.objs.size = Da + 1 := by rw [← hH3, Heap.size_push, hDa]
  generalize hCe : hp3.objs.size = C at hns₁ hsb₁ hC
  have hCn : @Eq Nat hp3.objs.size C := hCe
  have hC2 : @Eq Nat C (Da + 1) := hC
  have old3 : ∀ b o, s₂.heap.get? b = some o → hp3.get? b = some o := fun b o e => by rw [← hH3]; exact Heap.get?_push_of_some _ e
  have up : ∀ b o, hp3.get? b = some o → h₁.get? b = some o := fun b o e => hsb₁.extBut b o (Nat.ne_of_lt (show @LT.lt Nat _ b C by rw [← hCn]; exact Heap.lt_size e)) (Heap.get?_push_of_some _ e)
  
  have fpC : ∀ b ∈ fp, b < s₂.heap.objs.size := fun b hb => by
    obtain ⟨o, e, _⟩ := T.obj _ _ st2 b hb
    exact Heap.lt_size e
  have hcl : ∀ x c, cl.lookup x = some c → c < hp3.objs.size ∧ c ∉ fp ∧ (upd H2 Da (.lst [])) c = none := fun x c e => by
    have e' := n.sub x c e
    obtain ⟨v, hv⟩ := I3.cell x c e'
    exact ⟨hv.lt, fun z => (f2 c z).2.2.2.2.1 x c e' rfl, I3.freeC x c e'⟩
  let X' := compCx X scope cl N' C { s₂ with heap := hp3 } (upd H2 Da (.lst [])) fp (X.pn ++ pins)
  have ok' : X'.Ok := by
    refine ⟨I.ok.mod, n.kind, I.ok.glob, I.ok.blt, Nat.le_of_eq hCe, fun x y c h1 h2 => I.ok.inj x y c (n.sub x c h1) (n.sub y c h2), fun x hx => n.has x hx, fun x c z => ?_, I.ok.hd, I.ok.frames, .inl rfl, fun b hb => ⟨?_, fun x c e z => ?_⟩, fun b o e => ?_, ?_, fun b o e hb => ?_, fun b hb z => ?_, I3.stack, I3.stkFree⟩
    · exact absurd z Bool.false_ne_true
    · exact Nat.ne_of_lt (Nat.lt_of_lt_of_le (fpC b hb) (show @LE.le Nat _ s₂.heap.objs.size C by omega))
    · subst z; exact (hcl x c e).2.1 hb
    · exact I3.bs b o e
    · exact Nat.le_trans I.ok.bsz I3.sz
    · rcases (f2 b hb).2.2.2.1 with z | z
      · exact I.ok.noex b o e z
      · exact absurd (Heap.lt_size (I.ok.bs b o e).1) (Nat.not_lt_of_le z)
    · rcases List.mem_cons.mp (I3.stkSub b z) with z | z
      · exact (f2 b hb).2.1 z
      · exact (f2 b hb).2.2.1 z
  have lenσ : σ.length = X.N.length := I.len
  have I4 : Inv X' [] (σ ++ List.replicate m none) (upd H2 Da (.lst [])) { s₂ with heap := h₁, toks := s₂.toks + ([] : List (Str × Value)).length } := by
    refine ⟨ok', rfl, I2.bare, Un.kept up, ⟨_, hns₁, fun i x v e1 e2 e3 => ?_⟩, fun x c e => ?_, ?_, fun x c e => (hcl x c e).2.2, fun p hp => ?_, I3.hok.kept up, ?_⟩
    · have hi : i < σ.length := by
        by_cases hh : i < σ.length
        · exact hh
        · rw [List.getElem?_append_right (by omega), List.getElem?_replicate] at e2
          split at e2 <;> cases e2
      rw [List.getElem?_append_left hi] at e2
      obtain ⟨n1, n2, ⟨c, n3⟩, n4⟩ := n.old i x e1 (by omega) e3
      obtain ⟨mm, hnm, hl⟩ := I3.loc
      obtain ⟨u, r, l⟩ := hl i x v n1 e2 (.inr n2)
      refine ⟨u, r, .inr ⟨n4, c, n3, ?_⟩⟩
      have n3' := n.sub x c n3
      rcases l with ⟨k1, k2⟩ | ⟨k1, c', k2, k3⟩
      · exfalso
        have k1' : X.env.scope.names.lookup x = some .local := k1
        rcases n2 with n2 | n2
        · rw [n2] at k1'; cases k1'
        · rw [n2] at k1'; cases k1'
      · rw [n3'] at k2
        cases k2
        exact k3.keeps up
    · obtain ⟨v, hv⟩ := I3.cell x c (n.sub x c e)
      exact ⟨v, hv.keeps up⟩
    · show upd H2 Da (.lst []) C = none
      exact I3.hok.fresh (by show hp3.objs.size ≤ C; omega)
    · have hp' : p ∈ X.pn ++ pins := by
        have hp2 : p ∈ (X.pn ++ pins) ++ [] := hp
        rwa [List.append_nil] at hp2
      obtain ⟨z1, z2, z3, z4, z5⟩ := I3.pin p hp'
      refine ⟨up _ _ z1, z2, ?_, fun z => ?_, z5⟩
      · exact Nat.ne_of_lt (show @LT.lt Nat _ p.1 C by rw [← hCn]; exact Heap.lt_size z1)
      · rcases List.mem_cons.mp (I3.stkSub p.1 z) with z | z
        · exact z3 z
        · exact z4 z
    · rw [List.length_append, List.length_replicate, lenσ]
      exact hm.symm
  obtain ⟨hgc, hct, hel⟩ := hin C { s₂ with heap := hp3 } (upd H2 Da (.lst [])) fp (X.pn ++ pins)
  have hS4 : HasS X.K G2 (σ ++ List.replicate m none) (δ ++ List.replicate m none) := by
    refine ⟨by rw [List.length_append, List.length_append, List.length_replicate, List.length_replicate, h0.len], fun i d e => ?_⟩
    by_cases hh : i < δ.length
    · rw [List.getElem?_append_left hh] at e
      obtain ⟨v, e1, r⟩ := h0.get i d e
      exact ⟨v, by rw [List.getElem?_append_left (by rw [h0.len]; exact hh)]; exact e1, r⟩
    · rw [List.getElem?_append_right (by omega), List.getElem?_replicate] at e
      split at e <;> cases e
  generalize hδ : δ ++ List.replicate m none = δ' at hS4 o
  have stn : tn 0 h₁ := T.keep 0 _ _ st2 fun b hb o e => up b o (old3 b o e)
  have fpn : ∀ b ∈ fp, (upd H2 Da (.lst [])) b = none := fun b hb => by
    rw [upd_ne (Nat.ne_of_lt (show @LT.lt Nat _ b Da by rw [← hDn]; exact fpC b hb))]
    exact (f2 b hb).1
  have fpok : ∀ {pl : List (Addr × Obj)} {H' : Hp}, pl = [] → (∀ b ∈ fp, H' b = none) → ∀ b ∈ fp, FpOk X' pl H' b := fun {pl H'} hpl hn b hb => by
    subst hpl
    refine ⟨hn b hb, ?_, fun z => ?_, .inl hb, fun x c e z => ?_, fun p hp z => ?_⟩
    · exact Nat.ne_of_lt (Nat.lt_of_lt_of_le (fpC b hb) (show @LE.le Nat _ s₂.heap.objs.size C by omega))
    · rcases List.mem_cons.mp (I3.stkSub b z) with z | z
      · exact (f2 b hb).2.1 z
      · exact (f2 b hb).2.2.1 z
    · subst z; exact (hcl x c e).2.1 hb
    · have hp' : p ∈ X.pn ++ pins := by
        have hp2 : p ∈ (X.pn ++ pins) ++ [] := hp
        rwa [List.append_nil] at hp2
      exact (f2 b hb).2.2.2.2.2 p hp' z
  have loop : ∀ s4 : Shared, Inv X' [] (σ ++ List.replicate m none) (upd H2 Da (.lst [])) s4 → tn 0 s4.heap → codeAny (model X.prog X.w) X.A (.compLoop (.ListComp elt [⟨tg, iter, ifs, 0⟩] scope pos) 0 (.ref it) (.ref Da) (compEnvC scope cl C X.env)) (RR (.ref Da) C) s4 := by
    intro s4 I4 tn4
    refine comp_turns (fun k s' => ∃ i σ' H' G' vs rs, k = ds.length - i ∧ i ≤ ds.length ∧ Inv X' [] σ' H' s' ∧ tn i s'.heap ∧ (∀ b ∈ fp, H' b = none) ∧ HasS X.K G' σ' δ' ∧ Step G2 H2 G' H' ∧ Same G2 G' ∧ H' Da = some (.lst vs) ∧ G' Da = none ∧
      HasL X.K G' vs rs ∧ rs.length ≤ i ∧ (match compD fg p f δ' (ds.drop i) with | .ok rs2 => eComp m fi fg p f δ = .ok (.ow (.lst (rs ++ rs2))) | .ex x => False | .no => False)) ?_ ds.length
      ⟨0, _, _, G2, [], [], by simp, Nat.zero_le _, I4, tn4, fpn, hS4, Step.own sg2 hfD _, Same.refl _, upd_same, sg2.free hfD, .nil, Nat.zero_le _, by simpa using o⟩
    rintro k s' ⟨i, σ', H', G', vs, rs, rfl, hi, I', tni, fn', hS, st, sg, hD, gD, rl, hl, o'⟩
    obtain ⟨i1, i2⟩ := itd G' H' sg st.gh i
    by_cases hlt : i < ds.length
    · obtain ⟨d, e1, e2⟩ := drop_one hlt
      obtain ⟨go, yl⟩ := i1 d e1
      refine thn (T.item X' rfl rfl rfl hc i [] s' σ' H' _ I' (fpok rfl fn') tni go) fun r s1 ⟨u, hr, h1⟩ => ?_
      subst hr
      refine thn h1 fun _ s5 ⟨x, H5, I5, r5, y5, st5, fr5⟩ => ?_
      obtain ⟨G5, stp5, hx5⟩ := yl x H5 y5
      have I5' := I5.pinned (fpok rfl fr5) (T.obj _ _ st5)
      rw [e2] at o'
      have o1 : match ((fg d δ').bind fun δ1 => (p δ1).bind fun b => if b = true then (f δ1).bind fun w => (compD fg p f δ' (ds.drop (i + 1))).bind fun rs => .ok (w.d :: rs) else compD fg p f δ' (ds.drop (i + 1))) with | .ok rs2 => eComp m fi fg p f δ = .ok (.ow (.lst (rs ++ rs2))) | .ex x => False | .no => False := o'
      have hS5 : HasS X.K G5 σ' δ' := hS.mono stp5.gg
      refine wpAny_mono (hgc _ s5 σ' H5 x u (fun σ6 H6 => ∃ δ1, fg d δ' = .ok δ1 ∧ H6 = H5 ∧ HasS X.K G5 σ6 δ1 ∧ HasS X.K G5 σ6 δ') I5' r5 ⟨G5, δ', d, stp5.gh, hS5, hx5, ?_⟩) (fun _ s6 ⟨σ6, H6, I6, δ1, e6, eH, hS6, hS6'⟩ => ?_) fun _ _ z => False.elim z
      · cases e6 : fg d δ' with
        | ok δ1 => exact fun σ6 h6 h6' => ⟨δ1, rfl, rfl, h6, h6'⟩
        | ex x => rw [e6] at o1; exact o1
        | no => rw [e6] at o1; exact o1
      subst eH
      rw [e6] at o1
      simp only [R.bind_ok] at o1
      refine wpAny_mono (hct _ s6 σ6 H6 (fun b H7 => ∃ G7, p δ1 = .ok b ∧ Step G5 H6 G7 H7) I6 ⟨G5, δ1, stp5.gh, hS6, ?_⟩) (fun b s7 ⟨H7, I7, G7, e7, stp7⟩ => ?_) fun _ _ z => False.elim z
      · cases e7 : p δ1 with
        | ok b => exact fun G7 H7 st7 => ⟨G7, rfl, st7⟩
        | ex x => rw [e7] at o1; exact o1
        | no => rw [e7] at o1; exact o1
      rw [e7] at o1
      simp only [R.bind_ok] at o1
      
      have gD7 : G7 Da = none := (stp5.trans stp7).nw Da gD (by rw [hD]; simp)
      have hD7 : H7 Da = some (.lst vs) := (stp5.trans stp7).hh _ _ hD
      have pinK : ∀ {σ9 : Sg} {H9 : Hp} {s9 : Shared}, Inv X' ([] ++ pinsAt fp s5.heap) σ9 H9 s9 → tn (i + 1) s9.heap ∧ ∀ b ∈ fp, H9 b = none := fun {σ9 H9 s9} I9 =>
        ⟨T.keep _ _ _ st5 fun b hb o e => (I9.pin (b, o) (List.mem_append_right _ (List.mem_append_right _ (mem_pinsAt hb e)))).1, fun b hb => by
          obtain ⟨o, e, d⟩ := T.obj _ _ st5 b hb
          exact (I9.pin (b, o) (List.mem_append_right _ (List.mem_append_right _ (mem_pinsAt hb e)))).2.1⟩
      have hSk : ∀ {G9 : Hp}, Same G7 G9 → HasS X.K G9 σ6 δ' := fun {G9} sm => hS6'.mono (stp7.gg.trans sm)
      cases b with
      | false =>
        rw [if_neg Bool.false_ne_true] at o1 ⊢
        exact ⟨ds.length - (i + 1), by omega, i + 1, σ6, H7, G7, vs, rs, rfl, hlt, I7.unpinned, (pinK I7).1, (pinK I7).2, hSk (Same.refl _), st.trans (stp5.trans stp7), sg.trans (stp5.gg.trans stp7.gg), hD7, gD7, rl.mono (stp5.gg.trans stp7.gg), by omega, o1⟩
      | true =>
        rw [if_pos rfl] at o1 ⊢
        refine wpAny_mono (hel _ s7 σ6 H7 (fun v H8 => ∃ w G8, f δ1 = .ok w ∧ Step G7 H7 G8 H8 ∧ Has X.K G8 v w.d) I7 ⟨G7, δ1, stp7.gh, hS6.mono stp7.gg, ?_⟩) (fun u8 s8 ⟨v8, H8, I8, r8, w8, G8, e8, stp8, hv8⟩ => ?_) fun _ _ z => False.elim z
        · cases e8 : f δ1 with
          | ok w => exact WP.intro fun v G8 H8 st8 r8 => ⟨w, G8, rfl, st8, r8⟩
          | ex x => rw [e8] at o1; exact o1
          | no => rw [e8] at o1; exact o1
        rw [e8] at o1
        simp only [R.bind_ok] at o1
        have gD8 : G8 Da = none := stp8.nw Da gD7 (by rw [hD7]; simp)
        have hD8 : H8 Da = some (.lst vs) := stp8.hh _ _ hD7
        have rl8 : HasL X.K G8 vs rs := rl.mono (stp5.gg.trans (stp7.gg.trans stp8.gg))
        refine wpAny_mono (mt_append (X := X') _ s8 σ6 H8 (.ref Da) [v8] (.ref Da) [u8] (fun _ H9 => H9 = upd H8 Da (.lst (vs ++ [v8]))) I8 rfl (.cons r8 .nil) ⟨Da, vs, v8, rfl, rfl, hD8, by rw [rl.length, sizeLine_eq]; omega, rfl⟩) (fun _ s9 ⟨_, H9, I9, _, e9⟩ => ?_) fun _ _ z => False.elim z
        subst e9
        have stA := st.trans (stp5.trans (stp7.trans stp8))
        refine ⟨ds.length - (i + 1), by omega, i + 1, σ6, _, G8, vs ++ [v8], rs ++ [w8.d], rfl, hlt, I9.unpinned, (pinK I9).1, (pinK I9).2, hSk stp8.gg, ⟨fun b o z => ?_, fun b o z => ?_, stA.gg, stA.nw⟩, sg.trans (stp5.gg.trans (stp7.gg.trans stp8.gg)), upd_same, gD8, rl8.append (.cons hv8 .nil), by rw [List.length_append, List.length_singleton]; omega, ?_⟩
        · rw [upd_ne (ne_of_none z hfD)]; exact stA.hh b o z
        · rw [upd_ne (ne_of_none z gD8)]; exact stp8.gh b o z
        · cases e10 : compD fg p f δ' (ds.drop (i + 1)) with
          | ok rs2 =>
            rw [e10] at o1
            simp only [R.bind_ok] at o1 ⊢
            rw [List.append_assoc]
            exact o1
          | ex x => rw [e10] at o1; exact o1
          | no => rw [e10] at o1; exact o1
    · have e : ds.length = i := by omega
      refine thn (T.done X' rfl rfl rfl hc i [] s' σ' H' _ I' (fpok rfl fn') tni (i2 e)) fun r s1 ⟨hr, I1⟩ => ?_
      subst hr
      rw [List.drop_eq_nil_of_le (by omega)] at o'
      have o1 : eComp m fi fg p f δ = .ok (.ow (.lst (rs ++ []))) := o'
      rw [List.append_nil] at o1
      obtain ⟨mm, hnm, _⟩ := I1.loc
      have Iout : Inv X pins σ H' s1 := I3.call' (s' := s1) (ch := fp) I1.os I1.base I1.hok I1.bare fun b hb => by
        obtain ⟨f0, f1', f2', f3, f4, f5⟩ := f2 b hb
        exact ⟨f3, f1', f4, f5⟩
      exact hRR Da C s1 G2 H2 G' H' vs rs o1 Iout ⟨mm, hnm⟩ (I3.fpOk (by show hp3.objs.size ≤ C; omega) I1.free) hz2 st hfD hD gD rl
  exact codeAny_compStart_list (loop _ I4 stn) (T.self X.A 0 _ _ _ stn (loop _ I4 stn))
theorem comp_block {elt iter tg : Expr} {ifs : List Expr} {scope : Scope} {N' : List Str} {fi : FI} {fg : FGc} {p : FT} {f : FE} {m : Nat} (hx0 : ∀ e s, ¬ X.xe e s) (hc : X.calm = true) (hi : ID X EXS0 tg iter fi) (hk : scope.kind = .function) (hb : compB scope.names X.env.scope.names X.N N' = true)
    (hm : N'.length = X.N.length + m)
    (hin : ∀ C s0 H0 fp pn, GC (compCx X scope (clOf X.env.cells scope.names []) N' C s0 H0 fp pn) EXS0 tg fg ∧ CTs (compCx X scope (clOf X.env.cells scope.names []) N' C s0 H0 fp pn) EXS0 ifs p ∧ ED (compCx X scope (clOf X.env.cells scope.names []) N' C s0 H0 fp pn) EXS0 elt f)
    {pins : List (Addr × Obj)} {s : Shared} {σ : Sg} {G H : Hp} {δ : DE} (I : Inv X pins σ H s) (g0 : Same G H) (h0 : HasS X.K G σ δ) {RR : Value → Addr → Result → Shared → Prop}
    (o : match eComp m fi fg p f δ with | .ok _ => True | .ex x => False | .no => False)
    (hRR : ∀ (Da C : Addr) (s1 : Shared) (G' H' : Hp) (vs : List V) (rs : List D), eComp m fi fg p f δ = .ok (.ow (.lst rs)) → Inv X pins σ H' s1 → (∃ m, s1.heap.Ns C m) → FpOk X pins H' C → Step G H G' H' → H Da = none → H' Da = some (.lst vs) → G' Da = none → HasL X.K G' vs rs → RR (.ref Da) C (.ok .next) s1) :
    wpAny (model X.prog X.w) X.A (eval iter X.env) (fun x s₁ => wpAny (model X.prog X.w) X.A (pyIter x) (fun it s₂ => wpAny (model X.prog X.w) X.A (newList []) (fun acc s₃ =>
      wpAny (model X.prog X.w) X.A (newFunctionEnv scope X.env.globals (clOf X.env.cells scope.names []) [] X.env.qual none .none (some X.env)) (fun cenv s₄ =>
        codeAny (model X.prog X.w) X.A (.compStart (.ListComp elt [⟨tg, iter, ifs, 0⟩] scope pos) 0 it acc { cenv with scope := relabel scope X.env }) (RR acc cenv.locals) s₄) X.xe s₃) X.xe s₂) X.xe s₁) X.xe s := by
  refine comp_core hx0 hc hk hb hm hin I (Z := fun G2 H2 => Step G H G2 H2) (fun G2 H2 z => ⟨z.gh, h0.mono z.gg⟩) ?_ o fun Da C s1 G2 H2 G' H' vs rs e Io hm' fc z st h1 h2 h3 rl => hRR Da C s1 G' H' vs rs e Io hm' fc (z.trans st) (z.hh.free h1) h2 h3 rl
  refine wpAny_mono (hi pins s σ H (fun J H2 => ∃ ds G2, fi δ = .ok ds ∧ Step G H G2 H2 ∧ ItD X.K G2 J ds) I ⟨G, δ, g0, h0, ?_⟩) (fun xv s₁ h₁ => wpAny_mono h₁ (fun itv s₂ h₂ => ?_) fun _ _ e => (hx0 _ _ e).elim) fun _ _ e => (hx0 _ _ e).elim
  · unfold eComp at o
    cases e : fi δ with
    | ok ds => exact fun J G2 H2 st it => ⟨ds, G2, rfl, st, it⟩
    | ex x => rw [e] at o; exact o
    | no => rw [e] at o; exact o
  · obtain ⟨it, fp, tn, J, H2, rfl, I2, T, st2, f2, ds, G2, e2, stp, itd⟩ := h₂
    exact ⟨it, fp, tn, J, H2, ds, G2, rfl, I2, T, st2, f2, e2, stp, itd⟩
theorem ed_comp0 {elt iter tg : Expr} {ifs : List Expr} {scope : Scope} {N' : List Str} {fi : FI} {fg : FGc} {p : FT} {f : FE} {m : Nat} (hx0 : ∀ e s, ¬ X.xe e s) (hc : X.calm = true) (hi : ID X EXS0 tg iter fi) (hk : scope.kind = .function) (hb : compB scope.names X.env.scope.names X.N N' = true)
    (hm : N'.length = X.N.length + m)
    (hin : ∀ C s0 H0 fp pn, GC (compCx X scope (clOf X.env.cells scope.names []) N' C s0 H0 fp pn) EXS0 tg fg ∧ CTs (compCx X scope (clOf X.env.cells scope.names []) N' C s0 H0 fp pn) EXS0 ifs p ∧ ED (compCx X scope (clOf X.env.cells scope.names []) N' C s0 H0 fp pn) EXS0 elt f)
    (hs : ∀ x, foldedSetIterable iter X.env x = pure x := by intro _; rfl) : ED X EXS0 (.ListComp elt [⟨tg, iter, ifs, 0⟩] scope pos) (eComp m fi fg p f) := by
  intro pins s σ H Q I q
  obtain ⟨G, δ, g0, h0, o⟩ := q
  rw [eval_ListComp]
  have n := compN_mk I.ok hk hb
  refine wpAny_comprehension_free (use := none) rfl hs n.clos n.kind n.names (comp_block (RR := fun acc C => compPost (model X.prog X.w) X.A X.xe none (EP X pins σ Q) acc C) hx0 hc hi hk hb hm hin I g0 h0 ?_ fun Da C s1 G' H' vs rs e Io hm' fc st h1 h2 h3 rl => ?_)
  · cases e : eComp m fi fg p f δ with
    | ok w => trivial
    | ex x => rw [e] at o; exact o
    | no => rw [e] at o; exact o
  · rw [e] at o
    obtain ⟨mm, hnm⟩ := hm'
    obtain ⟨c0, c1, c2, c3, c4, c5⟩ := fc
    exact ⟨mm, hnm, fun h' sb => ⟨.ref Da, H', Io.turned (t' := s1.toks) (fun b ob hb e => (sb.2 b hb).trans e) c0 c1 c3 c4 c5, rfl, o (.ref Da) (fun b => b = Da) G' H' st (fun a e => by subst e; exact ⟨h1, h3, by rw [h2]; simp⟩) (.list h2 rfl rl)⟩⟩
theorem ed_comp {elt iter tg : Expr} {ifs : List Expr} {scope : Scope} {N' : List Str} {fi : FI} {fg : FGc} {p : FT} {f : FE} {m : Nat} (hc : X.calm = true) (hi : ID X.nox EXS0 tg iter fi) (hk : scope.kind = .function) (hb : compB scope.names X.env.scope.names X.N N' = true)
    (hm : N'.length = X.N.length + m)
    (hin : ∀ C s0 H0 fp pn, GC (compCx X scope (clOf X.env.cells scope.names []) N' C s0 H0 fp pn) EXS0 tg fg ∧ CTs (compCx X scope (clOf X.env.cells scope.names []) N' C s0 H0 fp pn) EXS0 ifs p ∧ ED (compCx X scope (clOf X.env.cells scope.names []) N' C s0 H0 fp pn) EXS0 elt f)
    (hs : ∀ x, foldedSetIterable iter X.env x = pure x := by intro _; rfl) : ED X EX (.ListComp elt [⟨tg, iter, ifs, 0⟩] scope pos) (eComp m fi fg p f) :=
  PE.imp (PE.nox (ed_comp0 (X := X.nox) (fun _ _ z => z) hc hi hk hb hm hin hs)) fun σ H Q ⟨G, δ, g0, h0, o⟩ => by
    refine ⟨G, δ, g0, h0, ?_⟩
    cases e : eComp m fi fg p f δ with
    | ok w => rw [e] at o; exact o
    | ex x => exact (eComp_no e).elim
    | no => rw [e] at o; exact o
theorem PS.nox {st : Stmt} {t : TS} (h : PS X.nox st t) : PS X st t := fun pins s σ H D I hw =>
  wpAny_mono (h pins s σ H D (I.wish _) hw) (fun _ _ q => q.unwish) fun _ _ z => False.elim z
theorem sSet_no {i : Nat} {js : List Nat} {f : FE} (h : ∀ δ x, f δ ≠ .ex x) {Δ Δ' : SE} {x : Xn} (e : sSet i js f Δ = .ex x Δ') : False := by
  unfold sSet at e
  have hp : ∀ Δ2, sPut i Δ2 (f (vsh Δ2)) = .ex x Δ' → False := fun Δ2 e2 => by
    unfold sPut at e2
    cases q : f (vsh Δ2) with
    | ok w => rw [q] at e2; cases w <;> cases e2
    | ex y => exact h _ _ q
    | no => rw [q] at e2; cases e2
  cases q : f (vsh Δ) with
  | ok w => rw [q] at e; cases w <;> cases e
  | ex y => exact h _ _ q
  | no =>
    rw [q] at e
    cases q2 : f (vall Δ) with
    | ok w =>
      simp only [q2] at e
      split at e
      · cases e
      · exact hp _ e
    | ex y => exact h _ _ q2
    | no => simp only [q2] at e; cases e
theorem sd_setC0 (js : List Nat) {elt iter tg : Expr} {ifs : List Expr} {scope : Scope} {N' : List Str} {fi : FI} {fg : FGc} {p : FT} {f : FE} {m i : Nat} {y : Str} {py spos : Pos} (hx0 : ∀ e s, ¬ X.xe e s) (hc : X.calm = true) (hi : ID X EXS0 tg iter fi) (hk : scope.kind = .function) (hb : compB scope.names X.env.scope.names X.N N' = true)
    (hm : N'.length = X.N.length + m)
    (hin : ∀ C s0 H0 fp pn, GC (compCx X scope (clOf X.env.cells scope.names []) N' C s0 H0 fp pn) EXS0 tg fg ∧ CTs (compCx X scope (clOf X.env.cells scope.names []) N' C s0 H0 fp pn) EXS0 ifs p ∧ ED (compCx X scope (clOf X.env.cells scope.names []) N' C s0 H0 fp pn) EXS0 elt f)
    (hN : X.N.Nodup) (hy : X.N[i]? = some y := by rfl) (hx : Loc X.env.scope y := by first | exact Or.inl rfl | exact Or.inr rfl) (hf : X.fn y = true ∨ X.env.scope.names.lookup y = some .local := by first | exact .inl rfl | exact .inr rfl | assumption)
    (hsw : swapsWith (.ListComp elt [⟨tg, iter, ifs, 0⟩] scope pos) (some (.Name y py)) spos.line X.env = pure true := by rfl)
    (hs : ∀ x, foldedSetIterable iter X.env x = pure x := by intro _; rfl) : SD X EXS0 (.Assign [.Name y py] (.ListComp elt [⟨tg, iter, ifs, 0⟩] scope pos) spos) (sSet i js (eComp m fi fg p f)) := by
  intro pins s σ H D I q
  have q2 := set_core q
  obtain ⟨G, δ, g0, h0, o⟩ := q2
  have n := compN_mk I.ok hk hb
  rw [exec_Assign_Name_used _ _ _ _ hsw]
  refine wpAny_bind (wpAny_standAt (wpAny_bind ?_))
  show wpAny _ X.A (do let _ ← comprehension (.ListComp elt [⟨tg, iter, ifs, 0⟩] scope pos) scope X.env _ (newList []) false (eval iter X.env) (some (assign (.Name y py) X.env))) _ _ s
  refine wpAny_bind (wpAny_mono (wpAny_comprehension_free (use := some (assign (.Name y py) X.env)) (Q := fun _ s' => SP X pins D .next s') rfl hs n.clos n.kind n.names
    (comp_block (RR := fun acc C => compPost (model X.prog X.w) X.A X.xe (some (assign (.Name y py) X.env)) (fun _ s' => SP X pins D .next s') acc C) hx0 hc hi hk hb hm hin I g0 h0 ?_ fun Da C s1 G' H' vs rs e Io hm' fc st h1 h2 h3 rl => ?_)) (fun _ s' hq => wpAny_pure (wpAny_pure hq)) fun _ _ e => e)
  · cases e : eComp m fi fg p f δ with
    | ok w => trivial
    | ex x => rw [e] at o; exact o
    | no => rw [e] at o; exact o
  · rw [e] at o
    obtain ⟨mm, hnm⟩ := hm'
    obtain ⟨c0, c1, c2, c3, c4, c5⟩ := fc
    show wpAny _ X.A (assign (.Name y py) X.env (.ref Da)) _ _ _
    refine wpAny_assign_Name (store_ok2 Io hN hy hx (v := .ref Da) rfl (fun s2 I2 ⟨a, sb, ha⟩ => ?_) hf)
    have hCa : C ≠ a := by
      rcases ha with rfl | ha
      · exact c1
      · exact fun z => c4 y a ha z.symm
    refine ⟨mm, hnm.sameBut sb hCa, fun h' sb' => ⟨_, H', I2.turned (t' := s2.toks) (fun b ob hb e => (sb'.2 b hb).trans e) c0 c1 c3 c4 c5, ?_⟩⟩
    exact o (.ref Da) (fun b => b = Da) G' H' st (fun a e => by subst e; exact ⟨h1, h3, by rw [h2]; simp⟩) (.list h2 rfl rl)
theorem sd_setC (js : List Nat) {elt iter tg : Expr} {ifs : List Expr} {scope : Scope} {N' : List Str} {fi : FI} {fg : FGc} {p : FT} {f : FE} {m i : Nat} {y : Str} {py spos : Pos} (hc : X.calm = true) (hi : ID X.nox EXS0 tg iter fi) (hk : scope.kind = .function) (hb : compB scope.names X.env.scope.names X.N N' = true)
    (hm : N'.length = X.N.length + m)
    (hin : ∀ C s0 H0 fp pn, GC (compCx X scope (clOf X.env.cells scope.names []) N' C s0 H0 fp pn) EXS0 tg fg ∧ CTs (compCx X scope (clOf X.env.cells scope.names []) N' C s0 H0 fp pn) EXS0 ifs p ∧ ED (compCx X scope (clOf X.env.cells scope.names []) N' C s0 H0 fp pn) EXS0 elt f)
    (hN : X.N.Nodup) (hy : X.N[i]? = some y := by rfl) (hx : Loc X.env.scope y := by first | exact Or.inl rfl | exact Or.inr rfl) (hf : X.fn y = true ∨ X.env.scope.names.lookup y = some .local := by first | exact .inl rfl | exact .inr rfl | assumption)
    (hsw : swapsWith (.ListComp elt [⟨tg, iter, ifs, 0⟩] scope pos) (some (.Name y py)) spos.line X.env = pure true := by rfl)
    (hs : ∀ x, foldedSetIterable iter X.env x = pure x := by intro _; rfl) : SD X EX (.Assign [.Name y py] (.ListComp elt [⟨tg, iter, ifs, 0⟩] scope pos) spos) (sSet i js (eComp m fi fg p f)) :=
  PS.imp (PS.nox (sd_setC0 (X := X.nox) js (fun _ _ z => z) hc hi hk hb hm hin hN hy hx hf hsw hs)) fun D σ H ⟨H0, G0, G, Δ, O, E, q⟩ => by
    refine ⟨H0, G0, G, Δ, O, E, ?_⟩
    cases e : sSet i js (eComp m fi fg p f) Δ with
    | ex x Δ' => exact (sSet_no (fun _ _ z => eComp_no z) e).elim
    | _ => rw [e] at q; exact q
end
end L3

namespace L3
open PySem PySem.Spec PyProof.Rows L2
theorem boot_bool : bootBuiltins "bool" = some (.type "bool") := by decide +kernel
theorem room_comp {X : Cx} {k : Nat} {scope : Scope} {cl : List (Str × Addr)} {N' : List Str} {C : Addr} {s0 : Shared} {H0 : Hp} {fp : List Addr} {pn : List (Addr × Obj)} {c : Bool} (h : RoomC c k (Cx.A X)) : RoomC c k (Cx.A (compCx X scope cl N' C s0 H0 fp pn)) := h
theorem calm_comp {X : Cx} {scope : Scope} {cl : List (Str × Addr)} {N' : List Str} {C : Addr} {s0 : Shared} {H0 : Hp} {fp : List Addr} {pn : List (Addr × Obj)} (h : Cx.calm X = true) : Cx.calm (compCx X scope cl N' C s0 H0 fp pn) = true := h
section
variable {X : Cx} {EX : EXS} {a b e : Expr} {es : List Expr} {f g : FE} {fa : FA} {pos p2 : Pos}

noncomputable abbrev FO := DE → R (Option Int)
noncomputable def tDo (K : PySem.W.Frag) (EX : EXS) (fo : FO) : TO := fun σ H Q => ∃ G δ, Same G H ∧ HasS K G σ δ ∧ match fo δ with
  | .ok i => ∀ G' H', Step G H G' H' → Q i H'
  | .ex x => (EX σ).p x G H
  | .no => False
noncomputable def oNone : FO := fun _ => .ok none
noncomputable def intPart : D → R (Option Int)
  | .int i => .ok (some i)
  | _ => .no
noncomputable def oSome (f : FE) : FO := fun δ => (f δ).bind fun w => intPart w.d
theorem PO.imp {X : Cx} {e : Option Expr} {t t' : TO} (h : PO X e t) (i : ∀ σ H Q, t' σ H Q → t σ H Q) : PO X e t' := fun pins s σ H Q I q => h pins s σ H Q I (i σ H Q q)
noncomputable def cutL {α : Type} (xs : List α) (lo hi : Option Int) : List α := (xs.drop (HT.sIx xs.length 0 lo)).take (HT.sIx xs.length xs.length hi - HT.sIx xs.length 0 lo)
noncomputable def sliceD : D → Option Int → Option Int → R W
  | .lst ds, lo, hi => .ok (.ow (.lst (cutL ds lo hi)))
  | .str x, lo, hi => if x.length ≤ 16777216 then .ok (.sh (.str (Txt.slice x lo hi))) else .no
  | _, _, _ => .no
noncomputable def eSlice (f : FE) (lo hi : FO) : FE := fun δ => (f δ).bind fun w => (lo δ).bind fun l => (hi δ).bind fun u => sliceD w.d l u
theorem tDo.seq {K : PySem.W.Frag} {G H : Hp} {σ : Sg} {δ : DE} {fo : FO} {k : Option Int → R W} {Q : VK} {P : Option Int → Hp → Prop} (g : Same G H) (s : HasS K G σ δ) (h : Out K (EX σ) G H ((fo δ).bind k) Q)
    (i : ∀ b G' H', fo δ = .ok b → Step G H G' H' → Out K (EX σ) G' H' (k b) Q → P b H') : tDo K EX fo σ H P := by
  refine ⟨G, δ, g, s, ?_⟩
  cases e : fo δ with
  | ok w => rw [e] at h; exact fun G' H' st => i w G' H' e st (Out.mono st h)
  | ex x => rw [e] at h; exact h
  | no => rw [e] at h; exact h
noncomputable def tyD (T : String) : D → Bool
  | .str _ => T == "str"
  | .int _ => T == "int"
  | .lst _ => T == "list"
  | _ => false
noncomputable def eMeth (T : String) (fn : D → List D → R W) (f : FE) (fa : FA) : FE := fun δ => (f δ).bind fun w => if tyD T w.d = true then (fa δ).bind fun ds => fn w.d ds else .no
variable {o : Expr} {name : Str} {apos cpos : Pos} {T id : String} {fn : D → List D → R W}
noncomputable def eMeth0 (T : String) (fn : D → List D → R W) (f : FE) : FE := fun δ => (f δ).bind fun w => if tyD T w.d = true then fn w.d [] else .no
noncomputable def isT (T : String) : D → Option Bool
  | .non => some false
  | .bl _ => some (T == "bool" || T == "int")
  | .int _ => some (T == "int")
  | .str _ => some (T == "str")
  | .lst _ => some (T == "list")
  | .tup _ => some (T == "tuple")
  | _ => none
noncomputable def eIs (T : String) (f : FE) : FE := fun δ => (f δ).bind fun w => match isT T w.d with
  | some k => .ok (.sh (.bl k))
  | none => .no
structure KitT (K : PySem.W.Frag) (T : String) : Prop where
  non : PySem.W.kitOne K (.type "NoneType") (.type T) = some false
  bl : PySem.W.kitOne K (.type "bool") (.type T) = some (T == "bool" || T == "int")
  int : PySem.W.kitOne K (.type "int") (.type T) = some (T == "int")
  str : PySem.W.kitOne K (.type "str") (.type T) = some (T == "str")
  lst : PySem.W.kitOne K (.type "list") (.type T) = some (T == "list")
  tup : PySem.W.kitOne K (.type "tuple") (.type T) = some (T == "tuple")
theorem call_isT {T : String} (k : KitT X.K T) : CallR X (.builtin "isinstance") (fun xs H Q => ∃ G x d b, xs = [x, .ty T] ∧ Same G H ∧ Has X.K G x d ∧ isT T d = some b ∧ Q (.bl b) H) := by
  intro pins s σ H xs us Q I rv h
  obtain ⟨G, x, d, b, rfl, g, r, e, q⟩ := h
  obtain ⟨u, u2, rfl, r1, r2⟩ := rv.two
  cases r2
  have fin : ∀ tk, EP X pins σ Q (.bool b) { s with toks := tk } := fun tk => ⟨.bl b, H, I.tok _, rfl, q⟩
  cases r with
  | non => cases r1; exact PySem.W.kia_one PySem.W.kitx_none I.kIn True.intro (k.non.trans e) (fun z => nomatch z) fin
  | bl y => cases r1; exact PySem.W.kia_one PySem.W.kitx_bool I.kIn True.intro (k.bl.trans e) (fun z => nomatch z) fin
  | int i => obtain ⟨t, rfl⟩ := r1; exact PySem.W.kia_one PySem.W.kitx_int I.kIn True.intro (k.int.trans e) (fun z => nomatch z) fin
  | str y => obtain ⟨t, rfl⟩ := r1; exact PySem.W.kia_one PySem.W.kitx_str I.kIn True.intro (k.str.trans e) (fun z => nomatch z) fin
  | lst h r =>
    cases r1
    obtain ⟨its, _, ⟨ob, n, e1, c, _, _⟩, _⟩ := I.list (g.seq h)
    exact PySem.W.kia_one PySem.W.kitx_list I.kIn ⟨ob, e1, c⟩ (k.lst.trans e) (fun z => nomatch z) fin
  | tup h r =>
    cases r1
    obtain ⟨its, _, ⟨ob, e1, c, _⟩, _⟩ := I.tuple (Same.tupS g h)
    exact PySem.W.kia_one PySem.W.kitx_tuple I.kIn ⟨ob, e1, c⟩ (k.tup.trans e) (fun z => nomatch z) fin
  | exn0 _ _ => cases e
  | exn1 _ _ _ _ _ => cases e
  | dic _ _ _ => cases e
  | obj _ _ _ _ => cases e
theorem ed_isT {Tn : Str} {T : String} {pp p3 : Pos} (k : KitT X.K T) (ha : ED X EX a f) (hm : X.mg "isinstance" = none) (hmT : X.mg Tn = none) (hvT : bootBuiltins Tn = some (.type T)) (hg : Gl X "isinstance" := by rfl) (hgT : Gl X Tn := by rfl)
    (hn : Tn ≠ "__name__" := by decide) (hdT : (Tn == ("__debug__" : Str)) = false := by decide)
    (he : starEach [a, .Name Tn p3] X.env = (false, eval a X.env) :: starEach [.Name Tn p3] X.env := by rfl) (hpl : (backTo pos (starEach [.Name Tn p3] X.env)).any (·.1) = false := by rfl)
    (hs : starEach [.Name Tn p3] X.env = (false, eval (.Name Tn p3) X.env) :: starEach [] X.env := by rfl) : ED X EX (.Call (.Name "isinstance" pp) [a, .Name Tn p3] [] pos) (eIs T f) :=
  PE.imp (pe_callB (call_isT k) hg hm boot_isinstance (pa_cons ha (pa_cons (pe_bltn (v := .ty T) hgT hmT hvT rfl hn hdT) pa_nil hs) he) (by decide) (by decide) he hpl) fun σ H Q ⟨G, δ, g0, s0, o⟩ => tD.seq g0 s0 o fun w v G1 H1 _ st1 r1 o1 => by
    split at o1
    · rename_i b e
      exact ⟨G1, v, w.d, b, rfl, st1.gh, r1, e, out_sh o1 st1.gh (.bl b)⟩
    · exact o1.elim
end

noncomputable def spLaw3 (K : PySem.W.Frag) : Sp := fun vs H Q _ => ∃ (a : Addr) (ns : List Int), vs = [.ref a] ∧ SqL K H a (ns.map V.int) ∧ ns.length ≤ 63 ∧ ∀ H', Q (.bl true) H'
theorem hasInts {K : PySem.W.Frag} {G : Hp} : ∀ ns : List Int, HasL K G (ns.map V.int) (ns.map D.int)
  | [] => .nil
  | n :: ns => .cons (.int n) (hasInts ns)
theorem law_of {P : Program} {w : World} {K : PySem.W.Frag} {mg : Str → Option Value} {base : Heap} {k : Nat} {f : Addr} {fd : FuncData} {x : Str} {F : List D → R W} (h : FnX P w K mg base true k f fd [x] (spX K 1 F))
    (hF : ∀ ns : List Int, ns.length ≤ 63 → ∃ v, F [.lst (ns.map D.int)] = .ok v ∧ v.d = .bl true) : FnOk P w K mg base CX0 k f fd [x] (spLaw3 K) := by
  have hs : ∀ vs H Q E, spLaw3 K vs H Q E → spX K 1 F vs H Q fun _ _ _ => False := fun vs H Q E q => by
    obtain ⟨a, ns, rfl, hS, hl, q⟩ := q
    obtain ⟨v, e, ev⟩ := hF ns hl
    refine ⟨rfl, H, [.lst (ns.map D.int)], Same.refl _, .cons (.lst hS (hasInts ns)) .nil, ?_⟩
    rw [e]
    refine WP.intro fun u G' H' st r => ?_
    rw [ev] at r
    cases r
    exact q H'
  refine ⟨fun vs H Q E q => (hs vs H Q E q).1, fun A outer s H args us vs Q E hr e0 hb hv q => codeAny_mono (h.run A outer s H args us vs Q _ (RoomC.of hr) e0 hb hv (hs vs H Q E q)) fun r s' hq => ?_⟩
  cases r with
  | error e =>
    obtain ⟨a, C, dx, T, H', _, _, _, _, _, _, _, _, _, _, z⟩ := hq
    exact z
  | ok fl => cases fl <;> exact hq
theorem walk3 {l : PySem.W.OpenLaw} {q : Program} {loose : List Str} {XP : (Str → Option Value) → Heap → Prop} {YP : World → Heap → Prop} {d : DefRec} {K : Params → PySem.W.Frag} {x : Str} {k : Nat} (hn : l.most = some 63) (hdf : d.params.defaults = []) (hr : Room k callerA)
    (hY : ∀ (w : World) (h : Heap), YP w h → (K w.params).In h)
    (F : ∀ (w : World) (mg : Str → Option Value) (fa : Addr) (h : Heap), (K w.params).In h → h.Ns mainGlobals mg → mg d.name = some (.ref fa) →
      ∃ fd : FuncData, (∀ (s : Shared) (u : Value), BindsTo s fd ⟨[u], []⟩ [(x, u)]) ∧ ∀ base : Heap, (K w.params).In base → base.Ns mainGlobals mg → FnOk l.prog w (K w.params) mg base CX0 k fa fd [x] (spLaw3 (K w.params))) :
    PySem.W.WalkO q loose XP YP l.row.toRowW d [] (fun f vs => PySem.call f vs) :=
  L2.walk_of (n := 63) (k := k) (x := x) (CX := fun _ => CX0) (sp := fun w => spLaw3 (K w.params)) hn (by decide) hdf hr hY F (fun _ _ a ns hl _ hS => ⟨a, ns, rfl, hS, hl, fun _ => rfl⟩) fun _ _ _ _ _ z => z
end L3

namespace L3
open PySem PySem.Spec PyProof.Rows L2
theorem Inv.pair {X : Cx} {pins : List (Addr × Obj)} {σ : Sg} {H : Hp} {s : Shared} {e it : Addr} {h' : Heap} {tk : Nat} {its : List Value} {vs : List V} (I : Inv X pins σ H s) (fe : FpOk X pins H e) (fi : FpOk X pins H it)
    (k : ∀ b o, b ≠ e → b ≠ it → s.heap.get? b = some o → h'.get? b = some o) (he : ∃ o, h'.get? e = some o) (hi : ∃ o, h'.get? it = some o) (ht : h'.get? s.heap.objs.size = some { cls := .type "tuple", data := .seq its.toArray }) (rv : Vals vs its) (hz : vs.length ≤ sizeLine) :
    Inv X pins σ (upd H s.heap.objs.size (.tup vs)) { s with heap := h', toks := tk } := by
  have hn : H s.heap.objs.size = none := I.hok.fresh (Nat.le_refl _)
  obtain ⟨e0, e1, e2, e3, e4, e5⟩ := fe
  obtain ⟨i0, i1, i2, i3, i4, i5⟩ := fi
  have neH : ∀ b u, H b = some u → b ≠ e ∧ b ≠ it := fun b u q => ⟨fun z => (by rw [z, e0] at q; cases q), fun z => (by rw [z, i0] at q; cases q)⟩
  have lt : ∀ b o, s.heap.get? b = some o → b ≠ s.heap.objs.size := fun b o q => Nat.ne_of_lt (Heap.lt_size q)
  refine I.step (g' := s.gens) (d' := s.drawn) (ch := [e, it]) (fun b hb => ?_) (fun b o _ _ hc q _ => k b o (fun z => hc (by simp [z])) (fun z => hc (by simp [z])) q)
    (fun b o _ _ hc q _ => ⟨o.slots, k b o (fun z => hc (by simp [z])) (fun z => hc (by simp [z])) q⟩) (fun b o _ q n => by rw [upd_ne (lt b o q)]; exact n) (fun b o hc q => ⟨o, k b o (fun z => hc (by simp [z])) (fun z => hc (by simp [z])) q⟩)
    (fun b xs q => by rw [upd_ne (ne_of_none q hn)]; exact q) (fun b o u q => by rw [upd_ne (ne_of_none q hn)]; exact q) (fun b ps q => ⟨#[], by rw [upd_ne (ne_of_none q hn), q]; simp⟩) (fun m hm => ?_) (fun b u q => ?_) I.bare
  · have hb' : b = e ∨ b = it := by simpa using hb
    rcases hb' with rfl | rfl
    · exact ⟨e3, e1, e4, e5⟩
    · exact ⟨i3, i1, i4, i5⟩
  · obtain ⟨o, es, ep, ho, r⟩ := hm
    exact ⟨o, es, ep, k _ o (Ne.symm e1) (Ne.symm i1) ho, r⟩
  · by_cases z : b = s.heap.objs.size
    · subst z
      rw [upd_same] at q
      cases q
      exact ⟨hz, its, rv, ⟨_, ht, rfl, 0, rfl⟩⟩
    · rw [upd_ne z] at q
      refine (I.hok b u q).stay (fun c v hc r => ?_) (fun c r => by rw [upd_ne (ne_of_none r hn)]; exact r) fun c xs r => by rw [upd_ne (ne_of_none r hn)]; exact r
      rcases hc with rfl | hc
      · exact k c v (neH c u q).1 (neH c u q).2 r
      · exact k c v (neH c _ hc).1 (neH c _ hc).2 r
theorem Inv.turned2 {X : Cx} {pins : List (Addr × Obj)} {σ : Sg} {H : Hp} {s : Shared} {e it : Addr} {h' : Heap} {tk : Nat} (I : Inv X pins σ H s) (fe : FpOk X pins H e) (fi : FpOk X pins H it)
    (k : ∀ b o, b ≠ e → b ≠ it → s.heap.get? b = some o → h'.get? b = some o) : Inv X pins σ H { s with heap := h', toks := tk } := by
  obtain ⟨e0, e1, e2, e3, e4, e5⟩ := fe
  obtain ⟨i0, i1, i2, i3, i4, i5⟩ := fi
  have neH : ∀ b u, H b = some u → b ≠ e ∧ b ≠ it := fun b u q => ⟨fun z => (by rw [z, e0] at q; cases q), fun z => (by rw [z, i0] at q; cases q)⟩
  refine I.step (g' := s.gens) (d' := s.drawn) (ch := [e, it]) (fun b hb => ?_) (fun b o _ _ hc q _ => k b o (fun z => hc (by simp [z])) (fun z => hc (by simp [z])) q)
    (fun b o _ _ hc q _ => ⟨o.slots, k b o (fun z => hc (by simp [z])) (fun z => hc (by simp [z])) q⟩) (fun b o _ q n => n) (fun b o hc q => ⟨o, k b o (fun z => hc (by simp [z])) (fun z => hc (by simp [z])) q⟩)
    (fun b xs q => q) (fun b o u q => q) (fun b ps q => ⟨#[], by rw [q]; simp⟩) (fun m hm => ?_) (fun b u q => ?_) I.bare
  · have hb' : b = e ∨ b = it := by simpa using hb
    rcases hb' with rfl | rfl
    · exact ⟨e3, e1, e4, e5⟩
    · exact ⟨i3, i1, i4, i5⟩
  · obtain ⟨o, es, ep, ho, r⟩ := hm
    exact ⟨o, es, ep, k _ o (Ne.symm e1) (Ne.symm i1) ho, r⟩
  · refine (I.hok b u q).stay (fun c v hc r => ?_) (fun c r => r) fun c xs r => r
    rcases hc with rfl | hc
    · exact k c v (neH c u q).1 (neH c u q).2 r
    · exact k c v (neH c _ hc).1 (neH c _ hc).2 r
noncomputable def enL (K : PySem.W.Frag) (l : Addr) : It :=
  ⟨fun i H => ∃ xs x, SqL K H l xs ∧ xs[i]? = some x, fun i H v H' => ∃ p, H p = none ∧ v = .ref p ∧ ∀ xs x, SqL K H l xs → xs[i]? = some x → H' = upd H p (.tup [.int (i : Int), x]), fun i H => ∃ xs, SqL K H l xs ∧ xs.length = i⟩
noncomputable def enS (z : Str) : It :=
  ⟨fun i _ => i < z.cps.size, fun i H v H' => ∃ p c, H p = none ∧ v = .ref p ∧ z.cps[i]? = some c ∧ H' = upd H p (.tup [.int (i : Int), .str ⟨#[c]⟩]), fun i _ => i = z.cps.size⟩
theorem turn_enL {P : Program} {w : World} {K : PySem.W.Frag} {elts : List Expr} {x1 : Nat} {pos : Pos} (e it l : Addr) (hei : e ≠ it) : Turn P w K (.Tuple elts x1 pos) (enL K l) [e, it] e (fun i h => (∃ old, IsEnum h e it (i : Int) old) ∧ h.IsListIter it l i) where
  mem := by simp
  obj := fun i h st b hb => by
    have hb' : b = e ∨ b = it := by simpa using hb
    rcases hb' with rfl | rfl
    · obtain ⟨⟨old, q⟩, _⟩ := st
      exact ⟨_, q, fun v z => by cases z⟩
    · obtain ⟨_, ⟨o, q, c, d⟩⟩ := st
      exact ⟨o, q, fun v z => by rw [d] at z; cases z⟩
  keep := fun i h h' st k => by
    obtain ⟨⟨old, q⟩, r⟩ := st
    exact ⟨⟨old, k e (by simp) _ q⟩, r.at fun o z => k it (by simp) o z⟩
  item := by
    intro X hP hw hK hc i pins s σ H E I hf st hg
    subst hP hw hK
    obtain ⟨xs, x, hq, hx⟩ := hg
    obtain ⟨its, rv, p, hz⟩ := I.list hq
    obtain ⟨u, hu, ru⟩ := rv.get hx
    obtain ⟨⟨old, he⟩, hit⟩ := st
    have fe := hf e (by simp)
    have fi := hf it (by simp)
    have pl := p.isList
    have nle : l ≠ e := fun z => by
      subst z
      obtain ⟨o, ho, hc', _⟩ := pl
      rw [show s.heap.get? l = _ from he] at ho
      cases ho
      exact absurd hc' (by simp)
    have nli : l ≠ it := fun z => by
      subst z
      obtain ⟨o, ho, hc', _⟩ := pl
      obtain ⟨o', ho', hc2, _⟩ := hit
      rw [ho] at ho'
      cases ho'
      rw [hc'] at hc2
      exact absurd hc2 (by simp)
    have hlt : i < its.toArray.size := by
      have := (List.getElem?_eq_some_iff.mp hu).1
      simpa using this
    refine wpAny_pyNext_enum_itemD (Draws.list (A := X.A.in1) (I.ok.hd hc) it l nli its.toArray) he ⟨hit, pl⟩ hlt hei (by simp [hei, Ne.symm nle]) fun y h' tk hy ho hst htup hsz kk => ?_
    have ey : y = u := by
      have : its.toArray[i]? = some u := by simpa using hu
      rw [this] at hy
      exact (Option.some.inj hy).symm
    subst ey
    refine ⟨_, rfl, wpAny_letOwnedTupleGo_enum ho fun h'' he'' sb => ?_⟩
    have hnext : ∃ old, IsEnum h'' e it ((i + 1 : Nat) : Int) old := ⟨_, by
      have e1 : ((i + 1 : Nat) : Int) = (i : Int) + 1 := by omega
      rw [e1]
      exact he''⟩
    refine ⟨.ref s.heap.objs.size, upd H s.heap.objs.size (.tup [.int (i : Int), x]), ?_, rfl, ⟨_, I.hok.fresh (Nat.le_refl _), rfl, fun ys y' hy' ey' => ?_⟩, ⟨hnext, ?_⟩, fun b hb => ?_⟩
    · have ne : s.heap.objs.size ≠ e := fun z => absurd (Heap.lt_size he) (by rw [← z]; exact Nat.lt_irrefl _)
      refine Inv.pair (its := [.int (i : Int) tk, y]) I fe fi (fun b o h1 h2 q => (sb.2 b h1).trans (kk b o h1 h2 q)) ⟨_, he''⟩ ?_ ((sb.2 _ ne).trans htup) (.cons ⟨_, rfl⟩ (.cons ru .nil)) (by show 2 ≤ sizeLine; decide)
      obtain ⟨⟨o, q, _⟩, _⟩ := hst
      exact ⟨o, (sb.2 it (Ne.symm hei)).trans q⟩
    · have := I.list_inj hy' hq
      subst this
      rw [hx] at ey'
      cases ey'
      rfl
    · exact hst.1.at fun o z => (sb.2 it (Ne.symm hei)).trans z
    · have hb' : b = e ∨ b = it := by simpa using hb
      have hbl : b < s.heap.objs.size := by
        rcases hb' with rfl | rfl
        · exact Heap.lt_size he
        · obtain ⟨o, q, _⟩ := hit; exact Heap.lt_size q
      rw [upd_ne (Nat.ne_of_lt hbl)]
      exact (hf b hb).1
  done := by
    intro X hP hw hK hc i pins s σ H E I hf st hg
    subst hP hw hK
    obtain ⟨xs, hq, hx⟩ := hg
    obtain ⟨its, rv, p, hz⟩ := I.list hq
    obtain ⟨⟨old, he⟩, hit⟩ := st
    have hl := rv.length
    have pl := p.isList
    have nli : l ≠ it := fun z => by
      subst z
      obtain ⟨o, ho, hc', _⟩ := pl
      obtain ⟨o', ho', hc2, _⟩ := hit
      rw [ho] at ho'
      cases ho'
      rw [hc'] at hc2
      exact absurd hc2 (by simp)
    have en : i = its.toArray.size := by simp; omega
    refine wpAny_pyNext_enum_endD (Draws.list (A := X.A.in1) (I.ok.hd hc) it l nli its.toArray) he (by rw [← en]; exact ⟨hit, pl⟩) fun h' eb => ⟨rfl, ?_⟩
    exact Inv.turned2 (tk := s.toks) I (hf e (by simp)) (hf it (by simp)) fun b o h1 h2 q => eb b o h2 q
  self := fun A i s Q E st h => by
    obtain ⟨⟨old, he⟩, _⟩ := st
    exact wpAny_pyIter_enum he h
theorem draws_str {prog : Program} {w : World} {A : Around} (hh : A.handled = none) (it : Addr) (x : Str) (t : Tok) :
    Draws prog w A it [it] x.cps.size (fun i v => ∃ c u, x.cps[i]? = some c ∧ v = .str ⟨#[c]⟩ u) (fun i h => h.IsStrIter it (strIterType x) x t i) := by
  unfold strIterType
  cases ha : x.cps.all (· < 128)
  · exact Draws.strWide hh it x t
  · exact Draws.strAscii hh it x t
theorem turn_enS {P : Program} {w : World} {K : PySem.W.Frag} {elts : List Expr} {x1 : Nat} {pos : Pos} (e it : Addr) (z : Str) (t : Tok) (hei : e ≠ it) : Turn P w K (.Tuple elts x1 pos) (enS z) [e, it] e (fun i h => (∃ old, IsEnum h e it (i : Int) old) ∧ h.IsStrIter it (strIterType z) z t i) where
  mem := by simp
  obj := fun i h st b hb => by
    have hb' : b = e ∨ b = it := by simpa using hb
    rcases hb' with rfl | rfl
    · obtain ⟨⟨old, q⟩, _⟩ := st
      exact ⟨_, q, fun v z => by cases z⟩
    · obtain ⟨_, ⟨o, q, c, d⟩⟩ := st
      exact ⟨o, q, fun v z => by rw [d] at z; cases z⟩
  keep := fun i h h' st k => by
    obtain ⟨⟨old, q⟩, ⟨o, r, c⟩⟩ := st
    exact ⟨⟨old, k e (by simp) _ q⟩, ⟨o, k it (by simp) o r, c⟩⟩
  item := by
    intro X hP hw hK hc i pins s σ H E I hf st hg
    subst hP hw hK
    obtain ⟨⟨old, he⟩, hit⟩ := st
    have fe := hf e (by simp)
    have fi := hf it (by simp)
    refine wpAny_pyNext_enum_itemD (draws_str (A := X.A.in1) (I.ok.hd hc) it z t) he hit hg hei (by simp [hei]) fun y h' tk hy ho hst htup hsz kk => ?_
    obtain ⟨c, uc, hcx, rfl⟩ := hy
    refine ⟨_, rfl, wpAny_letOwnedTupleGo_enum ho fun h'' he'' sb => ?_⟩
    have hnext : ∃ old, IsEnum h'' e it ((i + 1 : Nat) : Int) old := ⟨_, by
      have e1 : ((i + 1 : Nat) : Int) = (i : Int) + 1 := by omega
      rw [e1]
      exact he''⟩
    refine ⟨.ref s.heap.objs.size, upd H s.heap.objs.size (.tup [.int (i : Int), .str ⟨#[c]⟩]), ?_, rfl, ⟨_, c, I.hok.fresh (Nat.le_refl _), rfl, hcx, rfl⟩, ⟨hnext, ?_⟩, fun b hb => ?_⟩
    · have ne : s.heap.objs.size ≠ e := fun z => absurd (Heap.lt_size he) (by rw [← z]; exact Nat.lt_irrefl _)
      refine Inv.pair (its := [.int (i : Int) tk, .str ⟨#[c]⟩ uc]) I fe fi (fun b o h1 h2 q => (sb.2 b h1).trans (kk b o h1 h2 q)) ⟨_, he''⟩ ?_ ((sb.2 _ ne).trans htup) (.cons ⟨_, rfl⟩ (.cons ⟨_, rfl⟩ .nil)) (by show 2 ≤ sizeLine; decide)
      obtain ⟨o, q, _⟩ := hst
      exact ⟨o, (sb.2 it (Ne.symm hei)).trans q⟩
    · obtain ⟨o, q, r⟩ := hst
      exact ⟨o, (sb.2 it (Ne.symm hei)).trans q, r⟩
    · have hb' : b = e ∨ b = it := by simpa using hb
      have hbl : b < s.heap.objs.size := by
        rcases hb' with rfl | rfl
        · exact Heap.lt_size he
        · obtain ⟨o, q, _⟩ := hit; exact Heap.lt_size q
      rw [upd_ne (Nat.ne_of_lt hbl)]
      exact (hf b hb).1
  done := by
    intro X hP hw hK hc i pins s σ H E I hf st hg
    subst hP hw hK
    obtain ⟨⟨old, he⟩, hit⟩ := st
    have en : i = z.cps.size := hg
    refine wpAny_pyNext_enum_endD (draws_str (A := X.A.in1) (I.ok.hd hc) it z t) he (by rw [← en]; exact hit) fun h' eb => ⟨rfl, ?_⟩
    exact Inv.turned2 (tk := s.toks) I (hf e (by simp)) (hf it (by simp)) fun b o h1 h2 q => eb b o h2 q
  self := fun A i s Q E st h => by
    obtain ⟨⟨old, he⟩, _⟩ := st
    exact wpAny_pyIter_enum he h
noncomputable def enumD (k : Nat) : List D → List D
  | [] => []
  | d :: ds => .tup [.int (k : Int), d] :: enumD (k + 1) ds
theorem enumD_get : ∀ {ds : List D} {k i : Nat} {d : D}, (enumD k ds)[i]? = some d → ∃ d', ds[i]? = some d' ∧ d = .tup [.int ((k + i : Nat) : Int), d']
  | [], _, _, _, h => by simp [enumD] at h
  | x :: ds, k, 0, d, h => by simp [enumD] at h; exact ⟨x, rfl, h.symm⟩
  | x :: ds, k, i + 1, d, h => by
    obtain ⟨d', e1, e2⟩ := enumD_get (ds := ds) (k := k + 1) (i := i) (by simpa [enumD] using h)
    exact ⟨d', by simpa using e1, by rw [e2, show k + 1 + i = k + (i + 1) by omega]⟩
theorem enumD_len : ∀ (ds : List D) (k : Nat), (enumD k ds).length = ds.length
  | [], _ => rfl
  | _ :: ds, k => by simp [enumD, enumD_len ds (k + 1)]
noncomputable def enumOf : D → R (List D)
  | .lst ds => .ok (enumD 0 ds)
  | .str x => .ok (enumD 0 (signs x))
  | _ => .no
noncomputable def iEnum (f : FE) : FI := fun δ => (f δ).bind fun w => enumOf w.d
section
variable {X : Cx} {EX : EXS} {a : Expr} {f : FE} {elts : List Expr} {x1 : Nat} {tp p pos : Pos}
noncomputable def iEn (K : PySem.W.Frag) (t : TA) : TI := fun σ H Q => t σ H fun vs H1 => (∃ l, vs = [.ref l] ∧ (∃ xs, SqL K H1 l xs) ∧ Q (enL K l) H1) ∨ (∃ z, vs = [.str z] ∧ Q (enS z) H1)
theorem pi_enum {ta : TA} (hg : Gl X "enumerate") (hm : X.mg "enumerate" = none) (ha : PA X [a] ta) (hs : starEach [a] X.env = [(false, eval a X.env)] := by rfl) : PI X (.Tuple elts x1 tp) (.Call (.Name "enumerate" p) [a] [] pos) (iEn X.K ta) := by
  intro pins s σ H Q I h
  refine Call_ (ld_blt I hg hm PyProof.Rows.boot_enumerate (PyProof.Rows.callWith_type1 (thn (ha pos pins s σ H _ I h) fun us s1 ⟨vs, H1, I1, r1, q1⟩ => ?_) hs rfl))
  rcases q1 with ⟨l, rfl, ⟨xs, hq⟩, q⟩ | ⟨z, rfl, q⟩
  · obtain ⟨u, rfl, ru⟩ := r1.one
    cases ru
    obtain ⟨its, rv, pl, hz⟩ := I1.list hq
    refine call_enumerate_list pl.isList fun h' he hit hsz kk => wpAny_pyIter_enum he ?_
    refine ⟨s1.heap.objs.size + 1, [s1.heap.objs.size + 1, s1.heap.objs.size], _, enL X.K l, H1, rfl, I1.kept (t' := s1.toks) kk, turn_enL _ _ l (Nat.succ_ne_self _), ⟨⟨_, he⟩, hit⟩, fun b hb => ?_, q⟩
    have hb' : b = s1.heap.objs.size + 1 ∨ b = s1.heap.objs.size := by simpa using hb
    have hbl : s1.heap.objs.size ≤ b := by
      rcases hb' with rfl | rfl
      · exact Nat.le_succ _
      · exact Nat.le_refl _
    exact I1.fpOk hbl (I1.hok.fresh hbl)
  · obtain ⟨u, rfl, t, rfl⟩ := r1.one
    refine call_enumerate_str fun h' he hit hsz kk => wpAny_pyIter_enum he ?_
    refine ⟨s1.heap.objs.size + 1, [s1.heap.objs.size + 1, s1.heap.objs.size], _, enS z, H1, rfl, I1.kept (t' := s1.toks) kk, turn_enS _ _ z t (Nat.succ_ne_self _), ⟨⟨_, he⟩, hit⟩, fun b hb => ?_, q⟩
    have hb' : b = s1.heap.objs.size + 1 ∨ b = s1.heap.objs.size := by simpa using hb
    have hbl : s1.heap.objs.size ≤ b := by
      rcases hb' with rfl | rfl
      · exact Nat.le_succ _
      · exact Nat.le_refl _
    exact I1.fpOk hbl (I1.hok.fresh hbl)
theorem itd_enL {K : PySem.W.Frag} {G : Hp} {l : Addr} {vs : List V} {ds : List D} (h : SqL K G l vs) (r : HasL K G vs ds) : ItD K G (enL K l) (enumD 0 ds) := fun G' H g1 g i => by
  refine ⟨fun d e => ?_, fun e => ?_⟩
  · obtain ⟨d', e1, rfl⟩ := enumD_get e
    obtain ⟨v, e2, hv⟩ := r.get e1
    refine ⟨⟨vs, v, (g1.trans g).seq h, e2⟩, fun x H' y => ?_⟩
    obtain ⟨p, hp, rfl, y⟩ := y
    have := y vs v ((g1.trans g).seq h) e2
    subst this
    refine ⟨_, Step.new g hp _, .tup (SqT.of upd_same) (.cons (by rw [Nat.zero_add]; exact .int _) (.cons (hv.mono (g1.trans (same_new (g.free hp) _))) .nil))⟩
  · rw [enumD_len] at e
    exact ⟨vs, (g1.trans g).seq h, by rw [r.length]; exact e⟩
theorem itd_enS {K : PySem.W.Frag} {G : Hp} (z : Str) : ItD K G (enS z) (enumD 0 (signs z)) := fun G' H g1 g i => by
  refine ⟨fun d e => ?_, fun e => ?_⟩
  · obtain ⟨d', e1, rfl⟩ := enumD_get e
    unfold signs at e1
    rw [List.getElem?_map] at e1
    cases q : z.cps.toList[i]? with
    | none => rw [q] at e1; cases e1
    | some c =>
      rw [q] at e1
      cases e1
      have hi : i < z.cps.size := by
        have := (List.getElem?_eq_some_iff.mp q).1
        simpa using this
      refine ⟨hi, fun x H' y => ?_⟩
      obtain ⟨p, c', hp, rfl, hc, rfl⟩ := y
      have : z.cps.toList[i]? = some c' := by simpa using hc
      rw [q] at this
      cases this
      refine ⟨_, Step.new g hp _, .tup (SqT.of upd_same) (.cons (by rw [Nat.zero_add]; exact .int _) (.cons (.str _) .nil))⟩
  · rw [enumD_len] at e
    unfold signs at e
    rw [List.length_map] at e
    show i = z.cps.size
    simp at e
    omega
theorem id_enum (hm : X.mg "enumerate" = none) (he : ED X EX a f) (hg : Gl X "enumerate" := by rfl) (hs : starEach [a] X.env = [(false, eval a X.env)] := by rfl) (hs1 : starEach [a] X.env = (false, eval a X.env) :: starEach [] X.env := by rfl) :
    ID X EX (.Tuple elts x1 tp) (.Call (.Name "enumerate" p) [a] [] pos) (iEnum f) :=
  PI.imp (pi_enum hg hm (pa_cons he pa_nil hs1) hs) fun σ H Q ⟨G, δ, g0, s0, o⟩ => by
    refine ⟨G, δ, g0, s0, ?_⟩
    unfold iEnum at o
    cases e1 : f δ with
    | ok w =>
      rw [e1] at o
      simp only [R.bind_ok] at o
      refine WP.intro fun v G' H' st r => ?_
      revert r o
      cases w.d with
      | lst ds =>
        intro o r
        cases r with
        | lst h r => exact .inl ⟨_, rfl, ⟨_, st.gh.seq h⟩, o _ G' H' st (itd_enL h r)⟩
      | str z =>
        intro o r
        cases r
        exact .inr ⟨z, rfl, o _ G' H' st (itd_enS z)⟩
      | _ => intro o _; exact False.elim o
    | ex x => rw [e1] at o; exact o
    | no => rw [e1] at o; exact o
end
end L3

namespace L3
open PySem PySem.Spec PyProof.Rows L2
noncomputable def C3 (i j c : Int) : Prop := 0 ≤ i ∧ i.natAbs < 1073741824 ∧ j.natAbs < 1073741824 ∧ 0 < c ∧ c.natAbs < 1073741824
instance (i j c : Int) : Decidable (C3 i j c) := by unfold C3; exact inferInstance
section
variable {X : Cx} {EX : EXS} {tg a b c : Expr} {fa : FA} {ta : TA} {p pos : Pos}
end
end L3

namespace L3
open PySem PySem.Spec PyProof.Rows L2
section
variable {X : Cx} {EX : EXS} {a : Expr} {f : FE} {pos : Pos}
end
end L3

namespace L3
open PySem PySem.Spec PyProof.Rows L2
section
variable {prog : Program} {w : World} {A : Around} {E : Value → Shared → Prop} {s : Shared}
theorem assign_Tuple_list {env : Env} {elts : List Expr} {x1} {pos : Pos} {t : Addr} {items : Array Value} {Q : Unit → Shared → Prop} (hh : A.handled = none) (ht : s.heap.IsList t items)
    (hn : (assignEach elts env).length = items.size) (hstar : (assignEach elts env).findIdx? (·.1) = none)
    (h : ∀ h', Heap.ExtBut s.heap.objs.size s.heap h' → wpAny (model prog w) A (assignInOrder ((assignEach elts env).map (·.2)) items.toList) Q E { s with heap := h' }) :
    wpAny (model prog w) A (assign (.Tuple elts x1 pos) env (.ref t)) Q E s := by
  rw [assign_Tuple, unpack, hn, hstar]
  exact wpAny_bind (wpAny_standAt (wpAny_bind (wpAny_holding (PySem.W.kun_itemsOf hh ht h))))
end
section
variable {X : Cx} {EX : EXS} {pos : Pos}
noncomputable def gSeq (K : PySem.W.Frag) (n : Nat) (t : TGs) : TG := fun v σ H Q => ∃ a xs, v = .ref a ∧ (SqT K H a xs ∨ SqL K H a xs) ∧ xs.length = n ∧ t xs σ H Q
theorem pg_seq {es : List Expr} {k : Nat} {t : TGs} {n : Nat} (hc : X.calm = true) (h : PGs X es t)
    (hn : (assignEach es X.env).length = n := by rfl) (hst : (assignEach es X.env).findIdx? (·.1) = none := by rfl) : PG X (.Tuple es k pos) (gSeq X.K n t) := by
  intro pins s σ H v u Q I r hw
  obtain ⟨a, xs, e1, hq, hl, hw⟩ := hw
  rcases hq with hq | hq
  · exact pg_tup hc h hn hst pins s σ H v u Q I r ⟨a, xs, e1, hq, hl, hw⟩
  · subst e1
    cases r
    obtain ⟨its, rv, ht, hz⟩ := I.list hq
    refine assign_Tuple_list (I.ok.hd hc) ht.isList (by simp [hn, ← hl, rv.length]) hst fun h' hx => ?_
    have I1 : Inv X pins σ H { s with heap := h' } := I.kept (t' := s.toks) fun b o e => hx b o (Nat.ne_of_lt (Heap.lt_size e)) e
    exact h pins _ σ H xs _ Q I1 (by simpa using rv) hw
theorem HasS.skip {K : PySem.W.Frag} {G : Hp} {σ : Sg} {δ : DE} {v : V} {i : Nat} (h : HasS K G σ δ) (e : δ[i]? = some none) : HasS K G (σ.set i (some v)) δ := by
  refine ⟨by rw [List.length_set]; exact h.len, fun j d' e' => ?_⟩
  obtain ⟨v', e1, r'⟩ := h.get j d' e'
  refine ⟨v', ?_, r'⟩
  rw [List.getElem?_set_ne]
  · exact e1
  · rintro rfl
    rw [e] at e'
    cases e'
end
end L3

namespace L3
open PySem PySem.Spec PyProof.Rows L2
section
variable {X : Cx} {EX : EXS}
noncomputable def nonB : D → Bool
  | .non => true
  | _ => false
noncomputable def isND (neg : Bool) : D → D → R W
  | d, .non => .ok (.sh (.bl (if neg then !nonB d else nonB d)))
  | _, _ => .no
theorem nonB_V {K : PySem.W.Frag} {G : Hp} {v : V} {d : D} (r : Has K G v d) : decide (v = .non) = nonB d := by
  cases r <;> rfl
theorem op_notND : OpD X (compareOp .IsNot) (isND true) := by
  intro pins s σ H x y v u Q I rx ry q
  obtain ⟨EX, G, a, b, g, ra, rb, o⟩ := q
  cases rb with
  | non => exact op_notN pins s σ H _ _ _ _ Q I rx ry ⟨rfl, by rw [nonB_V ra]; exact out_sh o g (.bl _)⟩
  | _ => exact False.elim o

end
end L3

namespace L3
open PySem PySem.Spec PyProof.Rows L2
section
variable {X : Cx} {EX : EXS} {tg a b : Expr} {f g : FE} {fa : FA} {p pos : Pos}
theorem HasL.rep {K : PySem.W.Frag} {G : Hp} {vs : List V} {ds : List D} (r : HasL K G vs ds) : ∀ n : Nat, HasL K G (List.replicate n vs).flatten (List.replicate n ds).flatten
  | 0 => .nil
  | n + 1 => by rw [List.replicate_succ, List.replicate_succ, List.flatten_cons, List.flatten_cons]; exact r.append (HasL.rep r n)
noncomputable def intsD : List D → Option (List Int)
  | [] => some []
  | .int i :: ds => (intsD ds).map (i :: ·)
  | _ => none
theorem zints_has {K : PySem.W.Frag} {G : Hp} (lo : Int) : ∀ n : Nat, HasL K G ((List.range n).map fun (k : Nat) => V.int (lo + (k : Int))) (zints lo n) := by
  intro n
  unfold zints
  generalize List.range n = l
  induction l with
  | nil => exact .nil
  | cons a l ih => exact .cons (.int _) ih
theorem zvals {n : Nat} {lo : Int} {acc : Array Value} (h : PySem.ItemsOf (fun i v => ∃ t, v = .int (lo + i * 1) t) acc n) : Vals ((List.range n).map fun (k : Nat) => V.int (lo + (k : Int))) acc.toList := by
  obtain ⟨h1, h2⟩ := h
  have all : ∀ (l : List Value) (k : Nat), (∀ (j : Nat) v, l[j]? = some v → ∃ t, v = .int (lo + ((k + j : Nat) : Int)) t) → Vals ((List.range' k l.length).map fun (k : Nat) => V.int (lo + (k : Int))) l := by
    intro l
    induction l with
    | nil => intro k _; exact .nil
    | cons a l ih =>
      intro k h
      rw [List.length_cons, List.range'_succ, List.map_cons]
      refine .cons ?_ (ih (k + 1) fun j v hj => ?_)
      · obtain ⟨t, e⟩ := h 0 a rfl
        exact ⟨t, by rw [e]; rfl⟩
      · obtain ⟨t, e⟩ := h (j + 1) v (by simpa using hj)
        exact ⟨t, by rw [e, show k + (j + 1) = k + 1 + j by omega]⟩
  have := all acc.toList 0 fun j v hj => by
    obtain ⟨t, e⟩ := h2 j v (by simpa using hj)
    exact ⟨t, by rw [e]; simp⟩
  rw [show acc.toList.length = n by simpa using h1] at this
  rw [List.range_eq_range']
  exact this
theorem listOfRange {pins : List (Addr × Obj)} {s : Shared} {σ : Sg} {H : Hp} {Q : VK} {lo hi : Int} {t u v : Tok} {tk : Nat} (hc : X.calm = true) (I : Inv X pins σ H s) (h1 : -(2 ^ 62) ≤ lo) (h2 : lo < 2 ^ 62) (h3 : -(2 ^ 62) ≤ hi) (h4 : hi < 2 ^ 62) (hz : (hi - lo).toNat ≤ 16777216)
    (q : ∀ p, H p = none → Q (.ref p) (upd H p (.lst ((List.range (hi - lo).toNat).map fun (k : Nat) => V.int (lo + (k : Int)))))) :
    wpAny (model X.prog X.w) X.A (call (.type "list") [.ref s.heap.objs.size]) (EP X pins σ Q) X.xe { s with heap := s.heap.push { cls := .type "range", data := .fields #[.int lo t, .int hi u, .int 1 v] }, toks := tk } := by
  have I1 : Inv X pins σ H { s with heap := s.heap.push { cls := .type "range", data := .fields #[.int lo t, .int hi u, .int 1 v] }, toks := tk } := I.kept fun b o e => Heap.get?_push_of_some _ e
  have en : Builtin.Range.rangeSize lo hi 1 = (((hi - lo).toNat : Nat) : Int) := by rw [rangeSize_one]; split <;> omega
  refine PySem.call_list_range (I1.ok.hd hc) (IsRange.new ..) (small_one h1 h2 h3 h4) en hz fun h' tk' acc c kk hat it => ?_
  have rv := zvals it
  have fr := I1.hok.fresh (Nat.le_refl _)
  refine ⟨.ref _, upd H _ (.lst _), I1.laid (t' := tk') kk (Nat.le_refl _) ⟨?_, acc.toList, c, rv, by simpa using hat⟩, rfl, q _ fr⟩
  rw [rv.length, sizeLine_eq]
  have := it.1
  simp
  omega
noncomputable def eRng (k : List D → R (List D)) (fa : FA) : FE := fun δ => (fa δ).bind fun as => (k as).bind fun ds => if ds.length ≤ 16777216 then .ok (.ow (.lst ds)) else .no
theorem ed_listRange1 {p' pos' : Pos} (hc : X.calm = true) (hml : X.mg "list" = none) (hm : X.mg "range" = none) (ha : AD X EX [a] fa) (hgl : Gl X "list" := by rfl) (hg : Gl X "range" := by rfl)
    (hs : starEach [a] X.env = [(false, eval a X.env)] := by rfl)
    (hs2 : starEach [.Call (.Name "range" p') [a] [] pos'] X.env = (false, eval (.Call (.Name "range" p') [a] [] pos') X.env) :: starEach [] X.env := by rfl) :
    ED X EX (.Call (.Name "list" p) [.Call (.Name "range" p') [a] [] pos'] [] pos) (eRng rng1 fa) := by
  intro pins s σ H Q I q
  obtain ⟨G, δ, g0, s0, o⟩ := q
  refine Call_ (ld_blt I hgl hml PyProof.Rows.boot_list (PyProof.Rows.callWith_type1 ?_ hs2 rfl))
  rw [hs2]
  show wpAny _ _ (spliced ((false, eval (.Call (.Name "range" p') [a] [] pos') X.env) :: backTo pos (starEach [] X.env))) _ _ s
  refine Calls.spliced_cons ?_
  refine Call_ (ld_blt I hg hm boot_range (PyProof.Rows.callWith_type1 (thn (ha pos' pins s σ H _ I (tDa.seq g0 s0 o (P := fun vs H1 => ∃ j G1, Same G1 H1 ∧ vs = [.int j] ∧ j.natAbs < 4611686018427387904 ∧ j.toNat ≤ 16777216 ∧ Out X.K (EX σ) G1 H1 (.ok (.ow (.lst (zints 0 j.toNat)))) Q) fun ds vs G' H' _ st r o' => ?_)) fun us s1 ⟨vs, H1, I1, r1, q1⟩ => ?_) hs rfl))
  · cases r with
    | nil => exact False.elim o'
    | cons h t =>
      cases t with
      | cons _ _ => cases h <;> exact False.elim o'
      | nil =>
        cases h with
        | int j =>
          simp only [rng1] at o'
          split at o'
          · rename_i hj
            simp only [R.bind_ok, zints_len] at o'
            split at o'
            · rename_i hl
              exact ⟨j, G', st.gh, rfl, hj, hl, o'⟩
            · exact o'.elim
          · exact o'.elim
        | _ => exact False.elim o'
  · obtain ⟨j, G1, sg, rfl, hj, hl, o'⟩ := q1
    obtain ⟨u, rfl, t, rfl⟩ := r1.one
    refine call_range_1 ?_
    refine Calls.spliced_nil ?_
    have hl' : (j - 0).toNat ≤ 16777216 := by simpa using hl
    refine listOfRange hc I1 (by omega) (by omega) (by omega) (by omega) hl' ?_
    rw [Int.sub_zero]
    exact out_own o' sg (zints_has 0 _)

noncomputable def gP (i j : Nat) : FG := fun d Δ => match d with
  | .tup [a, b] => .ok ((Δ.set i (.sh a)).set j (.sh b))
  | .lst [a, b] => .ok ((Δ.set i (.sh a)).set j (.sh b))
  | _ => .no
theorem gd_pair {i j k : Nat} {x y : Str} {p1 p2 : Pos} (hc : X.calm = true) (hN : X.N.Nodup) (hi : X.N[i]? = some x := by rfl) (hj : X.N[j]? = some y := by rfl) (hx : Loc X.env.scope x := by first | exact Or.inl rfl | exact Or.inr rfl) (hy : Loc X.env.scope y := by first | exact Or.inl rfl | exact Or.inr rfl)
    (hf : X.fn x = true ∨ X.env.scope.names.lookup x = some .local := by first | exact .inl rfl | exact .inr rfl | assumption) (hf2 : X.fn y = true ∨ X.env.scope.names.lookup y = some .local := by first | exact .inl rfl | exact .inr rfl | assumption)
    (hn : (assignEach [.Name x p1, .Name y p2] X.env).length = 2 := by rfl) (hst : (assignEach [.Name x p1, .Name y p2] X.env).findIdx? (·.1) = none := by rfl)
    (hs : (assignEach [.Name x p1, .Name y p2] X.env).map (·.2) = assign (.Name x p1) X.env :: (assignEach [.Name y p2] X.env).map (·.2) := by rfl) (hs2 : (assignEach [.Name y p2] X.env).map (·.2) = assign (.Name y p2) X.env :: (assignEach [] X.env).map (·.2) := by rfl) :
    GD X EX (.Tuple [.Name x p1, .Name y p2] k pos) (gP i j) :=
  PG.imp (pg_seq hc (pgs_cons (pg_name hN hi hx hf) (pgs_cons (pg_name hN hj hy hf2) pgs_nil hs2) hs) hn hst) fun v σ H Q ⟨H0, G0, G, Δ, O, d, E, r, q⟩ => by
    cases r with
    | tup h r =>
      cases r with
      | nil => exact False.elim q
      | cons r1 r =>
        cases r with
        | nil => exact False.elim q
        | cons r2 r =>
          cases r with
          | nil => exact ⟨_, _, rfl, .inl (Same.tupS E.st.gh h), rfl, _, _, rfl, _, _, rfl, rfl, q _ G H O ((E.put r1).put r2) (Same.refl _)⟩
          | cons _ _ => exact False.elim q
    | lst h r =>
      cases r with
      | nil => exact False.elim q
      | cons r1 r =>
        cases r with
        | nil => exact False.elim q
        | cons r2 r =>
          cases r with
          | nil => exact ⟨_, _, rfl, .inr (E.st.gh.seq h), rfl, _, _, rfl, _, _, rfl, rfl, q _ G H O ((E.put r1).put r2) (Same.refl _)⟩
          | cons _ _ => exact False.elim q
    | _ => exact False.elim q
noncomputable def sUnp (fg : FG) (js : List Nat) (f : FE) : FS := fun Δ => match f (vsh (gsome js Δ)) with
  | .ok w => (match fg w.d (gsome js Δ) with
    | .ok Δ' => .nx Δ'
    | _ => .no)
  | .ex x => .ex x (gsome js Δ)
  | .no => .no
theorem sd_unp {fg : FG} (js : List Nat) {e tg : Expr} (he : ED X EX e f) (hg : GD X EX tg fg) (hs : swapsWithSole [tg] e pos.line X.env = pure false := by rfl) (hw : swappedStores [tg] e X.env = pure none := by rfl)
    (h1 : (assignEach [tg] X.env).map (·.2) = [assign tg X.env] := by rfl) : SD X EX (.Assign [tg] e pos) (sUnp fg js f) :=
  PS.imp (ps_asg he hg hs hw h1) fun D σ H ⟨H0, G0, G, Δ, O, E, q⟩ => by
    obtain ⟨G1, O1, sg, E1⟩ := E.gsome js
    unfold sUnp at q
    refine ⟨G1, vsh (gsome js Δ), E1.st.gh, E1.gsh, ?_⟩
    cases e1 : f (vsh (gsome js Δ)) with
    | ok w =>
      simp only [e1] at q
      refine WP.intro fun v G' H' st r => ⟨H0, G0, G', gsome js Δ, O1, w.d, E1.grow st, r, ?_⟩
      cases e2 : fg w.d (gsome js Δ) with
      | ok Δ' => simp only [e2] at q; exact fun σ' G2 H2 O2 E2 s2 => q σ' G2 H2 O2 E2 (sg.trans (st.gg.trans s2))
      | ex x => simp only [e2] at q; exact q.elim
      | no => simp only [e2] at q; exact q.elim
    | ex x => simp only [e1] at q; exact q σ G1 H O1 E1 sg
    | no => simp only [e1] at q; exact q.elim

end
end L3
namespace L3
open PySem PySem.Spec PyProof.Rows L2
section
variable {K : PySem.W.Frag} {x qual : Str} {st : Stmt} {f : Addr} {fd : FuncData} {ps : List Str}
theorem Fun.binds1 (F : Fun K x qual st f fd) (hl : ps.length = 1) (h : ∀ (kV doc pm : Value) (an : Option Addr) (cdv ct a : Value), bindArgs (PySem.W.fnOf x qual (defArgs st) (defBody st) (defScope st) .none kV doc pm an cdv ct) ⟨[a], []⟩ = pure (ps.zip [a])) : Binds K fd ps [] :=
  F.binds fun kV doc pm an cdv ct us hu => match us, hu.trans hl with | [a], _ => h kV doc pm an cdv ct a
theorem Fun.binds2 (F : Fun K x qual st f fd) (hl : ps.length = 2) (h : ∀ (kV doc pm : Value) (an : Option Addr) (cdv ct a b : Value), bindArgs (PySem.W.fnOf x qual (defArgs st) (defBody st) (defScope st) .none kV doc pm an cdv ct) ⟨[a, b], []⟩ = pure (ps.zip [a, b])) : Binds K fd ps [] :=
  F.binds fun kV doc pm an cdv ct us hu => match us, hu.trans hl with | [a, b], _ => h kV doc pm an cdv ct a b
theorem Fun.binds3 (F : Fun K x qual st f fd) (hl : ps.length = 3) (h : ∀ (kV doc pm : Value) (an : Option Addr) (cdv ct a b c : Value), bindArgs (PySem.W.fnOf x qual (defArgs st) (defBody st) (defScope st) .none kV doc pm an cdv ct) ⟨[a, b, c], []⟩ = pure (ps.zip [a, b, c])) : Binds K fd ps [] :=
  F.binds fun kV doc pm an cdv ct us hu => match us, hu.trans hl with | [a, b, c], _ => h kV doc pm an cdv ct a b c
end
end L3

namespace L3
open PySem PySem.Spec PyProof.Rows L2
structure ZApart (z TI TO i1 i2 : Addr) : Prop where
  TIz : TI ≠ z
  TOz : TO ≠ z
  i1z : i1 ≠ z
  i2z : i2 ≠ z
  TITO : TI ≠ TO
  TIi1 : TI ≠ i1
  TIi2 : TI ≠ i2
  TOi1 : TO ≠ i1
  TOi2 : TO ≠ i2
  i12 : i1 ≠ i2
section
variable {X : Cx} {EX : EXS} {a b : Expr} {fa : FA} {elts : List Expr} {x1 : Nat} {tp p pos : Pos}
end
end L3

namespace L3
open PySem PySem.Spec PyProof.Rows L2
noncomputable def met (is : List Int) : List Int := PyProof.Rows.firstMet (fun i => is.getD i 0) is.length
theorem ints_are {K : PySem.W.Frag} {G : Hp} : ∀ {vs : List V} {ds : List D} {us : List Value} {is : List Int}, HasL K G vs ds → Vals vs us → intsD ds = some is → IntsAre us is
  | _, _, _, _, .nil, r, e => by cases r; cases e; exact .nil
  | _, _, _, _, .cons h t, r, e => by
    cases r with
    | cons r1 r2 =>
      cases h with
      | int x =>
        obtain ⟨tk, rfl⟩ := r1
        simp only [intsD] at e
        obtain ⟨zs, q, rfl⟩ := Option.map_eq_some_iff.mp e
        exact .cons x tk (ints_are t r2 q)
      | _ => cases e
section
variable {X : Cx} {EX : EXS} {a : Expr} {f : FE} {p p' pos pos' : Pos}
end
end L3

namespace L3
open PySem PySem.Spec PyProof.Rows L2
noncomputable def keyD : D → Option Key
  | .int i => some (.inl i)
  | .str x => some (.inr x)
  | _ => none
theorem keyD_V {K : PySem.W.Frag} {G : Hp} {v : V} {d : D} {k : Key} (r : Has K G v d) (e : keyD d = some k) : v = kV k := by
  cases r <;> first | (cases e; rfl) | cases e
section
variable {α : Type}
noncomputable def valA (kvs : List (Key × α)) (k : Key) : Option α := (kvs.find? fun kv => decide (kv.1 = k)).map (·.2)
noncomputable def putA (kvs : List (Key × α)) (k : Key) (v : α) : List (Key × α) := if (kvs.any fun kv => decide (kv.1 = k)) = true then kvs.map (fun kv => if kv.1 = k then (kv.1, v) else kv) else kvs ++ [(k, v)]
noncomputable def dropA (kvs : List (Key × α)) (k : Key) : List (Key × α) := kvs.filter fun kv => decide (kv.1 ≠ k)
noncomputable def hasA (kvs : List (Key × α)) (k : Key) : Bool := (valA kvs k).isSome
end
theorem putK_eq (kvs : List (Key × V)) (k : Key) (v : V) : putK kvs k v = putA kvs k v := rfl
theorem has_val {K : PySem.W.Frag} {G : Hp} : ∀ {kvs : List (Key × V)} {kds : List (Key × D)} (k : Key), kvs.map (·.1) = kds.map (·.1) → HasL K G (kvs.map (·.2)) (kds.map (·.2)) → (valV kvs k).isSome = hasA kds k ∧ ∀ d, valA kds k = some d → ∃ v, valV kvs k = some v ∧ Has K G v d
  | [], [], k, _, _ => ⟨rfl, fun d e => by cases e⟩
  | [], _ :: _, k, e, _ => by simp at e
  | _ :: _, [], k, e, _ => by simp at e
  | (x, v) :: kvs, (y, d) :: kds, k, e, r => by
    simp only [List.map_cons, List.cons.injEq] at e
    obtain ⟨e1, e2⟩ := e
    subst e1
    cases r with
    | cons h r =>
      obtain ⟨i1, i2⟩ := has_val (kvs := kvs) (kds := kds) k e2 r
      by_cases q : x = k
      · have a1 : valV ((x, v) :: kvs) k = some v := valV_pos q
        have a2 : valA ((x, d) :: kds) k = some d := by unfold valA; rw [List.find?_cons_of_pos (by simpa using q)]; rfl
        refine ⟨by unfold hasA; rw [a1, a2]; rfl, fun d' e' => ?_⟩
        rw [a2] at e'
        cases e'
        exact ⟨v, a1, h⟩
      · have a1 : valV ((x, v) :: kvs) k = valV kvs k := valV_neg q
        have a2 : valA ((x, d) :: kds) k = valA kds k := by unfold valA; rw [List.find?_cons_of_neg (by simpa using q)]
        refine ⟨by unfold hasA at i1 ⊢; rw [a1, a2]; exact i1, fun d' e' => ?_⟩
        rw [a2] at e'
        rw [a1]
        exact i2 d' e'
theorem any_keys {α β : Type} : ∀ {kvs : List (Key × α)} {kds : List (Key × β)} (k : Key), kvs.map (·.1) = kds.map (·.1) → (kvs.any fun kv => decide (kv.1 = k)) = kds.any fun kv => decide (kv.1 = k)
  | [], [], _, _ => rfl
  | [], _ :: _, k, e => by simp at e
  | _ :: _, [], k, e => by simp at e
  | (x, v) :: kvs, (y, d) :: kds, k, e => by
    simp only [List.map_cons, List.cons.injEq] at e
    obtain ⟨e1, e2⟩ := e
    subst e1
    rw [List.any_cons, List.any_cons, any_keys k e2]
theorem has_put {K : PySem.W.Frag} {G : Hp} {kvs : List (Key × V)} {kds : List (Key × D)} (k : Key) {v : V} {d : D} (e : kvs.map (·.1) = kds.map (·.1)) (r : HasL K G (kvs.map (·.2)) (kds.map (·.2))) (h : Has K G v d) :
    (putK kvs k v).map (·.1) = (putA kds k d).map (·.1) ∧ HasL K G ((putK kvs k v).map (·.2)) ((putA kds k d).map (·.2)) := by
  rw [putK_eq]
  unfold putA
  rw [any_keys k e]
  split
  · have all : ∀ {kvs : List (Key × V)} {kds : List (Key × D)}, kvs.map (·.1) = kds.map (·.1) → HasL K G (kvs.map (·.2)) (kds.map (·.2)) →
        (kvs.map (fun kv => if kv.1 = k then (kv.1, v) else kv)).map (·.1) = (kds.map (fun kv => if kv.1 = k then (kv.1, d) else kv)).map (·.1) ∧ HasL K G ((kvs.map (fun kv => if kv.1 = k then (kv.1, v) else kv)).map (·.2)) ((kds.map (fun kv => if kv.1 = k then (kv.1, d) else kv)).map (·.2)) := by
      intro kvs
      induction kvs with
      | nil =>
        intro kds e r
        cases kds with
        | nil => exact ⟨rfl, .nil⟩
        | cons _ _ => simp at e
      | cons p kvs ih =>
        intro kds e r
        cases kds with
        | nil => simp at e
        | cons q kds =>
          obtain ⟨x, u⟩ := p
          obtain ⟨y, w⟩ := q
          simp only [List.map_cons, List.cons.injEq] at e
          obtain ⟨e1, e2⟩ := e
          subst e1
          cases r with
          | cons h1 r =>
            obtain ⟨i1, i2⟩ := ih e2 r
            simp only [List.map_cons]
            by_cases z : x = k
            · simp only [z, if_true]
              exact ⟨by rw [i1], .cons h i2⟩
            · simp only [z, if_false]
              exact ⟨by rw [i1], .cons h1 i2⟩
    exact all e r
  · refine ⟨by rw [List.map_append, List.map_append, e]; rfl, ?_⟩
    rw [List.map_append, List.map_append]
    exact r.append (.cons h .nil)
section
variable {X : Cx} {EX : EXS} {pos : Pos}
noncomputable def eDic0 : FE := fun _ => .ok (.ow (.dic []))
theorem ed_dic0 : ED X EX (.Dict [] [] pos) eDic0 := PE.imp pe_dnewK fun σ H Q ⟨G, δ, g, s, o⟩ => fun p hp =>
  o (.ref p) (fun b => b = p) G _ (Step.own g hp _) (fun a e => by subst e; exact ⟨hp, g.free hp, by rw [upd_same]; simp⟩) (.dict upd_same rfl rfl .nil)
noncomputable def inK (neg : Bool) : D → D → R W
  | d, .dic kvs => match keyD d with
    | some k => .ok (.sh (.bl (if neg then !hasA kvs k else hasA kvs k)))
    | none => .no
  | _, _ => .no
theorem DGet.rd {H : Hp} {a : Addr} {kvs : List (Key × V)} {k : Key} (e : Rd H a (.dK kvs)) : DGet H a (kV k) (valV kvs k) := .inl ⟨kvs, k, e, rfl, rfl⟩
theorem op_notInK (hu : X.A.units + 64 < cLine) : OpD X (compareOp .NotIn) (inK true) := by
  intro pins s σ H x y v u Q I rx ry q
  obtain ⟨EX, G, a, b, g, ra, rb, o⟩ := q
  cases rb with
  | dic h hk r =>
    simp only [inK] at o
    split at o
    · rename_i k ek
      have ex := keyD_V ra ek
      subst ex
      cases ry
      refine d_notIn (by omega) I (DGet.rd (k := k) (Same.rdD g h)) rx fun s' I' => ⟨.bl _, H, I', rfl, ?_⟩
      rw [(has_val k hk r).1]
      exact out_sh o g (.bl _)
    · exact o.elim
  | _ => exact False.elim o
noncomputable def getK : D → D → R W
  | .dic kvs, d => match keyD d with
    | some k => (match valA kvs k with
      | some x => .ok (.sh x)
      | none => .no)
    | none => .no
  | _, _ => .no
theorem ed_getK {o i : Expr} {f g : FE} (hu : X.A.units + 64 < cLine) (ho : ED X EX o f) (hi : ED X EX i g) (hs : NoSl i := by intro _ _; rfl) : ED X EX (.Subscript o i pos) (eOp getK f g) :=
  PE.imp (pe_dget (by omega) ho hi hs) fun σ H Q ⟨G, δ, g0, s0, o⟩ => tD.seq g0 s0 o fun w v G1 H1 _ st1 r1 o1 => tD.seq st1.gh (s0.mono st1.gg) o1 fun w2 v2 G2 H2 _ st2 r2 o2 => by
    have r1 := r1.mono st2.gg
    revert r1 o2
    cases w.d with
    | dic kvs =>
      intro o2 r1
      simp only [getK] at o2
      split at o2
      · rename_i k ek
        split at o2
        · rename_i x ex
          cases r1 with
          | dic h hk r =>
            obtain ⟨u, e1, e2⟩ := (has_val k hk r).2 x ex
            have e3 := keyD_V r2 ek
            subst e3
            refine ⟨_, u, rfl, ?_, out_sh o2 st2.gh e2⟩
            rw [← e1]
            exact DGet.rd (Same.rdD st2.gh h)
        · exact o2.elim
      · exact o2.elim
    | _ => intro o2 _; exact False.elim o2
noncomputable def lenK : List D → R W
  | [.dic kvs] => .ok (.sh (.int kvs.length))
  | _ => .no
theorem call_lenK : CallD X (.builtin "len") lenK := by
  intro pins s σ H vs us Q I rv q
  obtain ⟨EX, G, ds, g, r, o⟩ := q
  cases r with
  | nil => exact False.elim o
  | cons h t =>
    cases t with
    | cons _ _ => cases h <;> exact False.elim o
    | nil =>
      cases h with
      | dic h hk r =>
        rename_i kvs kds
        obtain ⟨u, rfl, ru⟩ := rv.one
        cases ru
        refine d_len I (Same.rdD g h) fun t s' I' => ⟨.int _, H, I', ⟨t, rfl⟩, ?_⟩
        have hl : kds.length = kvs.length := by
          have := congrArg List.length hk
          rw [List.length_map, List.length_map] at this
          exact this.symm
        rw [← hl]
        exact out_sh o g (.int _)
      | _ => exact False.elim o
noncomputable def sPutK (i : Nat) (js : List Nat) (fk fe : FE) : FS := fun Δ => match (gsome js Δ)[i]? with
  | some (.ow (.dic kvs)) => (match fe (vsh (gsome js Δ)) with
    | .ok w => (match fk (vall (gsome js Δ)) with
      | .ok z => (match keyD z.d with
        | some k => if kvs.length < 16777216 then .nx ((gsome js Δ).set i (.ow (.dic (putA kvs k w.d)))) else .no
        | none => .no)
      | _ => .no)
    | _ => .no)
  | _ => .no
theorem sd_putK {i : Nat} (js : List Nat) {x : Str} {e ie : Expr} {fe fk : FE} {p1 tpos pos : Pos} (hu : X.A.units + 64 < cLine) (he : ED X EX e fe) (hi : ED X EX ie fk) (hN : X.N[i]? = some x := by rfl) (hv : Vis X.env.scope x := by first | exact Or.inl rfl | exact Or.inr (Or.inl rfl) | exact Or.inr (Or.inr rfl)) (hd : (x == ("__debug__" : Str)) = false := by decide)
    (hcd : (x == ("__classdict__" : Str)) = false := by decide) (hs : swapsWith e (some (.Subscript (.Name x p1) ie tpos)) pos.line X.env = pure false := by rfl) :
    SD X EX (.Assign [.Subscript (.Name x p1) ie tpos] e pos) (sPutK i js fk fe) :=
  PS.imp (ps_dput (by omega) (pe_var hN hv hd hcd) hi he hs) fun D σ H ⟨H0, G0, G, Δ, O, E, q⟩ => by
    obtain ⟨G1, O1, sg, E1⟩ := E.gsome js
    unfold sPutK at q
    generalize gsome js Δ = Δ1 at q E1
    split at q
    · rename_i kds e1
      obtain ⟨v0, s1, t⟩ := E1.ow i _ _ e1 rfl
      obtain ⟨a, kvs, rfl, m, hH, hk, rl⟩ := t.dict_of
      refine ⟨G1, vsh Δ1, E1.st.gh, E1.gsh, ?_⟩
      cases e2 : fe (vsh Δ1) with
      | ex x => rw [e2] at q; exact q.elim
      | no => rw [e2] at q; exact q.elim
      | ok w =>
        simp only [e2] at q
        refine WP.intro fun v G' H' st r => ?_
        have E2 := E1.grow st
        refine ⟨.ref a, s1, allG G' H' O1, vall Δ1, E2.aH, E2.gall, ?_⟩
        cases e3 : fk (vall Δ1) with
        | ex x => simp only [e3] at q; exact q.elim
        | no => simp only [e3] at q; exact q.elim
        | ok z =>
          simp only [e3] at q
          refine WP.intro fun v2 G2 H2 st2 r2 => ?_
          split at q
          · rename_i k ek
            split at q
            · rename_i hl
              have e4 := keyD_V r2 ek
              subst e4
              have hH2 : H2 a = some (.dK kvs) := st2.hh _ _ (st.hh _ _ hH)
              have hle : kvs.length = kds.length := by
                have := congrArg List.length hk
                rwa [List.length_map, List.length_map] at this
              obtain ⟨p1, p2⟩ := has_put k hk (rl.mono st.gg) r
              exact ⟨a, _, rfl, DPut.k hH2 (by rw [hle, sizeLine_eq]; exact hl), q σ G' _ _ ((E2.keep st2.hh).writeD s1 m p1 p2) (sg.trans st.gg)⟩
            · exact q.elim
          · exact q.elim
    · exact q.elim
end
end L3

namespace L3
open PySem PySem.Spec PyProof.Rows L2
section
variable {K : PySem.W.Frag} {H0 H1 : HB} {G0 G H : Hp} {σ : Sg} {Δ : SE} {O : OS}
end
section
variable {X : Cx} {EX : EXS} {pos : Pos}
end
section
variable {X : Cx} {EX : EXS} {pos : Pos}
end
theorem any_tr (t : Tn) : Sl.any (.tr t) = some t.d := rfl
end L3

namespace L3
open PySem PySem.Spec PyProof.Rows L2
section
variable {X : Cx} {EX : EXS} {a b : Expr} {fa : FA} {p pos : Pos}
end
end L3

namespace L3
open PySem PySem.Spec PyProof.Rows L2
section
variable {K : PySem.W.Frag} {G H : Hp}
theorem OwL.focus : ∀ {vs : List V} {ts : List Tn} {S : AS} {n : Nat} {t : Tn}, OwL K G H vs ts S → ts[n]? = some t → ∃ v S1, vs[n]? = some v ∧ Ow K G H v t S1 ∧ (∀ b, S1 b → S b) ∧
    ∀ {H' : Hp} {t' : Tn}, (∀ b o, S b → ¬ S1 b → H b = some o → H' b = some o) → Ow K G H' v t' S1 → OwL K G H' vs (ts.set n t') S
  | _, _, _, _, _, .nil, e => by simp at e
  | v :: vs, t0 :: ts, S, 0, t, .cons (S1 := S1) (S2 := S2) h r dj s1 s2, e => by
    have e : t0 = t := by simpa using e
    subst e
    refine ⟨v, S1, rfl, h, s1, fun {H' t'} f h' => ?_⟩
    exact .cons h' (r.mono (Same.refl _) (fun b o hb q => f b o (s2 b hb) (fun z => dj b z hb) q) fun _ q => q) dj s1 s2
  | v :: vs, t0 :: ts, S, n + 1, t, .cons (S1 := S1) (S2 := S2) h r dj s1 s2, e => by
    obtain ⟨v', S', e1, h', i', f'⟩ := OwL.focus (n := n) r (by simpa using e)
    refine ⟨v', S', by simpa using e1, h', fun b q => s2 b (i' b q), fun {H' t'} f h2 => ?_⟩
    exact .cons (h.mono (Same.refl _) (fun b o hb q => f b o (s1 b hb) (fun z => dj b hb (i' b z)) q) fun _ q => q) (f' (fun b o hb nb q => f b o (s2 b hb) nb q) h2) dj s1 s2
theorem OwL.append : ∀ {vs us : List V} {ts rs : List Tn} {S1 S2 S : AS}, OwL K G H vs ts S1 → OwL K G H us rs S2 → (∀ b, S1 b → S2 b → False) → (∀ b, S1 b → S b) → (∀ b, S2 b → S b) → OwL K G H (vs ++ us) (ts ++ rs) S
  | _, _, _, _, _, _, _, .nil, r, _, _, i2 => r.mono (Same.refl _) (fun _ _ _ q => q) i2
  | _, _, _, _, S1, S2, S, .cons (S1 := Sa) (S2 := Sb) h r dj s1 s2, q, d, i1, i2 =>
    .cons (S2 := fun b => Sb b ∨ S2 b) h (OwL.append r q (fun b z1 z2 => d b (s2 b z1) z2) (fun b z => .inl z) fun b z => .inr z) (fun b z1 z2 => by
      rcases z2 with z2 | z2
      · exact dj b z1 z2
      · exact d b (s1 b z1) z2) (fun b z => i1 b (s1 b z)) fun b z => by
      rcases z with z | z
      · exact i1 b (s2 b z)
      · exact i2 b z
end
section
variable {α : Type}
noncomputable def repA : List (Key × α) → Key → α → List (Key × α)
  | [], _, _ => []
  | (x, v) :: r, k, v' => if x = k then (x, v') :: r else (x, v) :: repA r k v'
theorem repA_keys : ∀ (l : List (Key × α)) (k : Key) (v : α), (repA l k v).map (·.1) = l.map (·.1)
  | [], _, _ => rfl
  | (x, v0) :: r, k, v => by
    unfold repA
    split
    · rfl
    · rw [List.map_cons, List.map_cons, repA_keys r k v]
end
noncomputable def unS : List (Key × Tn) → Option (List (Key × D))
  | [] => some []
  | (k, .sh d) :: r => (unS r).map ((k, d) :: ·)
  | _ => none
theorem unS_some : ∀ {kts : List (Key × Tn)} {kds : List (Key × D)}, unS kts = some kds → kts = kds.map fun p => (p.1, Tn.sh p.2)
  | [], _, e => by cases e; rfl
  | (k, t) :: r, kds, e => by
    cases t with
    | sh d =>
      simp only [unS] at e
      cases q : unS r with
      | none => rw [q] at e; cases e
      | some l =>
        rw [q] at e
        cases e
        rw [unS_some q]
        rfl
    | _ => cases e
theorem unS_sh : ∀ kds : List (Key × D), unS (kds.map fun p => (p.1, Tn.sh p.2)) = some kds
  | [] => rfl
  | (k, d) :: r => by
    show (unS (r.map fun p => (p.1, Tn.sh p.2))).map ((k, d) :: ·) = _
    rw [unS_sh r]; rfl
section
variable {K : PySem.W.Frag} {G H : Hp}
theorem OwL.focusK (k : Key) : ∀ {kvs : List (Key × V)} {kts : List (Key × Tn)} {S : AS} {t : Tn}, kvs.map (·.1) = kts.map (·.1) → OwL K G H (kvs.map (·.2)) (kts.map (·.2)) S → valA kts k = some t →
    ∃ v S1, valV kvs k = some v ∧ Ow K G H v t S1 ∧ (∀ b, S1 b → S b) ∧
      ∀ {H' : Hp} {t' : Tn}, (∀ b o, S b → ¬ S1 b → H b = some o → H' b = some o) → Ow K G H' v t' S1 → OwL K G H' (kvs.map (·.2)) ((repA kts k t').map (·.2)) S
  | [], [], _, _, _, _, e => by cases e
  | [], _ :: _, _, _, e, _, _ => by simp at e
  | _ :: _, [], _, _, e, _, _ => by simp at e
  | (x, v) :: kvs, (y, t0) :: kts, S, t, e, r, h => by
    simp only [List.map_cons, List.cons.injEq] at e
    obtain ⟨e1, e2⟩ := e
    subst e1
    cases r with
    | cons hh r dj s1 s2 =>
      rename_i S1 S2
      by_cases q : x = k
      · have a2 : valA ((x, t0) :: kts) k = some t0 := by unfold valA; rw [List.find?_cons_of_pos (by simpa using q)]; rfl
        rw [a2] at h
        cases h
        refine ⟨v, S1, valV_pos q, hh, s1, fun {H' t'} f h' => ?_⟩
        unfold repA
        rw [if_pos q]
        exact .cons h' (r.mono (Same.refl _) (fun b o hb z => f b o (s2 b hb) (fun w => dj b w hb) z) fun _ z => z) dj s1 s2
      · have a2 : valA ((x, t0) :: kts) k = valA kts k := by unfold valA; rw [List.find?_cons_of_neg (by simpa using q)]
        rw [a2] at h
        obtain ⟨v', S', e1, h', i', f'⟩ := OwL.focusK k e2 r h
        refine ⟨v', S', by rw [valV_neg q]; exact e1, h', fun b z => s2 b (i' b z), fun {H' t'} f h2 => ?_⟩
        unfold repA
        rw [if_neg q]
        exact .cons (hh.mono (Same.refl _) (fun b o hb z => f b o (s1 b hb) (fun w => dj b hb (i' b w)) z) fun _ z => z) (f' (fun b o hb nb z => f b o (s2 b hb) nb z) h2) dj s1 s2
end
noncomputable def Sl.tree : Sl → Option (Tn × Bool)
  | .ow d => some (Tn.of d, false)
  | .tr t => some (t, false)
  | .lt t => some (t, true)
  | _ => none
noncomputable def Sl.mk (b : Bool) (t : Tn) : Sl := if b then .lt t else .tr t
theorem Sl.tree_own {s : Sl} {t : Tn} {b : Bool} (e : s.tree = some (t, b)) : s.own = some t := by
  cases s <;> first | (cases e; rfl) | cases e
theorem Sl.mk_own (b : Bool) (t : Tn) : (Sl.mk b t).own = some t := by cases b <;> rfl
theorem Sl.mk_lk (b : Bool) (t : Tn) : ∀ d, Sl.mk b t ≠ .lk d := by intro d; cases b <;> (intro z; cases z)
theorem Ev.mk_lt {K : PySem.W.Frag} {H0 : HB} {G0 G H : Hp} {σ : Sg} {Δ : SE} {O : OS} (E : Ev K H0 G0 G H σ Δ O) {i : Nat} {s : Sl} {t : Tn} {b : Bool} (e : Δ[i]? = some s) (q : s.tree = some (t, b)) (t' : Tn) : ∀ d, Sl.mk b t' = .lt d → σ[i]? = some (some (.ref (H0.b i))) := by
  intro d z
  cases b with
  | false => cases z
  | true =>
    cases s with
    | lt t0 => exact E.lt i t0 e
    | _ => cases q
theorem Ev.writeIn {K : PySem.W.Frag} {H0 : HB} {G0 G H : Hp} {σ : Sg} {Δ : SE} {O : OS} (E : Ev K H0 G0 G H σ Δ O) {i : Nat} {s : Sl} {t t' : Tn} {b : Bool} {v : V} {a : Addr} {o : HO} (e : Δ[i]? = some s) (q : s.tree = some (t, b)) (s1 : σ[i]? = some (some v)) (m : O i a) (t1 : Ow K G (upd H a o) v t' (O i)) :
    Ev K H0 G0 G (upd H a o) σ (Δ.set i (Sl.mk b t')) (setA O i (O i)) :=
  have ms := MStep.write E.st.gh m (E.out i a m).1 o
  E.step2 (Sl.mk_own b t') (Sl.mk_lk b t') (E.mk_lt e q t') ms.weak s1 (fun b hb => ⟨.inl hb, (E.out i b hb).1, ms.al b (E.out i b hb).2.2⟩) t1
theorem Ow.dic_of {K : PySem.W.Frag} {G H : Hp} {v : V} {kts : List (Key × Tn)} {S : AS} (t : Ow K G H v (.dic kts) S) : ∃ a kvs S1, v = .ref a ∧ S a ∧ H a = some (.dK kvs) ∧ kvs.map (·.1) = kts.map (·.1) ∧ (∀ b, S1 b → S b ∧ b ≠ a) ∧ OwL K G H (kvs.map (·.2)) (kts.map (·.2)) S1 := by
  cases t with
  | dic h hk ha sub r => exact ⟨_, _, _, rfl, ha, h, hk, sub, r⟩
section
variable {X : Cx} {EX : EXS} {pos : Pos}
noncomputable def sPutN (i : Nat) (f1 f2 fe : FE) : FS := fun Δ => match (Δ[i]?).bind Sl.tree with
  | some (.dic kts, lk) => (match fe (vsh Δ) with
    | .ok w => (match f1 (vall Δ) with
      | .ok z1 => (match keyD z1.d with
        | some k1 => (match valA kts k1 with
          | some (.dic kt2) => (match unS kt2 with
            | some kds => (match f2 (vall Δ) with
              | .ok z2 => (match keyD z2.d with
                | some k2 => if kds.length < 16777216 then .nx (Δ.set i (Sl.mk lk (.dic (repA kts k1 (Tn.of (.dic (putA kds k2 w.d))))))) else .no
                | none => .no)
              | _ => .no)
            | none => .no)
          | _ => .no)
        | none => .no)
      | _ => .no)
    | _ => .no)
  | _ => .no
theorem sd_putN {i : Nat} {x : Str} {e e1 e2 : Expr} {fe f1 f2 : FE} {p1 p2 tpos pos : Pos} (hu : X.A.units + 64 < cLine) (he : ED X EX e fe) (h1 : ED X EX e1 f1) (h2 : ED X EX e2 f2) (hN : X.N[i]? = some x := by rfl) (hv : Vis X.env.scope x := by first | exact Or.inl rfl | exact Or.inr (Or.inl rfl) | exact Or.inr (Or.inr rfl)) (hd : (x == ("__debug__" : Str)) = false := by decide)
    (hcd : (x == ("__classdict__" : Str)) = false := by decide) (hn1 : NoSl e1 := by intro _ _; rfl) (hs : swapsWith e (some (.Subscript (.Subscript (.Name x p1) e1 p2) e2 tpos)) pos.line X.env = pure false := by rfl) :
    SD X EX (.Assign [.Subscript (.Subscript (.Name x p1) e1 p2) e2 tpos] e pos) (sPutN i f1 f2 fe) :=
  PS.imp (ps_dput (by omega) (pe_dget (by omega) (pe_var hN hv hd hcd) h1 hn1) h2 he hs) fun D σ H ⟨H0, G0, G, Δ, O, E, q⟩ => by
    unfold sPutN at q
    split at q
    · rename_i kts lk e0
      obtain ⟨s, e1, etr⟩ := Option.bind_eq_some_iff.mp e0
      obtain ⟨v0, s1, t⟩ := E.ow i _ _ e1 (Sl.tree_own etr)
      obtain ⟨a, kvs, S1, rfl, m, hH, hk, sub, rl⟩ := t.dic_of
      refine ⟨G, vsh Δ, E.st.gh, E.gsh, ?_⟩
      cases e2 : fe (vsh Δ) with
      | ex x => simp only [e2] at q; exact q.elim
      | no => simp only [e2] at q; exact q.elim
      | ok w =>
        simp only [e2] at q
        refine WP.intro fun v G' H' st r => ?_
        have E2 := E.grow st
        refine ⟨.ref a, s1, allG G' H' O, vall Δ, E2.aH, E2.gall, ?_⟩
        cases e3 : f1 (vall Δ) with
        | ex x => simp only [e3] at q; exact q.elim
        | no => simp only [e3] at q; exact q.elim
        | ok z1 =>
          simp only [e3] at q
          refine WP.intro fun v1 G1 H1 st1 r1 => ?_
          split at q
          · rename_i k1 ek1
            split at q
            · rename_i kt2 ev
              split at q
              · rename_i kds eu
                have hv1 := keyD_V r1 ek1
                subst hv1
                have E3 := E2.keep st1.hh
                obtain ⟨vb, s1', t3⟩ := E3.ow i _ _ e1 (Sl.tree_own etr)
                obtain ⟨a', kvs', S1', ea, m', hH', hk', sub', rl'⟩ := t3.dic_of
                rw [s1] at s1'
                cases s1'
                cases ea
                obtain ⟨vc, Sc, ec, tc, ic, fc⟩ := OwL.focusK k1 hk' rl' ev
                have tc' := tc
                rw [unS_some eu] at tc'
                obtain ⟨c, kvc, rfl, mc, hHc, hkc, rlc⟩ := Ow.dict_of (kds := kds) tc'
                refine ⟨a, .ref c, rfl, ?_, ?_⟩
                · exact Or.inl ⟨kvs', k1, .inl hH', rfl, ec.symm⟩
                refine ⟨allG G' H1 O, vall Δ, E3.aH, E3.gall, ?_⟩
                cases e4 : f2 (vall Δ) with
                | ex x => simp only [e4] at q; exact q.elim
                | no => simp only [e4] at q; exact q.elim
                | ok z2 =>
                  simp only [e4] at q
                  refine WP.intro fun v2 G2 H2 st2 r2 => ?_
                  split at q
                  · rename_i k2 ek2
                    split at q
                    · rename_i hl
                      have hv2 := keyD_V r2 ek2
                      subst hv2
                      have E4 := E3.keep st2.hh
                      have hHc2 : H2 c = some (.dK kvc) := st2.hh _ _ hHc
                      have hle : kvc.length = kds.length := by
                        have := congrArg List.length hkc
                        rwa [List.length_map, List.length_map] at this
                      obtain ⟨p1, p2⟩ := has_put k2 hkc rlc r
                      have hca : c ≠ a := (sub' c (ic c mc)).2
                      refine ⟨c, _, rfl, DPut.k hHc2 (by rw [hle, sizeLine_eq]; exact hl), q σ G' _ _ (E4.writeIn e1 etr s1 (sub' c (ic c mc)).1 ?_) st.gg⟩
                      refine Ow.dic (S1 := S1') (by rw [upd_ne (Ne.symm hca)]; exact st2.hh _ _ hH') (by rw [repA_keys]; exact hk') m' sub' ?_
                      refine fc (fun b o hb nb z => ?_) (Ow.dict upd_same p1 mc p2)
                      rw [upd_ne (show b ≠ c from fun w => nb (by rw [w]; exact mc))]
                      exact st2.hh _ _ z
                    · exact q.elim
                  · exact q.elim
              · exact q.elim
            · exact q.elim
          · exact q.elim
    · exact q.elim
end
end L3

namespace L3
open PySem PySem.Spec PyProof.Rows L2
theorem has_drop {K : PySem.W.Frag} {G : Hp} (k : Key) : ∀ {kvs : List (Key × V)} {kds : List (Key × D)}, kvs.map (·.1) = kds.map (·.1) → HasL K G (kvs.map (·.2)) (kds.map (·.2)) → (dropK kvs k).map (·.1) = (dropA kds k).map (·.1) ∧ HasL K G ((dropK kvs k).map (·.2)) ((dropA kds k).map (·.2))
  | [], [], _, _ => ⟨rfl, .nil⟩
  | [], _ :: _, e, _ => by simp at e
  | _ :: _, [], e, _ => by simp at e
  | (x, v) :: kvs, (y, d) :: kds, e, r => by
    simp only [List.map_cons, List.cons.injEq] at e
    obtain ⟨e1, e2⟩ := e
    subst e1
    cases r with
    | cons h r =>
      obtain ⟨i1, i2⟩ := has_drop k (kvs := kvs) (kds := kds) e2 r
      by_cases q : x = k
      · have a1 : dropK ((x, v) :: kvs) k = dropK kvs k := dropK_pos q
        have a2 : dropA ((x, d) :: kds) k = dropA kds k := by unfold dropA; rw [List.filter_cons_of_neg (by simpa using q)]
        rw [a1, a2]
        exact ⟨i1, i2⟩
      · have a1 : dropK ((x, v) :: kvs) k = (x, v) :: dropK kvs k := dropK_neg q
        have a2 : dropA ((x, d) :: kds) k = (x, d) :: dropA kds k := by unfold dropA; rw [List.filter_cons_of_pos (by simpa using q)]
        rw [a1, a2]
        exact ⟨by rw [List.map_cons, List.map_cons, i1], .cons h i2⟩
section
variable {X : Cx} {EX : EXS} {pos : Pos}
noncomputable def sPopN (i : Nat) (f1 f2 : FE) : FS := fun Δ => match (Δ[i]?).bind Sl.tree with
  | some (.dic kts, lk) => (match f1 (vall Δ) with
      | .ok z1 => (match keyD z1.d with
        | some k1 => (match valA kts k1 with
          | some (.dic kt2) => (match unS kt2 with
            | some kds => (match f2 (vall Δ) with
              | .ok z2 => (match keyD z2.d with
                | some k2 => .nx (Δ.set i (Sl.mk lk (.dic (repA kts k1 (Tn.of (.dic (dropA kds k2)))))))
                | none => .no)
              | _ => .no)
            | none => .no)
          | _ => .no)
        | none => .no)
      | _ => .no)
  | _ => .no
theorem sd_popN {i : Nat} {x : Str} {e1 e2 : Expr} {f1 f2 : FE} {j : Nat} {p1 p2 p3 apos cpos pos : Pos} (hu : X.A.units + 64 < cLine) (h1 : ED X EX e1 f1) (h2 : ED X EX e2 f2) (hN : X.N[i]? = some x := by rfl) (hv : Vis X.env.scope x := by first | exact Or.inl rfl | exact Or.inr (Or.inl rfl) | exact Or.inr (Or.inr rfl)) (hd : (x == ("__debug__" : Str)) = false := by decide)
    (hcd : (x == ("__classdict__" : Str)) = false := by decide) (hn1 : NoSl e1 := by intro _ _; rfl) (hm : M2 X (.Subscript (.Name x p1) e1 p2) "pop" apos e2 (.Constant .none j p3) cpos := by exact ⟨rfl, rfl, rfl, rfl⟩)
    (hs : swapsWith (.Call (.Attribute (.Subscript (.Name x p1) e1 p2) "pop" apos) [e2, .Constant .none j p3] [] cpos) none pos.line X.env = pure false := by rfl) :
    SD X EX (.Expr (.Call (.Attribute (.Subscript (.Name x p1) e1 p2) "pop" apos) [e2, .Constant .none j p3] [] cpos) pos) (sPopN i f1 f2) :=
  PS.imp (ps_expr (pe_dpop2 (pe_dget (by omega) (pe_var hN hv hd hcd) h1 hn1) h2 pe_non hm) hs) fun D σ H ⟨H0, G0, G, Δ, O, E, q⟩ => by
    unfold sPopN at q
    split at q
    · rename_i kts lk e0
      obtain ⟨s, e1, etr⟩ := Option.bind_eq_some_iff.mp e0
      obtain ⟨v0, s1, t⟩ := E.ow i _ _ e1 (Sl.tree_own etr)
      obtain ⟨a, kvs, S1, rfl, m, hH, hk, sub, rl⟩ := t.dic_of
      refine ⟨.ref a, s1, allG G H O, vall Δ, E.aH, E.gall, ?_⟩
      cases e3 : f1 (vall Δ) with
      | ex x => simp only [e3] at q; exact q.elim
      | no => simp only [e3] at q; exact q.elim
      | ok z1 =>
        simp only [e3] at q
        refine WP.intro fun v1 G1 H1 st1 r1 => ?_
        split at q
        · rename_i k1 ek1
          split at q
          · rename_i kt2 ev
            split at q
            · rename_i kds eu
              have hv1 := keyD_V r1 ek1
              subst hv1
              have E3 := E.keep st1.hh
              obtain ⟨vb, s1', t3⟩ := E3.ow i _ _ e1 (Sl.tree_own etr)
              obtain ⟨a', kvs', S1', ea, m', hH', hk', sub', rl'⟩ := t3.dic_of
              rw [s1] at s1'
              cases s1'
              cases ea
              obtain ⟨vc, Sc, ec, tc, ic, fc⟩ := OwL.focusK k1 hk' rl' ev
              have tc' := tc
              rw [unS_some eu] at tc'
              obtain ⟨c, kvc, rfl, mc, hHc, hkc, rlc⟩ := Ow.dict_of (kds := kds) tc'
              refine ⟨a, .ref c, rfl, Or.inl ⟨kvs', k1, .inl hH', rfl, ec.symm⟩, c, rfl, .inl ⟨kvc, .inl hHc⟩, ?_⟩
              refine ⟨allG G H1 O, vall Δ, E3.aH, E3.gall, ?_⟩
              cases e4 : f2 (vall Δ) with
              | ex x => simp only [e4] at q; exact q.elim
              | no => simp only [e4] at q; exact q.elim
              | ok z2 =>
                simp only [e4] at q
                refine WP.intro fun v2 G2 H2 st2 r2 => ?_
                split at q
                · rename_i k2 ek2
                  have hv2 := keyD_V r2 ek2
                  subst hv2
                  have E4 := E3.keep st2.hh
                  have hHc2 : H2 c = some (.dK kvc) := st2.hh _ _ hHc
                  have hca : c ≠ a := (sub' c (ic c mc)).2
                  obtain ⟨p1, p2⟩ := has_drop k2 hkc rlc
                  have fin : ∀ o : HO, o = .dK (dropK kvc k2) → D.nx σ (upd H2 c o) := fun o eo => by
                    subst eo
                    refine q σ G _ _ (E4.writeIn e1 etr s1 (sub' c (ic c mc)).1 ?_) (Same.refl _)
                    refine Ow.dic (S1 := S1') (by rw [upd_ne (Ne.symm hca)]; exact st2.hh _ _ hH') (by rw [repA_keys]; exact hk') m' sub' ?_
                    refine fc (fun b o hb nb z => ?_) (Ow.dict upd_same p1 mc p2)
                    rw [upd_ne (show b ≠ c from fun w => nb (by rw [w]; exact mc))]
                    exact st2.hh _ _ z
                  refine ⟨kvc, k2, hHc2, rfl, fun v _ => fin _ rfl, fun en => ?_⟩
                  have : H2 = upd H2 c (.dK (dropK kvc k2)) := by
                    rw [dropK_no (valV_not en)]
                    funext b
                    by_cases z : b = c
                    · rw [z, upd_same, hHc2]
                    · rw [upd_ne z]
                  show D.nx σ H2
                  rw [this]
                  exact fin _ rfl
                · exact q.elim
            · exact q.elim
          · exact q.elim
        · exact q.elim
    · exact q.elim
noncomputable def sPutE (i : Nat) (f1 : FE) : FS := fun Δ => match (Δ[i]?).bind Sl.tree with
  | some (.dic kts, lk) => (match f1 (vall Δ) with
      | .ok z1 => (match keyD z1.d with
        | some k1 => if (valA kts k1).isSome then .no else if kts.length < 16777216 then .nx (Δ.set i (Sl.mk lk (.dic (kts ++ [(k1, .dic [])])))) else .no
        | none => .no)
      | _ => .no)
  | _ => .no
theorem sd_putE {i : Nat} {x : Str} {e1 : Expr} {f1 : FE} {p1 p2 tpos pos : Pos} (hu : X.A.units + 64 < cLine) (h1 : ED X EX e1 f1) (hN : X.N[i]? = some x := by rfl) (hv : Vis X.env.scope x := by first | exact Or.inl rfl | exact Or.inr (Or.inl rfl) | exact Or.inr (Or.inr rfl)) (hd : (x == ("__debug__" : Str)) = false := by decide)
    (hcd : (x == ("__classdict__" : Str)) = false := by decide) (hs : swapsWith (.Dict [] [] p2) (some (.Subscript (.Name x p1) e1 tpos)) pos.line X.env = pure false := by rfl) :
    SD X EX (.Assign [.Subscript (.Name x p1) e1 tpos] (.Dict [] [] p2) pos) (sPutE i f1) :=
  PS.imp (ps_dput (by omega) (pe_var hN hv hd hcd) h1 pe_dnewK hs) fun D σ H ⟨H0, G0, G, Δ, O, E, q⟩ => by
    unfold sPutE at q
    split at q
    · rename_i kts lk e0
      obtain ⟨s, e1, etr⟩ := Option.bind_eq_some_iff.mp e0
      intro p hp
      have E1 := E.keep (same_new hp (.dK []))
      obtain ⟨v0, s1, t⟩ := E1.ow i _ _ e1 (Sl.tree_own etr)
      obtain ⟨a, kvs, S1, rfl, m, hH, hk, sub, rl⟩ := t.dic_of
      refine ⟨.ref a, s1, allG G (upd H p (.dK [])) O, vall Δ, E1.aH, E1.gall, ?_⟩
      cases e3 : f1 (vall Δ) with
      | ex x => simp only [e3] at q; exact q.elim
      | no => simp only [e3] at q; exact q.elim
      | ok z1 =>
        simp only [e3] at q
        refine WP.intro fun v1 G1 H1 st1 r1 => ?_
        split at q
        · rename_i k1 ek1
          split at q
          · exact q.elim
          · rename_i hno
            split at q
            · rename_i hl
              have hv1 := keyD_V r1 ek1
              subst hv1
              have E3 := E1.keep st1.hh
              have hH1 : H1 a = some (.dK kvs) := st1.hh _ _ hH
              have hp1 : H1 p = some (.dK []) := st1.hh _ _ upd_same
              have hle : kvs.length = kts.length := by
                have := congrArg List.length hk
                rwa [List.length_map, List.length_map] at this
              have npO : ∀ j b, O j b → b ≠ p := fun j b hb z => (E.out j b hb).2.2 (by rw [z]; exact hp)
              have hap : a ≠ p := npO i a m
              refine ⟨a, _, rfl, DPut.k hH1 (by rw [hle, sizeLine_eq]; exact hl), ?_⟩
              have hany : (kvs.any fun kv => decide (kv.1 = k1)) = false := by
                rw [any_keys k1 hk]
                cases h : kts.any fun kv => decide (kv.1 = k1) with
                | false => rfl
                | true =>
                  exfalso
                  apply hno
                  unfold valA
                  rw [Option.isSome_map, List.find?_isSome]
                  exact List.any_eq_true.mp h
              have eput : putK kvs k1 (.ref p) = kvs ++ [(k1, .ref p)] := by
                rw [putK_eq]; unfold putA; rw [hany]; rfl
              rw [eput]
              have Gp : G p = none := E.st.gh.free hp
              have old : ∀ b o, H b = some o → H1 b = some o := fun b o z => st1.hh _ _ (same_new hp _ b o z)
              have ms : MStep2 (O i) G H G (upd H1 a (.dK (kvs ++ [(k1, .ref p)]))) := ⟨fun b o nb z => by rw [upd_ne (fun w => nb (by rw [w]; exact m))]; exact old b o z, fun b o z => by
                have : b ≠ a := fun w => by rw [w, (E.out i a m).1] at z; cases z
                rw [upd_ne this]; exact old b o (E.st.gh b o z), Same.refl _, fun b _ z _ => z⟩
              refine q σ G _ _ (E.step2 (S := fun b => O i b ∨ b = p) (Sl.mk_own lk _) (Sl.mk_lk lk _) (E.mk_lt e1 etr _) ms s1 (fun b hb => ?_) ?_) (Same.refl _)
              · rcases hb with hb | hb
                · refine ⟨.inl hb, (E.out i b hb).1, ?_⟩
                  by_cases w : b = a
                  · rw [w, upd_same]; simp
                  · rw [upd_ne w]
                    cases e : H b with
                    | none => exact absurd e (E.out i b hb).2.2
                    | some o => rw [old b o e]; simp
                · subst hb
                  exact ⟨.inr hp, Gp, by rw [upd_ne (Ne.symm hap), hp1]; simp⟩
              · refine Ow.dic (S1 := fun b => S1 b ∨ b = p) upd_same (by rw [List.map_append, List.map_append, hk]; rfl) (.inl m) (fun b hb => ?_) ?_
                · rcases hb with hb | hb
                  · exact ⟨.inl (sub b hb).1, (sub b hb).2⟩
                  · subst hb; exact ⟨.inr rfl, Ne.symm hap⟩
                · rw [List.map_append, List.map_append]
                  refine OwL.append (S2 := fun b => b = p) (rl.mono (Same.refl _) (fun b o hb z => ?_) fun _ z => z) (.cons (S1 := fun b => b = p) (S2 := fun _ => False) (.dic (S1 := fun _ => False) (by rw [upd_ne (Ne.symm hap)]; exact hp1) rfl rfl (fun _ z => z.elim) .nil) .nil (fun _ _ z => z) (fun _ z => z) fun _ z => z.elim) (fun b z1 z2 => npO i b (sub b z1).1 z2) (fun b z => .inl z) fun b z => .inr z
                  rw [upd_ne (sub b hb).2]
                  exact st1.hh _ _ z
            · exact q.elim
        · exact q.elim
    · exact q.elim
end
end L3

namespace L3
open PySem PySem.Spec PyProof.Rows L2
noncomputable def kD : Key → D
  | .inl i => .int i
  | .inr x => .str x
theorem has_kD {K : PySem.W.Frag} {G : Hp} (k : Key) : Has K G (kV k) (kD k) := by cases k <;> constructor
theorem has_kDs {K : PySem.W.Frag} {G : Hp} : ∀ ks : List Key, HasL K G (ks.map kV) (ks.map kD)
  | [] => .nil
  | k :: ks => .cons (has_kD k) (has_kDs ks)
theorem is_kV {P : Program} {w : World} {k : Key} {u : Value} (h : (mixKind P w).is k u = true) : RelV (kV k) u := by
  rcases keyIs_shape h with ⟨i, t, rfl, rfl⟩ | ⟨x, t, rfl, rfl⟩
  · exact ⟨t, rfl⟩
  · exact ⟨t, rfl⟩
theorem keys_vals {P : Program} {w : World} : ∀ {kvs : List (Key × V)} {vs : List (Key × Value)} {us : List Value}, KV kvs vs → us.length = vs.length → (∀ (j : Nat) v, us[j]? = some v → ∃ k x, vs[j]? = some (k, x) ∧ (mixKind P w).is k v = true) → Vals ((kvs.map (·.1)).map kV) us
  | [], vs, us, r, hl, _ => by
    have := r.length
    simp at this
    have : us = [] := List.eq_nil_of_length_eq_zero (by omega)
    subst this
    exact .nil
  | (k, v) :: kvs, vs, us, r, hl, h => by
    cases r with
    | cons h1 r =>
      rename_i q vs
      obtain ⟨k', x⟩ := q
      cases us with
      | nil => simp at hl
      | cons u us =>
        obtain ⟨k2, x2, e, i⟩ := h 0 u rfl
        have e : (k', x) = (k2, x2) := by simpa using e
        cases e
        have e1 : k = k' := h1.1
        subst e1
        exact .cons (is_kV i) (keys_vals r (by simpa using hl) fun j v e => by
          obtain ⟨a, b, c, d⟩ := h (j + 1) v (by simpa using e)
          exact ⟨a, b, by simpa using c, d⟩)
section
variable {X : Cx} {EX : EXS} {pos : Pos}
noncomputable def listK : List D → R W
  | [.dic kvs] => .ok (.ow (.lst (kvs.map fun p => kD p.1)))
  | _ => .no
theorem call_listK (hc : X.calm = true) : CallD X (.type "list") listK := by
  intro pins s σ H vs us Q I rv q
  obtain ⟨EX, G, ds, g, r, o⟩ := q
  cases r with
  | nil => exact False.elim o
  | cons h t =>
    cases t with
    | cons _ _ => cases h <;> exact False.elim o
    | nil =>
      cases h with
      | dic h hk r =>
        rename_i kvs kds
        obtain ⟨u, rfl, ru⟩ := rv.one
        cases ru
        obtain ⟨z, lo, ws, kv, dd⟩ := dk_rd I.hok (Same.rdD g h)
        obtain ⟨ep, da⟩ := dd.dictAt
        refine PySem.W.kdl_call (PySem.W.kdl_dict lo) (I.ok.hd hc) da (by rw [← kv.length]; exact z) fun h' tk acc c kk hat it => ?_
        have rv' : Vals ((kvs.map (·.1)).map kV) acc.toList := keys_vals kv (by rw [Array.length_toList]; exact it.1) fun j v e => it.2 j v (by rw [← Array.getElem?_toList]; exact e)
        have fr := I.hok.fresh (Nat.le_refl _)
        refine ⟨.ref _, upd H _ (.lst _), I.laid (t' := tk) kk (Nat.le_refl _) ⟨?_, acc.toList, c, rv', by simpa using hat⟩, rfl, ?_⟩
        · rw [List.length_map, List.length_map]; exact z
        · have e : (kds.map fun p => kD p.1) = (kvs.map (·.1)).map kD := by rw [hk, List.map_map]; rfl
          have o' : Out X.K EX G H (.ok (.ow (.lst ((kvs.map (·.1)).map kD)))) Q := by rw [← e]; exact o
          exact out_own o' g (has_kDs _) _ fr
      | _ => exact False.elim o
noncomputable def minK : List D → R W
  | [.dic kvs] => (match kvs with
    | [(.inl i, _)] => .ok (.sh (.int i))
    | _ => .no)
  | _ => .no
theorem call_minK (hc : X.calm = true) : CallD X (.builtin "min") minK := by
  intro pins s σ H vs us Q I rv q
  obtain ⟨EX, G, ds, g, r, o⟩ := q
  cases r with
  | nil => exact False.elim o
  | cons h t =>
    cases t with
    | cons _ _ => cases h <;> exact False.elim o
    | nil =>
      cases h with
      | dic h hk r =>
        rename_i kvs kds
        cases kds with
        | nil => exact False.elim o
        | cons p kds =>
          obtain ⟨k, d⟩ := p
          cases k with
          | inr x => exact False.elim o
          | inl i =>
            cases kds with
            | cons _ _ => exact False.elim o
            | nil =>
              obtain ⟨u, rfl, ru⟩ := rv.one
              cases ru
              obtain ⟨z, lo, ws, kv, dd⟩ := dk_rd I.hok (Same.rdD g h)
              obtain ⟨ep, da⟩ := dd.dictAt
              have hws : ∃ x, ws = [(.inl i, x)] := by
                have e1 := kv.keys
                rw [hk] at e1
                cases ws with
                | nil => simp at e1
                | cons q ws =>
                  cases ws with
                  | cons _ _ => simp at e1
                  | nil =>
                    obtain ⟨k', x⟩ := q
                    have : (.inl i : Key) = k' := by simpa using e1
                    subst this
                    exact ⟨x, rfl⟩
              obtain ⟨x, rfl⟩ := hws
              obtain ⟨oI, St, hit, W, st⟩ := (PySem.W.kdl_dict (knd := mixKind X.prog X.w) lo).iter X.A.in1 s (I.ok.hd hc) da
              refine call_min_walk (hit _ _ ⟨_, _, _, _, _, _, fun a b => decide ((fun _ => i) a < (fun _ => i) b), rfl, W, st, fun b hb => ?_, Nat.zero_lt_one, CmpOf.ints_lt (fun _ => i) (fun j v hj => ?_), fun v h' tk hP hk' => ?_⟩)
              · show b < (s.heap.push oI).objs.size
                rw [Heap.size_push]
                rcases List.mem_cons.mp hb with e | hb
                · rw [e]; exact Nat.lt_succ_self _
                · rw [List.mem_singleton.mp hb]; exact Nat.lt_succ_of_lt da.lt_size
              · obtain ⟨k, y, e1, e2⟩ := hj
                cases j with
                | zero =>
                  cases e1
                  exact is_kV e2
                | succ j => simp at e1
              · obtain ⟨k, y, e1, e2⟩ := hP
                have e1 : ((.inl i, x) : Key × Value) = (k, y) := by simpa [argBest] using e1
                cases e1
                obtain ⟨t, rfl⟩ := is_kV e2
                have old : ∀ b o, s.heap.get? b = some o → h'.get? b = some o := fun b o e =>
                  hk' b o (fun hm => absurd (Heap.lt_size e) (by rw [List.mem_singleton.mp hm]; exact Nat.lt_irrefl _)) (Heap.get?_push_of_some _ e)
                exact ⟨.int i, H, I.kept (t' := tk) old, ⟨t, rfl⟩, out_sh o g (.int _)⟩
      | _ => exact False.elim o
end
end L3

namespace L3
open PySem PySem.Spec PyProof.Rows L2
theorem extT_meets (l b : Addr) (xs ys : Array Value) (n m : Nat) (dd : Option Addr) (sl : Array (Option Value)) (h0 : ¬ (!xs.isEmpty && Builtin.List.listTooLong (xs.size + ys.size)) = true) (h1 : xs.size ≤ sizeLine) (h2 : xs.size + ys.size ≤ sizeLine + 1) :
    Meets (Builtin.«list.extend» ⟨[.ref l, .ref b], []⟩) (fun _ R s => s.heap.get? l = some { cls := .type "list", data := .seq xs n } ∧ s.heap.get? b = some ⟨.type "tuple", dd, .seq ys m, sl⟩ ∧
      R (.ok (.ret Value.none)) { s with heap := s.heap.update l (Obj.mapSeq fun z => z ++ ys), toks := s.toks }) :=
  .of_wp fun prog w A R s h => by
    obtain ⟨hp, g, d, tk, os⟩ := s
    obtain ⟨ha, hc, h⟩ := h
    have g1 := AutoSeq1.idx_int
    have g2 := AutoSeq1.sub_tuple_tuple
    have g3 := AutoSeq1.sub_list_list
    have g4 := AutoSeq1.sub_tuple_list
    have g5 := AutoSeq1.sub_list_tuple
    have hz : (xs ++ ys).size ≤ sizeLine + 1 := by rw [Array.size_append]; exact h2
    wp_walk using (wpAny_updateSeq ha rfl (hz := h1) (_hz' := hz)), wpAny_loadPart' ha, wpAny_loadPart' hc
    exact ⟨_, rfl, h⟩
section
variable {X : Cx} {EX : EXS} {pos : Pos}
noncomputable def rExtT (K : PySem.W.Frag) : V → List V → Hp → VK → Prop := fun x vs H Q => ∃ l b xs zs, x = .ref l ∧ vs = [.ref b] ∧ H l = some (.lst xs) ∧ SqT K H b zs ∧ xs.length + zs.length ≤ sizeLine ∧ Q .non (upd H l (.lst (xs ++ zs)))
theorem mt_extT : MtM X "list.extend" (rExtT X.K) := by
  intro pins s σ H x vs v us Q I rx rv h
  obtain ⟨l, b, xs, zs, rfl, rfl, hH, hB, hz, q⟩ := h
  cases rx
  obtain ⟨u, rfl, ru⟩ := rv.one
  cases ru
  obtain ⟨z, its, n, r, hl, e⟩ := I.lstM hH
  obtain ⟨its2, r2, ⟨o, e2, c2, n2, dat⟩, z2⟩ := I.tuple hB
  have hl2 := r2.length
  obtain ⟨cls, dd, data, sl⟩ := o
  simp only at c2 dat
  subst c2 dat
  have hsz : its.toArray.size + its2.toArray.size ≤ sizeLine := by rw [List.size_toArray, List.size_toArray]; omega
  have hlong : ¬ (!its.toArray.isEmpty && Builtin.List.listTooLong (its.toArray.size + its2.toArray.size)) = true := by
    rw [notLongL hsz, Bool.and_false]; simp
  refine call_meets PySem.F.slot_list_extend ⟨_, e, rfl⟩ PySem.F.entry_list_extend (PySem.F.args_list_extend_2 _ _) (extT_meets l b its.toArray its2.toArray n n2 dd sl hlong (by rw [List.size_toArray]; omega) (by omega)) ⟨e, e2, ?_⟩
  refine ⟨.non, _, I.lset (its' := its ++ its2) hH e (by simp) (r.append r2) ?_, rfl, q⟩
  rw [List.length_append]
  omega
noncomputable def sExt (i : Nat) (f : FE) : FS := fun Δ => match Δ[i]? with
  | some (.ow (.lst ds)) => (match f (vsh Δ) with
    | .ok w => (match w.d with
      | .tup es => if ds.length + es.length ≤ 16777216 then .nx (Δ.set i (.ow (.lst (ds ++ es)))) else .no
      | _ => .no)
    | _ => .no)
  | _ => .no
theorem sd_ext {i : Nat} {x : Str} {e : Expr} {f : FE} {p1 apos cpos : Pos} (he : ED X EX e f) (hN : X.N[i]? = some x := by rfl) (hv : Vis X.env.scope x := by first | exact Or.inl rfl | exact Or.inr (Or.inl rfl) | exact Or.inr (Or.inr rfl)) (hd : (x == ("__debug__" : Str)) = false := by decide)
    (hcd : (x == ("__classdict__" : Str)) = false := by decide) (hsw : swapsWith (.Call (.Attribute (.Name x p1) "extend" apos) [e] [] cpos) none pos.line X.env = pure false := by rfl)
    (hbase : attributeBase (.Name x p1) "extend" X.env (eval (.Name x p1) X.env) = eval (.Name x p1) X.env := by rfl)
    (hfew : ((backTo cpos (starEach [e] X.env)).all (fun x => !x.1) && (backToKw cpos (keywordEach [] X.env)).all (fun x => x.1.isSome)
      && decide ([e].length + ([] : List Keyword).length + (if ([] : List Keyword).isEmpty then 0 else 1) < 30)) = true := by rfl)
    (hline : (apos.endLine == cpos.line) = true := by rfl) (hs : starEach [e] X.env = (false, eval e X.env) :: starEach [] X.env := by rfl) (hplain : (backTo cpos (starEach [] X.env)).any (·.1) = false := by rfl) :
    SD X EX (.Expr (.Call (.Attribute (.Name x p1) "extend" apos) [e] [] cpos) pos) (sExt i f) :=
  PS.imp (ps_expr (pe_bm PySem.F.plainAttrs_list PySem.F.slot_list_extend PySem.F.type_list_extend mt_extT (pe_var hN hv hd hcd) (pa_cons he pa_nil hs) hbase hfew hline hs hplain) hsw) fun D σ H ⟨H0, G0, G, Δ, O, E, q⟩ => by
    unfold sExt at q
    split at q
    · rename_i ds e1
      obtain ⟨v0, s1, t⟩ := E.ow i _ _ e1 rfl
      obtain ⟨a, vs, rfl, m, hH, rl⟩ := t.list_of
      refine ⟨.ref a, s1, .inl ⟨rfl, _, SqL.of hH⟩, G, vsh Δ, E.st.gh, E.gsh, ?_⟩
      cases e2 : f (vsh Δ) with
      | ex x => simp only [e2] at q; exact q.elim
      | no => simp only [e2] at q; exact q.elim
      | ok w =>
        simp only [e2] at q
        refine WP.intro fun v G' H' st r => ?_
        revert q r
        cases w.d with
        | tup es =>
          intro q r
          simp only at q
          split at q
          · rename_i hz
            cases r with
            | tup h r => exact ⟨a, _, vs, _, rfl, rfl, st.hh _ _ hH, Same.tupS st.gh h, by rw [rl.length, r.length, sizeLine_eq]; exact hz, q σ G' _ _ ((E.grow st).writeL s1 m ((rl.mono st.gg).append r)) st.gg⟩
          · exact q.elim
        | _ => intro q _; exact False.elim q
    · exact q.elim
noncomputable def sPopL (i j : Nat) : FS := fun Δ => match Δ[j]? with
  | some (.ow (.lst ds)) => (match ds[ds.length - 1]? with
    | some d => .nx ((Δ.set j (.ow (.lst ds.dropLast))).set i (.sh d))
    | none => .no)
  | _ => .no
theorem HasL.dropLast {K : PySem.W.Frag} {G : Hp} {vs : List V} {ds : List D} (h : HasL K G vs ds) : HasL K G vs.dropLast ds.dropLast := by
  rw [List.dropLast_eq_take, List.dropLast_eq_take, h.length]
  exact h.take _
theorem sd_popL {i j : Nat} {x y : Str} {p1 p2 apos cpos : Pos} (hN : X.N.Nodup) (hi : X.N[i]? = some x := by rfl) (hx : Loc X.env.scope x := by first | exact Or.inl rfl | exact Or.inr rfl) (hj : X.N[j]? = some y := by rfl) (hv : Vis X.env.scope y := by first | exact Or.inl rfl | exact Or.inr (Or.inl rfl) | exact Or.inr (Or.inr rfl)) (hd : (y == ("__debug__" : Str)) = false := by decide)
    (hcd : (y == ("__classdict__" : Str)) = false := by decide) (hs : swapsWith (.Call (.Attribute (.Name y p1) "pop" apos) [] [] cpos) (some (.Name x p2)) pos.line X.env = pure false := by rfl)
    (hf : X.fn x = true ∨ X.env.scope.names.lookup x = some .local := by first | exact .inl rfl | exact .inr rfl | assumption)
    (hbase : attributeBase (.Name y p1) "pop" X.env (eval (.Name y p1) X.env) = eval (.Name y p1) X.env := by rfl) (hline : (apos.endLine == cpos.line) = true := by rfl) :
    SD X EX (.Assign [.Name x p2] (.Call (.Attribute (.Name y p1) "pop" apos) [] [] cpos) pos) (sPopL i j) :=
  PS.imp (ps_set hN hi hx (pe_bm0 PySem.F.plainAttrs_list PySem.F.slot_list_pop PySem.F.type_list_pop mt_pop (pe_var hj hv hd hcd) hbase hline) hs hf) fun D σ H ⟨H0, G0, G, Δ, O, E, q⟩ => by
    unfold sPopL at q
    split at q
    · rename_i ds e1
      obtain ⟨v0, s1, t⟩ := E.ow j _ _ e1 rfl
      obtain ⟨a, vs, rfl, m, hH, rl⟩ := t.list_of
      split at q
      · rename_i d e2
        rw [← rl.length] at e2
        obtain ⟨v, e3, hv⟩ := rl.get e2
        exact ⟨.ref a, s1, .inl ⟨rfl, _, SqL.of hH⟩, a, vs, v, rfl, rfl, hH, e3, q _ G _ _ ((E.writeL s1 m rl.dropLast).put hv) (Same.refl _)⟩
      · exact q.elim
    · exact q.elim
noncomputable def sAppPop (i j : Nat) (f : FE) : FS := fun Δ => match Δ[i]? with
  | some (.ow (.lst ds)) => (match Δ[j]? with
    | some (.ow (.lst es)) => if i = j then .no else if ds.length < 16777216 then (match f (vall Δ) with
      | .ok z => (match z.d with
        | .int k => if 0 ≤ k ∧ k < (es.length : Int) ∧ es.length ≤ 16777216 then (match es[k.toNat]? with
          | some d => .nx ((Δ.set j (.ow (.lst (es.eraseIdx k.toNat)))).set i (.ow (.lst (ds ++ [d]))))
          | none => .no) else .no
        | _ => .no)
      | _ => .no) else .no
    | _ => .no)
  | _ => .no
theorem HasL.eraseIdx {K : PySem.W.Frag} {G : Hp} : ∀ {vs : List V} {ds : List D} (n : Nat), HasL K G vs ds → HasL K G (vs.eraseIdx n) (ds.eraseIdx n)
  | _, _, _, .nil => .nil
  | _, _, 0, .cons _ r => r
  | _, _, n + 1, .cons h r => .cons h (HasL.eraseIdx n r)
theorem sd_appPop {i j : Nat} {x y : Str} {e : Expr} {f : FE} {p1 p2 bpos dpos apos cpos : Pos} (he : ED X EX e f) (hN : X.N[i]? = some x := by rfl) (hv : Vis X.env.scope x := by first | exact Or.inl rfl | exact Or.inr (Or.inl rfl) | exact Or.inr (Or.inr rfl)) (hd : (x == ("__debug__" : Str)) = false := by decide)
    (hcd : (x == ("__classdict__" : Str)) = false := by decide) (hN2 : X.N[j]? = some y := by rfl) (hv2 : Vis X.env.scope y := by first | exact Or.inl rfl | exact Or.inr (Or.inl rfl) | exact Or.inr (Or.inr rfl)) (hd2 : (y == ("__debug__" : Str)) = false := by decide)
    (hcd2 : (y == ("__classdict__" : Str)) = false := by decide)
    (hb2 : attributeBase (.Name y p2) "pop" X.env (eval (.Name y p2) X.env) = eval (.Name y p2) X.env := by rfl)
    (hw2 : ((backTo dpos (starEach [e] X.env)).all (fun x => !x.1) && (backToKw dpos (keywordEach [] X.env)).all (fun x => x.1.isSome)
      && decide ([e].length + ([] : List Keyword).length + (if ([] : List Keyword).isEmpty then 0 else 1) < 30)) = true := by rfl)
    (hl2 : (bpos.endLine == dpos.line) = true := by rfl) (hs2 : starEach [e] X.env = (false, eval e X.env) :: starEach [] X.env := by rfl) (hp2 : (backTo dpos (starEach [] X.env)).any (·.1) = false := by rfl)
    (hsw : swapsWith (.Call (.Attribute (.Name x p1) "append" apos) [.Call (.Attribute (.Name y p2) "pop" bpos) [e] [] dpos] [] cpos) none pos.line X.env = pure false := by rfl)
    (hbase : attributeBase (.Name x p1) "append" X.env (eval (.Name x p1) X.env) = eval (.Name x p1) X.env := by rfl)
    (hfew : ((backTo cpos (starEach [.Call (.Attribute (.Name y p2) "pop" bpos) [e] [] dpos] X.env)).all (fun x => !x.1) && (backToKw cpos (keywordEach [] X.env)).all (fun x => x.1.isSome)
      && decide ([Expr.Call (.Attribute (.Name y p2) "pop" bpos) [e] [] dpos].length + ([] : List Keyword).length + (if ([] : List Keyword).isEmpty then 0 else 1) < 30)) = true := by rfl)
    (hline : (apos.endLine == cpos.line) = true := by rfl) (hs : starEach [.Call (.Attribute (.Name y p2) "pop" bpos) [e] [] dpos] X.env = (false, eval (.Call (.Attribute (.Name y p2) "pop" bpos) [e] [] dpos) X.env) :: starEach [] X.env := by rfl) (hplain : (backTo cpos (starEach [] X.env)).any (·.1) = false := by rfl) :
    SD X EX (.Expr (.Call (.Attribute (.Name x p1) "append" apos) [.Call (.Attribute (.Name y p2) "pop" bpos) [e] [] dpos] [] cpos) pos) (sAppPop i j f) :=
  PS.imp (ps_expr (pe_bm PySem.F.plainAttrs_list PySem.F.slot_list_append PySem.F.type_list_append mt_append (pe_var hN hv hd hcd) (pa_cons (pe_bm PySem.F.plainAttrs_list PySem.F.slot_list_pop PySem.F.type_list_pop mt_popAt (pe_var hN2 hv2 hd2 hcd2) (pa_cons he pa_nil hs2) hb2 hw2 hl2 hs2 hp2) pa_nil hs) hbase hfew hline hs hplain) hsw) fun D σ H ⟨H0, G0, G, Δ, O, E, q⟩ => by
    unfold sAppPop at q
    split at q
    · rename_i ds e1
      split at q
      · rename_i es e2
        split at q
        · exact q.elim
        · rename_i hij
          split at q
          · rename_i hz
            obtain ⟨v0, s1, t⟩ := E.ow i _ _ e1 rfl
            obtain ⟨a, vs, rfl, m, hH, rl⟩ := t.list_of
            obtain ⟨v1, s2, t2⟩ := E.ow j _ _ e2 rfl
            obtain ⟨b, us, rfl, m2, hB, rb⟩ := t2.list_of
            have hab : a ≠ b := fun z => hij (E.dj i j a m (by rw [z]; exact m2))
            refine ⟨.ref a, s1, .inl ⟨rfl, _, SqL.of hH⟩, .ref b, s2, .inl ⟨rfl, _, SqL.of hB⟩, allG G H O, vall Δ, E.aH, E.gall, ?_⟩
            cases e3 : f (vall Δ) with
            | ex x => simp only [e3] at q; exact q.elim
            | no => simp only [e3] at q; exact q.elim
            | ok z =>
              simp only [e3] at q
              refine WP.intro fun v2 G2 H2 st2 r2 => ?_
              revert q r2
              cases z.d with
              | int k =>
                intro q r2
                cases r2
                simp only at q
                split at q
                · rename_i hk
                  cases e4 : es[k.toNat]? with
                  | none => simp only [e4] at q; exact q.elim
                  | some d =>
                    simp only [e4] at q
                    obtain ⟨v, e5, hv5⟩ := rb.get e4
                    have sz : seqIndex? k us.length = some k.toNat := by
                      rw [rb.length]
                      unfold seqIndex?
                      simp only
                      have hn : ¬ k < 0 := by omega
                      rw [if_neg hn, if_pos (by simp [hk.1, hk.2.1])]
                    refine ⟨b, us, k, k.toNat, v, rfl, rfl, st2.hh _ _ hB, by omega, by omega, sz, e5, a, vs, v, rfl, rfl, by rw [upd_ne hab]; exact st2.hh _ _ hH, by rw [rl.length, sizeLine_eq]; exact hz, ?_⟩
                    have E3 := (E.keep st2.hh).writeL s2 m2 (rb.eraseIdx k.toNat)
                    have m' : setA O j (O j) i a := by rw [setA_ne hij]; exact m
                    exact q σ G _ _ (E3.writeL s1 m' (rl.append (.cons hv5 .nil))) (Same.refl _)
                · exact q.elim
              | _ => intro q _; exact False.elim q
          · exact q.elim
      · exact q.elim
    · exact q.elim
noncomputable def sSetF (i : Nat) (f : FE) : FS := fun Δ => match f (vall Δ) with
  | .ok (.ow (.lst ds)) => if ds.all flatD = true then .nx (Δ.set i (.ow (.lst ds))) else .no
  | _ => .no
theorem HasL.ofFl {K : PySem.W.Frag} {G G' : Hp} : ∀ {vs : List V} {ds : List D}, HasL K G vs ds → ds.all flatD = true → HasL K G' vs ds
  | _, _, .nil, _ => .nil
  | _, _, .cons h r, f => by
    rw [List.all_cons, Bool.and_eq_true] at f
    exact .cons (h.ofFl f.1) (HasL.ofFl r f.2)
theorem sd_setF {i : Nat} {x : Str} {e : Expr} {f : FE} {pos' : Pos} (he : ED X EX e f) (hN : X.N.Nodup) (hi : X.N[i]? = some x := by rfl) (hx : Loc X.env.scope x := by first | exact Or.inl rfl | exact Or.inr rfl) (hs : swapsWith e (some (.Name x pos')) pos.line X.env = pure false := by rfl)
    (hf : X.fn x = true ∨ X.env.scope.names.lookup x = some .local := by first | exact .inl rfl | exact .inr rfl | assumption) : SD X EX (.Assign [.Name x pos'] e pos) (sSetF i f) :=
  PS.imp (ps_set hN hi hx he hs hf) fun D σ H ⟨H0, G0, G, Δ, O, E, q⟩ => by
    unfold sSetF at q
    refine ⟨allG G H O, vall Δ, E.aH, E.gall, ?_⟩
    split at q
    · rename_i ds e1
      split at q
      · rename_i fl
        rw [e1]
        intro v S G' H' st fr t
        obtain ⟨a, vs, rfl, m, hH, rl⟩ := t.list_of
        have nG : G a = none := E.st.gh.free (fr a m).1
        refine q _ G H' _ ((E.keep st.hh).putO (S := fun b => b = a) (fun b hb => ?_) rfl (fun _ z => by cases z) (Ow.list hH rfl (rl.ofFl fl)) fun j b hj hb => ?_) (Same.refl _)
        · subst hb
          exact ⟨E.st.hh.free (fr b m).1, nG, by rw [hH]; simp⟩
        · subst hb
          exact (E.out j b hj).2.2 (fr b m).1
      · exact q.elim
    · exact q.elim
noncomputable def get2D (kvs : List (Key × D)) (b c : D) : R W := match keyD b with
  | some k => (match valA kvs k with
    | some x => .ok (.sh x)
    | none => .ok (.sh c))
  | none => .no
noncomputable def eGet2 (f g h : FE) : FE := fun δ => (f δ).bind fun a => match a.d with
  | .dic kvs => (g δ).bind fun b => (h δ).bind fun c => get2D kvs b.d c.d
  | _ => .no
theorem ed_get2 {o e e2 : Expr} {f g h : FE} {apos cpos : Pos} (hu : X.A.units + 64 < cLine) (ho : ED X EX o f) (he : ED X EX e g) (hf : ED X EX e2 h) (hm : M2 X o "get" apos e e2 cpos := by exact ⟨rfl, rfl, rfl, rfl⟩) :
    ED X EX (.Call (.Attribute o "get" apos) [e, e2] [] cpos) (eGet2 f g h) :=
  PE.imp (pe_dget2 (by omega) ho he hf hm) fun σ H Q ⟨G, δ, g0, s0, o⟩ => tD.seq g0 s0 o fun w v G1 H1 e1 st1 r1 o1 => by
    revert r1 o1
    cases w.d with
    | dic kvs =>
      intro r1 o1
      cases r1 with
      | dic hh hk r =>
        rename_i a0 kv0
        refine ⟨_, rfl, .inl ⟨_, Same.rdD st1.gh hh⟩, ?_⟩
        refine tD.seq st1.gh (s0.mono st1.gg) o1 fun w2 v2 G2 H2 _ st2 r2 o2 => tD.seq st2.gh (s0.mono (st1.gg.trans st2.gg)) o2 fun w3 v3 G3 H3 _ st3 r3 o3 => ?_
        unfold get2D at o3
        split at o3
        · rename_i k ek
          have ev := keyD_V r2 ek
          subst ev
          have hg := Same.rdD st3.gh (Same.rdD st3.gg (Same.rdD st2.gg hh))
          refine ⟨_, DGet.rd hg, ?_⟩
          obtain ⟨i1, i2⟩ := has_val (K := X.K) (G := G3) k hk (r.mono (st2.gg.trans st3.gg))
          split at o3
          · rename_i x ex
            obtain ⟨u, e5, e6⟩ := i2 x ex
            rw [e5]
            exact out_sh o3 st3.gh e6
          · rename_i ex
            have : valV kv0 k = none := by
              cases q : valV kv0 k with
              | none => rfl
              | some u =>
                rw [q] at i1
                unfold hasA at i1
                rw [ex] at i1
                cases i1
            rw [this]
            exact out_sh o3 st3.gh r3
        · exact o3.elim
    | _ => intro _ o1; exact False.elim o1
end
end L3

namespace L3
open PySem PySem.Spec PyProof.Rows L2
noncomputable def startM (n : Nat) (ds : List D) (t : Tn) : SE := (start3 n ds).set ds.length (.lt t)
noncomputable def bodyM (n : Nat) (g : FS) (ds : List D) (t : Tn) : Option Tn := match g (startM n ds t) with
  | .nx Δ => (match Δ[ds.length]? with
    | some (.lt t') => some t'
    | _ => none)
  | _ => none
noncomputable def spM (K : PySem.W.Frag) (n : Nat) (F : List D → Tn → Option Tn) : Sp := fun vs H Q _ => ∃ vs0 a0, vs = vs0 ++ [.ref a0] ∧ vs0.length = n ∧ ∃ G ds t S t', Same G H ∧ HasL K G vs0 ds ∧ Ow K G H (.ref a0) t S ∧ (∀ a, S a → G a = none ∧ H a ≠ none) ∧ F ds t = some t' ∧
  ∀ G' H' S', MStep2 S G H G' H' → (∀ a, S' a → (S a ∨ H a = none) ∧ G' a = none ∧ H' a ≠ none) → Ow K G' H' (.ref a0) t' S' → Q .non H'
theorem ev_startM {K : PySem.W.Frag} {G H h0 : Hp} {vs us : List V} {ds : List D} {N : List Str} {b : Nat → Addr} (g : Same G H) (i0 : Same h0 H) (r : HasL K G vs ds) (hl : (vs ++ us).length ≤ N.length) : Ev K ⟨h0, b⟩ G G H (L2.start N (vs ++ us)) (start3 N.length ds) (fun _ _ => False) := by
  have key : ∀ (i : Nat) (s : Sl), (start3 N.length ds)[i]? = some s → (∃ d, s = .sh d ∧ ds[i]? = some d) ∨ s = .no := fun i s e => by
    unfold start3 at e
    by_cases hi : i < ds.length
    · rw [List.getElem?_append_left (by rw [List.length_map]; exact hi), List.getElem?_map] at e
      obtain ⟨d, e1, e2⟩ := Option.map_eq_some_iff.mp e
      exact .inl ⟨d, e2.symm, e1⟩
    · rw [List.getElem?_append_right (by rw [List.length_map]; omega), List.getElem?_replicate] at e
      split at e
      · cases e; exact .inr rfl
      · cases e
  refine ⟨⟨i0, g, Same.refl _, fun _ n _ => n⟩, ?_, fun i d e => ?_, fun i z d e zo => ?_, fun _ _ ha => ha.elim, fun _ _ _ ha => ha.elim, fun i d e => ?_, fun i d e => ?_⟩
  · unfold L2.start start3
    have := r.length
    simp only [List.length_append, List.length_map, List.length_replicate] at hl ⊢
    omega
  · rcases key i _ e with ⟨d', q, q2⟩ | q
    · cases q
      obtain ⟨v, e1, h⟩ := r.get q2
      refine ⟨v, ?_, h⟩
      unfold L2.start
      have hi : i < vs.length := (List.getElem?_eq_some_iff.mp e1).1
      rw [List.getElem?_append_left (by rw [List.length_map, List.length_append]; omega), List.getElem?_map, List.getElem?_append_left hi, e1]
      rfl
    · cases q
  · rcases key i _ e with ⟨d', q, _⟩ | q <;> (subst q; cases zo)
  · rcases key i _ e with ⟨d', q, _⟩ | q <;> cases q
  · rcases key i _ e with ⟨d', q, _⟩ | q <;> cases q
open Classical in
theorem fn_M {c : Bool} {P : Program} {w : World} {K : PySem.W.Frag} {mg : Str → Option Value} {base : Heap} {x qual : Str} {st : Stmt} {f : Addr} {fd : FuncData} {N ps : List Str} {k n : Nat} {g : FS} (F : Fun K x qual st f fd) (S : FnScope N ps (defScope st)) (hn : ps.length = n + 1) (hle : ps.length ≤ N.length)
    (hbody : ∀ (cdv : Value) (A : Around) (outer : List Env) (s : Shared) (H : Hp) (E : XK), RoomC c k (A.deeper (envOfC qual (defScope st) s.heap.objs.size f cdv)) →
      BD (cxN c P w K mg base N qual (defScope st) f cdv A outer s H E) (fun _ => EXof K E) (defBody st) g) : FnX P w K mg base c (k + 1) f fd ps (spM K n (bodyM N.length g)) := by
  refine Fun.okX F S (fun vs H Q E h => ?_) fun cdv A outer s H vs Q E hr h => ⟨_, hbody cdv A outer s H E hr, ?_⟩
  · obtain ⟨vs0, a0, rfl, hl, _⟩ := h
    rw [List.length_append, hl, hn]; rfl
  obtain ⟨vs0, a0, rfl, hl, G, ds, t, S0, t', g0, r, tw, out, ef, q⟩ := h
  have i0 : Same (fun b => if S0 b then none else H b) H := fun b o e => by
    simp only at e
    split at e
    · cases e
    · exact e
  have E0 := ev_startM (N := N) (b := fun _ => a0) (us := [.ref a0]) g0 i0 r (by rw [List.length_append, hl]; show n + 1 ≤ _; omega)
  have hlen : ds.length = n := by rw [← r.length]; exact hl
  have hs : (L2.start N (vs0 ++ [.ref a0]))[ds.length]? = some (some (.ref a0)) := by
    unfold L2.start
    rw [List.getElem?_append_left (by rw [List.length_map, List.length_append, hl, hlen]; exact Nat.lt_succ_self _), List.getElem?_map, List.getElem?_append_right (by rw [hl, hlen]; exact Nat.le_refl _), hl, hlen, Nat.sub_self]
    rfl
  have E1 := E0.putO (i := ds.length) (z := .lt t) (S := S0) (fun a ha => ⟨by simp only; rw [if_pos ha], (out a ha).1, (out a ha).2⟩) rfl (fun _ z => by cases z) tw (fun j a ha => ha.elim) (fun _ _ => rfl)
  rw [set_same hs] at E1
  refine ⟨⟨fun b => if S0 b then none else H b, fun _ => a0⟩, G, G, _, _, E1, ?_⟩
  unfold bodyM at ef
  have e2 : (start3 N.length ds).set ds.length (.lt t) = startM N.length ds t := rfl
  rw [e2]
  cases e : g (startM N.length ds t) with
  | nx Δ =>
    rw [e] at ef
    simp only at ef
    split at ef
    · rename_i t2 e3
      cases ef
      intro σ G' H' O E' _
      obtain ⟨v, s1, t3⟩ := E'.ow _ _ _ e3 rfl
      have s2 := E'.lt _ _ e3
      rw [s1] at s2
      cases s2
      refine q G' H' (O ds.length) ⟨fun b o nb z => E'.st.hh b o (by simp only; rw [if_neg nb]; exact z), E'.st.gh, E'.st.gg, fun b nb z1 z2 => E'.st.nw b z1 (by simp only; rw [if_neg nb]; exact z2)⟩ (fun a ha => ?_) t3
      obtain ⟨k1, k2, k3⟩ := E'.out _ a ha
      refine ⟨?_, k1, k3⟩
      simp only at k2
      split at k2
      · rename_i z; exact .inl z
      · exact .inr k2
    · cases ef
  | rt w => rw [e] at ef; cases ef
  | ex x Δ => rw [e] at ef; cases ef
  | bk Δ => rw [e] at ef; cases ef
  | ct Δ => rw [e] at ef; cases ef
  | no => rw [e] at ef; cases ef
noncomputable def FnMd (P : Program) (w : World) (K : PySem.W.Frag) (mg : Str → Option Value) (base : Heap) (c : Bool) (x : Str) (k n : Nat) (ps : List Str) (F : List D → Tn → Option Tn) : Prop :=
  ∃ f fd, FnX P w K mg base c k f fd ps (spM K n F) ∧ mg x = some (.ref f) ∧ PySem.W.keepIn K (.ref f) = true ∧ Binds K fd ps []
theorem fnm_mk {c : Bool} {P : Program} {w : World} {K : PySem.W.Frag} {mg : Str → Option Value} {base : Heap} {x : Str} {st : Stmt} {f : Addr} {fd : FuncData} {ps : List Str} {k n : Nat} {Fn : List D → Tn → Option Tn} (F : Fun K x x st f fd) (hm : mg x = some (.ref f)) (hb : Binds K fd ps [])
    (ok : FnX P w K mg base c k f fd ps (spM K n Fn)) : FnMd P w K mg base c x k n ps Fn := ⟨f, fd, ok, hm, F.kp, hb⟩
section
variable {X : Cx} {EX : EXS} {e : Expr} {es : List Expr} {x : Str} {pp pos : Pos} {c : Bool} {k k' : Nat} {ps : List Str}
theorem pe_callX {sp : Sp} {ta : TA} {f : Addr} {fd : FuncData} (hr : RoomC c k' X.A) (lk : Lk X EX) (ok : FnX X.prog X.w X.K X.mg X.base c k f fd ps sp) (hm : X.mg x = some (.ref f)) (kp : PySem.W.keepIn X.K (.ref f) = true) (hb : Binds X.K fd ps []) (ha : PA X (e :: es) ta) (hk : k ≤ k') (hg : Gl X x) (hdb : (x == ("__debug__" : Str)) = false)
    (he : starEach (e :: es) X.env = (false, eval e X.env) :: starEach es X.env) (hpl : (backTo pos (starEach es X.env)).any (·.1) = false) :
    PE X (.Call (.Name x pp) (e :: es) [] pos) (fun σ H Q => ta σ H fun vs H1 => sp vs H1 Q (EXE X.K (EX σ))) := by
  intro pins s σ H Q I q
  refine wpAny_Call_Name_kw (ld_glob I hg hm ?_ hdb)
  refine PySem.W.callWith_K (h₀ := X.base) I.ok.mod.kin kp (thn (ha pos pins s σ H _ I q) fun us s1 ⟨vs, H1, I1, r, q⟩ => ⟨I1.kIn, ?_⟩) he hpl
  exact run_fnX ok (hr.mono hk) hb lk I1 r q
noncomputable def sCallM (i : Nat) (F : List D → Tn → Option Tn) (f1 f2 : FE) : FS := fun Δ => match (Δ[i]?).bind Sl.tree with
  | some (.dic kts, lk) => (match f1 (vsh Δ) with
    | .ok w1 => (match f2 (vsh Δ) with
      | .ok w2 => (match F [w1.d, w2.d] (.dic kts) with
        | some t' => .nx (Δ.set i (Sl.mk lk t'))
        | none => .no)
      | _ => .no)
    | _ => .no)
  | _ => .no
theorem sd_callM {i : Nat} {y : Str} {e1 e2 : Expr} {f1 f2 : FE} {F : List D → Tn → Option Tn} {p3 : Pos} (hr : RoomC c k' X.A) (lk : Lk X EX) (h : FnMd X.prog X.w X.K X.mg X.base c x k 2 ps F) (h1 : ED X EX e1 f1) (h2 : ED X EX e2 f2) (hk : k ≤ k' := by decide)
    (hN : X.N[i]? = some y := by rfl) (hv : Vis X.env.scope y := by first | exact Or.inl rfl | exact Or.inr (Or.inl rfl) | exact Or.inr (Or.inr rfl)) (hd : (y == ("__debug__" : Str)) = false := by decide) (hcd : (y == ("__classdict__" : Str)) = false := by decide)
    (hg : Gl X x := by rfl) (hdb : (x == ("__debug__" : Str)) = false := by decide) (hs1 : starEach [e1, e2, .Name y p3] X.env = (false, eval e1 X.env) :: starEach [e2, .Name y p3] X.env := by rfl) (hs2 : starEach [e2, .Name y p3] X.env = (false, eval e2 X.env) :: starEach [.Name y p3] X.env := by rfl) (hs3 : starEach [.Name y p3] X.env = (false, eval (.Name y p3) X.env) :: starEach [] X.env := by rfl)
    (hpl : (backTo pos (starEach [e2, .Name y p3] X.env)).any (·.1) = false := by rfl) (hsw : swapsWith (.Call (.Name x pp) [e1, e2, .Name y p3] [] pos) none pos.line X.env = pure false := by rfl) {pos0 : Pos} (hsw0 : swapsWith (.Call (.Name x pp) [e1, e2, .Name y p3] [] pos) none pos0.line X.env = pure false := by rfl) :
    SD X EX (.Expr (.Call (.Name x pp) [e1, e2, .Name y p3] [] pos) pos0) (sCallM i F f1 f2) := by
  obtain ⟨f, fd, ok, hm, kp, hb⟩ := h
  refine PS.imp (ps_expr (pe_callX hr lk ok hm kp hb (pa_cons h1 (pa_cons h2 (pa_cons (pe_var hN hv hd hcd) pa_nil hs3) hs2) hs1) hk hg hdb hs1 hpl) hsw0) fun D σ H ⟨H0, G0, G, Δ, O, E, q⟩ => ?_
  unfold sCallM at q
  split at q
  · rename_i kts lk e0
    obtain ⟨s, e1, etr⟩ := Option.bind_eq_some_iff.mp e0
    refine ⟨G, vsh Δ, E.st.gh, E.gsh, ?_⟩
    cases q1 : f1 (vsh Δ) with
    | ex x => simp only [q1] at q; exact q.elim
    | no => simp only [q1] at q; exact q.elim
    | ok w1 =>
      simp only [q1] at q
      refine WP.intro fun v1 G1 H1 st1 r1 => ?_
      have E1 := E.grow st1
      refine ⟨G1, vsh Δ, E1.st.gh, E1.gsh, ?_⟩
      cases q2 : f2 (vsh Δ) with
      | ex x => simp only [q2] at q; exact q.elim
      | no => simp only [q2] at q; exact q.elim
      | ok w2 =>
        simp only [q2] at q
        refine WP.intro fun v2 G2 H2 st2 r2 => ?_
        have E2 := E1.grow st2
        obtain ⟨v0, s1, t0⟩ := E2.ow i _ _ e1 (Sl.tree_own etr)
        refine ⟨v0, s1, ?_⟩
        split at q
        · rename_i t' ef
          obtain ⟨a0, _, _, rfl, _⟩ := t0.dic_of
          refine ⟨[v1, v2], a0, rfl, rfl, G2, [w1.d, w2.d], .dic kts, O i, t', E2.st.gh, .cons (r1.mono st2.gg) (.cons r2 .nil), t0, fun a ha => ⟨(E2.out i a ha).1, (E2.out i a ha).2.2⟩, ef, fun G' H' S' ms fr t1 => ?_⟩
          exact q σ G' H' _ (E2.step2 (Sl.mk_own lk t') (Sl.mk_lk lk t') (E2.mk_lt e1 etr t') ms s1 fr t1) ((st1.gg.trans st2.gg).trans ms.gg)
        · exact q.elim
  · exact q.elim
noncomputable def sRet2 (i j : Nat) : FS := fun Δ => if i = j then .no else match (Δ[i]?).bind Sl.tree, (Δ[j]?).bind Sl.tree with
  | some (t1, false), some (t2, false) => .rt (.tr (.tup [t1, t2]))
  | _, _ => .no
theorem sd_ret2 {i j x1 : Nat} {x y : Str} {p1 p2 p3 : Pos} (hN : X.N[i]? = some x := by rfl) (hv : Vis X.env.scope x := by first | exact Or.inl rfl | exact Or.inr (Or.inl rfl) | exact Or.inr (Or.inr rfl)) (hd : (x == ("__debug__" : Str)) = false := by decide)
    (hcd : (x == ("__classdict__" : Str)) = false := by decide) (hN2 : X.N[j]? = some y := by rfl) (hv2 : Vis X.env.scope y := by first | exact Or.inl rfl | exact Or.inr (Or.inl rfl) | exact Or.inr (Or.inr rfl)) (hd2 : (y == ("__debug__" : Str)) = false := by decide)
    (hcd2 : (y == ("__classdict__" : Str)) = false := by decide) (hs1 : starEach [.Name x p1, .Name y p2] X.env = (false, eval (.Name x p1) X.env) :: starEach [.Name y p2] X.env := by rfl) (hs2 : starEach [.Name y p2] X.env = (false, eval (.Name y p2) X.env) :: starEach [] X.env := by rfl) :
    SD X EX (.Return (some (.Tuple [.Name x p1, .Name y p2] x1 p3)) pos) (sRet2 i j) :=
  PS.imp (ps_ret (pe_tup (pa_cons (pe_var hN hv hd hcd) (pa_cons (pe_var hN2 hv2 hd2 hcd2) pa_nil hs2) hs1))) fun D σ H ⟨H0, G0, G, Δ, O, E, q⟩ => by
    unfold sRet2 at q
    split at q
    · exact q.elim
    · rename_i hij
      split at q
      · rename_i t1 t2 e1 e2
        obtain ⟨z1, a1, b1⟩ := Option.bind_eq_some_iff.mp e1
        obtain ⟨z2, a2, b2⟩ := Option.bind_eq_some_iff.mp e2
        obtain ⟨v1, s1, w1⟩ := E.ow i _ _ a1 (Sl.tree_own b1)
        obtain ⟨v2, s2, w2⟩ := E.ow j _ _ a2 (Sl.tree_own b2)
        refine ⟨v1, s1, v2, s2, by rw [sizeLine_eq]; show 2 ≤ _; decide, fun p hp => ?_⟩
        have np : ∀ k b, O k b → b ≠ p := fun k b hb z => (E.out k b hb).2.2 (by rw [z]; exact hp)
        have grow : ∀ k b o, O k b → H b = some o → upd H p (.tup [v1, v2]) b = some o := fun k b o hb z => by rw [upd_ne (np k b hb)]; exact z
        refine q (.ref p) (fun b => b = p ∨ O i b ∨ O j b) G _ (E.st.trans (Step.own E.st.gh hp _)) (fun a ha => ?_) ?_
        · rcases ha with ha | ha | ha
          · subst ha; exact ⟨E.st.hh.free hp, E.st.gh.free hp, by rw [upd_same]; simp⟩
          · obtain ⟨k1, k2, k3⟩ := E.out i a ha
            exact ⟨k2, k1, by rw [upd_ne (np i a ha)]; exact k3⟩
          · obtain ⟨k1, k2, k3⟩ := E.out j a ha
            exact ⟨k2, k1, by rw [upd_ne (np j a ha)]; exact k3⟩
        · refine Ow.tup (S1 := fun b => O i b ∨ O j b) upd_same (.inl rfl) (fun b hb => ⟨.inr hb, ?_⟩) (.cons (S1 := O i) (S2 := O j) (w1.mono (Same.refl _) (grow i) fun _ z => z) (.cons (S1 := O j) (S2 := fun _ => False) (w2.mono (Same.refl _) (grow j) fun _ z => z) .nil (fun _ _ z => z) (fun _ z => z) fun _ z => z.elim) (fun b z1 z2 => hij (E.dj i j b z1 z2)) (fun _ z => .inl z) fun _ z => .inr z)
          rcases hb with hb | hb
          · exact np i b hb
          · exact np j b hb
      · exact q.elim
end
end L3

namespace L3
open PySem PySem.Spec PyProof.Rows L2
noncomputable def OFld (K : PySem.W.Frag) (cs : List Str) (f : Str) : Prop := ∀ c, cs.contains c = true → ∀ C, ClsAt K c C → Cls K C ∧ NoAttr K C f
theorem OFld.nil {K : PySem.W.Frag} {f : Str} : OFld K [] f := fun c h => by cases h
theorem ClsAt.same {K : PySem.W.Frag} {c : Str} {C C' : Addr} (a : ClsAt K c C) (b : ClsAt K c C') : C' = C := by
  unfold ClsAt at a b
  rw [a] at b
  injection b with b
  injection b with b
  injection b with b
  exact b.symm
theorem OFld.one {K : PySem.W.Frag} {c : Str} {C : Addr} {cs : List Str} {f : Str} (a : ClsAt K c C) (k : Cls K C) (n : NoAttr K C f) (r : OFld K cs f) : OFld K (c :: cs) f := fun c' h C' a' => by
  rw [List.contains_cons, Bool.or_eq_true] at h
  rcases h with h | h
  · have e := beq_iff_eq.mp h
    subst e
    rw [a.same a']
    exact ⟨k, n⟩
  · exact r c' h C' a'
section
variable {X : Cx} {EX : EXS} {e : Expr} {pos : Pos}
end
structure MethD (P : Program) (w : World) (K : PySem.W.Frag) (mg : Str → Option Value) (base : Heap) (cc : Bool) (k n : Nat) (m c : Str) (F : List D → R W) : Prop where
  ex : ∃ C f fd ps, ClsAt K c C ∧ Cls K C ∧ Meth K C m f ∧ FnX P w K mg base cc k f fd ps (spX K (n + 1) F) ∧ Binds K fd ps []
noncomputable def MethT (P : Program) (w : World) (K : PySem.W.Frag) (mg : Str → Option Value) (base : Heap) (cc : Bool) (k n : Nat) (m : Str) (tb : List (Str × (List D → R W))) : Prop := ∀ c F, tb.lookup c = some F → MethD P w K mg base cc k n m c F
theorem MethT.nil {P : Program} {w : World} {K : PySem.W.Frag} {mg : Str → Option Value} {base : Heap} {cc : Bool} {k n : Nat} {m : Str} : MethT P w K mg base cc k n m [] := fun c F e => by cases e
theorem FnX.up {P : Program} {w : World} {K : PySem.W.Frag} {mg : Str → Option Value} {base : Heap} {c : Bool} {j k : Nat} {f : Addr} {fd : FuncData} {ps : List Str} {sp : Sp} (F : FnX P w K mg base c j f fd ps sp) (h : j ≤ k) : FnX P w K mg base c k f fd ps sp :=
  ⟨F.len, fun A outer s H args us vs Q E hr => F.run A outer s H args us vs Q E (hr.mono h)⟩
theorem MethT.one {P : Program} {w : World} {K : PySem.W.Frag} {mg : Str → Option Value} {base : Heap} {cc : Bool} {j k n : Nat} {m c : Str} {F : List D → R W} {tb : List (Str × (List D → R W))} (d : MethD P w K mg base cc j n m c F) (hj : j ≤ k) (r : MethT P w K mg base cc k n m tb) : MethT P w K mg base cc k n m ((c, F) :: tb) := fun c' F' e => by
  rw [List.lookup_cons] at e
  cases hb : c' == c with
  | true =>
    simp only [hb] at e
    cases e
    have := beq_iff_eq.mp hb
    subst this
    obtain ⟨C, f, fd, ps, a1, a2, a3, a4, a5⟩ := d.ex
    exact ⟨C, f, fd, ps, a1, a2, a3, a4.up hj, a5⟩
  | false => simp only [hb] at e; exact r c' F' e
section
variable {X : Cx} {EX : EXS} {e o : Expr} {es : List Expr} {pos apos : Pos} {cc : Bool} {k k' n : Nat} {m : Str} {tb : List (Str × (List D → R W))} {fo : FE} {fa : FA}
end
end L3

namespace L3
open PySem PySem.Spec PyProof.Rows L2
noncomputable def unT : List Tn → Option (List D)
  | [] => some []
  | .sh d :: r => (unT r).map (d :: ·)
  | _ => none
theorem unT_some : ∀ {ts : List Tn} {ds : List D}, unT ts = some ds → ts = ds.map .sh
  | [], _, e => by cases e; rfl
  | t :: r, ds, e => by
    cases t with
    | sh d =>
      simp only [unT] at e
      cases q : unT r with
      | none => rw [q] at e; cases e
      | some l =>
        rw [q] at e
        cases e
        rw [unT_some q]
        rfl
    | _ => cases e
section
variable {X : Cx} {EX : EXS} {pos : Pos}
end
section
variable {X : Cx} {EX : EXS} {e : Expr} {es : List Expr} {x : Str} {pp pos : Pos} {cc : Bool} {k k' n : Nat} {ps : List Str} {C f : Addr} {fd : FuncData}
end
end L3

namespace L3
open PySem PySem.Spec PyProof.Rows L2
noncomputable def sameF : List D → List D → Bool
  | [], [] => true
  | .non :: a, .non :: b => sameF a b
  | .bl x :: a, .bl y :: b => (x == y) && sameF a b
  | .int x :: a, .int y :: b => decide (x = y) && sameF a b
  | .str x :: a, .str y :: b => decide (x = y) && sameF a b
  | _, _ => false
theorem sameF_self : ∀ {ds : List D}, ds.all flatD = true → sameF ds ds = true
  | [], _ => rfl
  | d :: ds, h => by
    rw [List.all_cons, Bool.and_eq_true] at h
    have ih := sameF_self h.2
    cases d with
    | non => exact ih
    | bl x => simp [sameF, ih]
    | int x => simp [sameF, ih]
    | str x => simp [sameF, ih]
    | _ => cases h.1
mutual
noncomputable def noL (ds : List D) : D → Bool
  | .lst es => !sameF ds es && noLs ds es
  | .tup es => noLs ds es
  | .dic kvs => noLk ds kvs
  | .exn _ _ vs => noLs ds vs
  | .obj _ _ vs => noLs ds vs
  | _ => true
noncomputable def noLs (ds : List D) : List D → Bool
  | [] => true
  | e :: es => noL ds e && noLs ds es
noncomputable def noLk (ds : List D) : List (Key × D) → Bool
  | [] => true
  | (_, e) :: es => noL ds e && noLk ds es
end
theorem noLk_map (ds : List D) : ∀ kvs : List (Key × D), noLk ds kvs = noLs ds (kvs.map (·.2))
  | [] => rfl
  | (k, e) :: es => by show (noL ds e && noLk ds es) = (noL ds e && noLs ds (es.map (·.2))); rw [noLk_map ds es]
noncomputable def offG (G : Hp) (a : Addr) : Hp := fun b => if b = a then none else G b
theorem offG_ne {G : Hp} {a b : Addr} (h : b ≠ a) : offG G a b = G b := if_neg h
section
variable {K : PySem.W.Frag} {G : Hp} {a : Addr} {vs : List V} {ds : List D}
theorem HasL.flat_same : ∀ {vs : List V} {ds es : List D}, HasL K G vs ds → HasL K G vs es → ds.all flatD = true → es = ds
  | _, _, _, .nil, .nil, _ => rfl
  | _, _, _, .cons h r, .cons h' r', f => by
    rw [List.all_cons, Bool.and_eq_true] at f
    rw [HasL.flat_same r r' f.2]
    congr 1
    cases h with
    | non => cases h'; rfl
    | bl b => cases h'; rfl
    | int i => cases h'; rfl
    | str x => cases h'; rfl
    | _ => cases f.1
mutual
theorem Has.off (ha : G a = some (.lst vs)) (rl : HasL K G vs ds) (fl : ds.all flatD = true) : ∀ {v : V} {d : D}, Has K G v d → noL ds d = true → Has K (offG G a) v d
  | _, _, .non, _ => .non
  | _, _, .bl b, _ => .bl b
  | _, _, .int i, _ => .int i
  | _, _, .str x, _ => .str x
  | _, _, .lst (a := b) (vs := us) (ds := es) h r, n => by
    have n' : (!sameF ds es && noLs ds es) = true := n
    rw [Bool.and_eq_true] at n'
    have r' := HasL.off ha rl fl r n'.2
    by_cases hb : b = a
    · subst hb
      rcases h with (h | ⟨o, h⟩) | h
      · rw [ha] at h
        cases h
        have := HasL.flat_same rl r fl
        subst this
        rw [sameF_self fl] at n'
        cases n'.1
      · rw [ha] at h; cases h
      · exact .lst (.inr h) r'
    · refine .lst ?_ r'
      rcases h with (h | ⟨o, h⟩) | h
      · exact .inl (.inl (by rw [offG_ne hb]; exact h))
      · exact .inl (.inr ⟨o, by rw [offG_ne hb]; exact h⟩)
      · exact .inr h
  | _, _, .tup (a := b) h r, n => by
    have r' := HasL.off ha rl fl r n
    by_cases hb : b = a
    · subst hb
      rcases h with (h | ⟨o, h⟩) | h
      · rw [ha] at h; cases h
      · rw [ha] at h; cases h
      · exact .tup (.inr h) r'
    · refine .tup ?_ r'
      rcases h with (h | ⟨o, h⟩) | h
      · exact .inl (.inl (by rw [offG_ne hb]; exact h))
      · exact .inl (.inr ⟨o, by rw [offG_ne hb]; exact h⟩)
      · exact .inr h
  | _, _, .exn0 (a := b) hc h, _ => by
    have hb : b ≠ a := fun z => by rw [z, ha] at h; cases h
    exact .exn0 hc (by rw [offG_ne hb]; exact h)
  | _, _, .exn1 (a := b) (d := e) hc h hd hl r, n => by
    have hb : b ≠ a := fun z => by rw [z, ha] at h; cases h
    have he : e ≠ a := fun z => by rw [z, ha] at hd; cases hd
    exact .exn1 hc (by rw [offG_ne hb]; exact h) (by rw [offG_ne he]; exact hd) hl (HasL.off ha rl fl r n)
  | _, _, .dic (a := b) h hk r, n => by
    have hb : b ≠ a := fun z => by
      rcases h with h | ⟨o, h⟩
      · rw [z, ha] at h; cases h
      · rw [z, ha] at h; cases h
    refine .dic ?_ hk (HasL.off ha rl fl r (by rw [← noLk_map]; exact n))
    rcases h with h | ⟨o, h⟩
    · exact .inl (by rw [offG_ne hb]; exact h)
    · exact .inr ⟨o, by rw [offG_ne hb]; exact h⟩
  | _, _, .obj (a := b) hc h hl r, n => by
    have hb : b ≠ a := fun z => by rw [z, ha] at h; cases h
    exact .obj hc (by rw [offG_ne hb]; exact h) hl (HasL.off ha rl fl r n)
theorem HasL.off (ha : G a = some (.lst vs)) (rl : HasL K G vs ds) (fl : ds.all flatD = true) : ∀ {us : List V} {es : List D}, HasL K G us es → noLs ds es = true → HasL K (offG G a) us es
  | _, _, .nil, _ => .nil
  | _, _, .cons h r, n => by
    have n' : (noL ds _ && noLs ds _) = true := n
    rw [Bool.and_eq_true] at n'
    exact .cons (Has.off ha rl fl h n'.1) (HasL.off ha rl fl r n'.2)
end
end
section
variable {X : Cx} {EX : EXS} {pos : Pos}
end
end L3

namespace L3
open PySem L2 Builtin Builtin.Str
theorem str_len (x : Str) : x.length = x.cps.toList.length := by simp [Str.length]
theorem count_one (x : Str) (c : Nat) : Txt.count x ⟨#[c]⟩ = ((x.cps.toList.count c : Nat) : Int) := by
  unfold Txt.count
  rw [StrLaws.occ_eq]
  have one : ∀ i, i < x.length → (subAt x ⟨#[c]⟩ i = true ↔ x.cps.toList[i]? = some c) := by
    intro i hi
    unfold subAt
    have hi' : i < x.cps.size := hi
    have e : x.cps.extract i (i + Str.length ⟨#[c]⟩) = #[x.cps[i]] := by
      apply Array.ext
      · simp [Str.length]; omega
      · intro j h1 h2
        simp [Str.length] at h1 h2 ⊢
        have : j = 0 := by omega
        subst this
        rfl
    rw [e]
    simp [hi']
  have all : ∀ (m k : Nat) (st : Array Nat × Nat), k + m = x.length + 1 → st.2 ≤ k → st.1.size ≤ k →
      (forIn (List.range' k m) st (StrLaws.occBody x ⟨#[c]⟩ x.length (x.length + 1))).run.fst.size = st.1.size + (x.cps.toList.drop k).count c := by
    intro m
    induction m with
    | zero =>
      intro k st e h1 h2
      have : x.cps.toList.drop k = [] := List.drop_eq_nil_of_le (by rw [← str_len]; omega)
      rw [this]
      simp
    | succ m ih =>
      intro k st e h1 h2
      rw [List.range'_succ, List.forIn_cons]
      unfold StrLaws.occBody
      by_cases hk : k < x.length
      · obtain ⟨d, d1, d2⟩ := drop_one (l := x.cps.toList) (i := k) (by rw [← str_len]; exact hk)
        rw [d2, List.count_cons]
        by_cases hc : d = c
        · subst hc
          have hs : subAt x ⟨#[d]⟩ k = true := (one k hk).mpr d1
          rw [if_pos ⟨⟨⟨by omega, h1⟩, by show k + 1 ≤ x.length; omega⟩, hs⟩]
          refine (ih (k + 1) (st.1.push k, k + 1) (by omega) (Nat.le_refl _) (by simp; omega)).trans ?_
          simp
          omega
        · have hs : ¬ subAt x ⟨#[c]⟩ k = true := fun z => by
            have := (one k hk).mp z
            rw [d1] at this
            exact hc (Option.some.inj this)
          rw [if_neg fun z => hs z.2]
          refine (ih (k + 1) (st.1, st.2) (by omega) (by show st.2 ≤ k + 1; omega) (by show st.1.size ≤ k + 1; omega)).trans ?_
          simp [hc]
      · rw [if_neg fun z => by have := z.1.2; have e2 : (Str.length ⟨#[c]⟩ : Nat) = 1 := rfl; omega]
        refine (ih (k + 1) (st.1, st.2) (by omega) (by show st.2 ≤ k + 1; omega) (by show st.1.size ≤ k + 1; omega)).trans ?_
        rw [List.drop_eq_nil_of_le (by rw [← str_len]; omega), List.drop_eq_nil_of_le (by rw [← str_len]; omega)]
  have := all (x.length + 1) 0 (#[], 0) (by omega) (Nat.le_refl _) (Nat.le_refl _)
  rw [Array.length_toList]
  refine congrArg (fun n : Nat => (n : Int)) ?_
  simpa using this
end L3

namespace L3
open PySem L2
theorem eqD_int (i j : Int) : eqD (.int i) (.int j) = .ok (.sh (.bl (decide (i = j)))) := by
  have h : eqvD (.int i) (.int j) = decide (i = j) := by
    show (i == j) = decide (i = j)
    rw [Bool.beq_eq_decide_eq]
  show (if eqC (.int i) (.int j) = true then R.ok (W.sh (D.bl (eqvD (.int i) (.int j)))) else .no) = _
  rw [if_pos (by rfl), h]
theorem neD_int (i j : Int) : neD (.int i) (.int j) = .ok (.sh (.bl (!decide (i = j)))) := by
  have h : eqvD (.int i) (.int j) = decide (i = j) := by
    show (i == j) = decide (i = j)
    rw [Bool.beq_eq_decide_eq]
  show (if eqC (.int i) (.int j) = true then R.ok (W.sh (D.bl (!eqvD (.int i) (.int j)))) else .no) = _
  rw [if_pos (by rfl), h]
theorem mulC_l {i j : Int} (h1 : -18446744073709551616 < i) (h2 : i < 18446744073709551616) : mulC i j = true := decide_eq_true (.inl (by omega))
theorem mulC_r {i j : Int} (h1 : -18446744073709551616 < j) (h2 : j < 18446744073709551616) : mulC i j = true := decide_eq_true (.inr (by omega))
theorem mul_ok {i j : Int} (h : mulC i j = true) : mulI (.int i) (.int j) = .ok (.sh (.int (i * j))) := by unfold mulI intD; simp only [h, if_true]
theorem add_ok (i j : Int) : addD (.int i) (.int j) = .ok (.sh (.int (i + j))) := rfl
theorem sub_ok (i j : Int) : subD (.int i) (.int j) = .ok (.sh (.int (i - j))) := rfl
theorem div_ok {i j : Int} (h1 : 0 < j) (h2 : j < 1361129467683753853853498429727072845824) : divD (.int i) (.int j) = .ok (.sh (.int (i / j))) := by
  exact if_pos (show divC i j = true from decide_eq_true ⟨h1, by omega⟩)
theorem mod_ok {i j : Int} (h1 : 0 < j) : modD (.int i) (.int j) = .ok (.sh (.int (i % j))) := by
  exact if_pos (show modC i j = true from decide_eq_true h1)
theorem lt_ok (i j : Int) : ltD (.int i) (.int j) = .ok (.sh (.bl (decide (i < j)))) := rfl
theorem gt_ok (i j : Int) : gtD (.int i) (.int j) = .ok (.sh (.bl (decide (j < i)))) := rfl
theorem ge_ok (i j : Int) : geD (.int i) (.int j) = .ok (.sh (.bl (decide (j ≤ i)))) := rfl
theorem catL_ok {x y : List D} (h : x.length + y.length ≤ 16777216) : addD (.lst x) (.lst y) = .ok (.ow (.lst (x ++ y))) := if_pos h
theorem len_lst (ds : List D) : lenD [.lst ds] = .ok (.sh (.int ds.length)) := rfl
theorem max_ok (i j : Int) : maxD [.int i, .int j] = .ok (.sh (.int (max i j))) := by
  show R.ok (W.sh (D.int (if j > i then j else i))) = _
  rw [show (if j > i then j else i) = max i j by rw [Int.max_def]; split <;> split <;> omega]
theorem min_ok (i j : Int) : minD [.int i, .int j] = .ok (.sh (.int (min i j))) := by
  show R.ok (W.sh (D.int (if j < i then j else i))) = _
  rw [show (if j < i then j else i) = min i j by rw [Int.min_def]; split <;> split <;> omega]
theorem ix_lst {ds : List D} {i : Int} {d : D} (h : atI ds i = some d) : ixD (.lst ds) (.int i) = .ok (.sh d) := by unfold ixD; simp only [h]
theorem atI_at {α : Type} {xs : List α} {i : Int} {x : α} (h0 : 0 ≤ i) (h : xs[i.toNat]? = some x) : atI xs i = some x := by
  have hl : i.toNat < xs.length := (List.getElem?_eq_some_iff.mp h).1
  unfold atI ixN
  rw [if_pos h0, if_pos (by omega)]
  exact h
theorem loop_ints (fg : FG) (g : FS) (I : Nat → SE → Prop) {n : Nat} {lo : Int} {Δ : SE} (h0 : I 0 Δ)
    (step : ∀ k Δ, k < n → I k Δ → ∃ Δ1, fg (.int (lo + (k : Int))) Δ = .ok Δ1 ∧ ∃ Δ2, (g Δ1 = .nx Δ2 ∨ g Δ1 = .ct Δ2) ∧ I (k + 1) Δ2) : ∃ Δ', sLoop fg g (zints lo n) Δ = .nx Δ' ∧ I n Δ' := by
  have all : ∀ (m k : Nat) (Δ : SE), k + m = n → I k Δ → ∃ Δ', sLoop fg g ((List.range' k m).map fun (j : Nat) => D.int (lo + (j : Int))) Δ = .nx Δ' ∧ I n Δ' := by
    intro m
    induction m with
    | zero => intro k Δ e h; exact ⟨Δ, rfl, by rw [← e]; exact h⟩
    | succ m ih =>
      intro k Δ e h
      obtain ⟨Δ1, e1, Δ2, e2, h2⟩ := step k Δ (by omega) h
      obtain ⟨Δ', e3, h3⟩ := ih (k + 1) Δ2 (by omega) h2
      refine ⟨Δ', ?_, h3⟩
      rw [List.range'_succ, List.map_cons]
      show (match fg (.int (lo + (k : Int))) Δ with
        | .ok Δ1 => (match g Δ1 with
          | .nx Δ2 => sLoop fg g _ Δ2
          | .ct Δ2 => sLoop fg g _ Δ2
          | .bk Δ2 => .nx Δ2
          | r => r)
        | .ex _ => .no
        | .no => .no) = _
      rw [e1]
      rcases e2 with e2 | e2
      · simp only [e2]; exact e3
      · simp only [e2]; exact e3
  obtain ⟨Δ', e, h⟩ := all n 0 Δ (by omega) h0
  refine ⟨Δ', ?_, h⟩
  unfold zints
  rw [List.range_eq_range']
  exact e
theorem loop_list (fg : FG) (g : FS) (I : Nat → SE → Prop) {ds : List D} {Δ : SE} (h0 : I 0 Δ)
    (step : ∀ k d Δ, ds[k]? = some d → I k Δ → ∃ Δ1, fg d Δ = .ok Δ1 ∧ ∃ Δ2, (g Δ1 = .nx Δ2 ∨ g Δ1 = .ct Δ2) ∧ I (k + 1) Δ2) : ∃ Δ', sLoop fg g ds Δ = .nx Δ' ∧ I ds.length Δ' := by
  have all : ∀ (m k : Nat) (Δ : SE), k + m = ds.length → I k Δ → ∃ Δ', sLoop fg g (ds.drop k) Δ = .nx Δ' ∧ I ds.length Δ' := by
    intro m
    induction m with
    | zero =>
      intro k Δ e h
      rw [List.drop_eq_nil_of_le (by omega)]
      exact ⟨Δ, rfl, by rw [← e]; exact h⟩
    | succ m ih =>
      intro k Δ e h
      obtain ⟨d, d1, d2⟩ := drop_one (l := ds) (i := k) (by omega)
      obtain ⟨Δ1, e1, Δ2, e2, h2⟩ := step k d Δ d1 h
      obtain ⟨Δ', e3, h3⟩ := ih (k + 1) Δ2 (by omega) h2
      refine ⟨Δ', ?_, h3⟩
      rw [d2]
      show (match fg d Δ with
        | .ok Δ1 => (match g Δ1 with
          | .nx Δ2 => sLoop fg g (ds.drop (k + 1)) Δ2
          | .ct Δ2 => sLoop fg g (ds.drop (k + 1)) Δ2
          | .bk Δ2 => .nx Δ2
          | r => r)
        | .ex _ => .no
        | .no => .no) = _
      rw [e1]
      rcases e2 with e2 | e2
      · simp only [e2]; exact e3
      · simp only [e2]; exact e3
  have := all ds.length 0 Δ (by omega) h0
  rwa [List.drop_zero] at this
end L3
namespace L3
open PySem L2
theorem rng1_ok {j : Int} (h1 : -4611686018427387903 ≤ j) (h2 : j < 4611686018427387904) : rng1 [.int j] = .ok (zints 0 j.toNat) := by
  have h : j.natAbs < 4611686018427387904 := by omega
  exact if_pos h
theorem eComp_ok {m : Nat} {fi : FI} {fg : FGc} {p : FT} {f : FE} {δ : DE} {ds rs : List D} (h : fi δ = .ok ds) (hl : ds.length ≤ 16777216) (hc : compD fg p f (δ ++ List.replicate m none) ds = .ok rs) : eComp m fi fg p f δ = .ok (.ow (.lst rs)) := by
  unfold eComp
  rw [h]
  simp only [R.bind_ok]
  rw [if_pos hl, hc]
  rfl
theorem compZ {fg : FGc} {p : FT} {f : FE} {δ : DE} : ∀ (n : Nat) (lo : Int), (∀ k : Nat, k < n → ∃ δ1 z, fg (.int (lo + (k : Int))) δ = .ok δ1 ∧ p δ1 = .ok true ∧ f δ1 = .ok (.sh (.int z))) →
    ∃ cs : List Int, cs.length = n ∧ compD fg p f δ (zints lo n) = .ok (cs.map D.int) := by
  have all : ∀ (es : List Nat) (lo : Int), (∀ k ∈ es, ∃ δ1 z, fg (.int (lo + ((k : Nat) : Int))) δ = .ok δ1 ∧ p δ1 = .ok true ∧ f δ1 = .ok (.sh (.int z))) →
      ∃ cs : List Int, cs.length = es.length ∧ compD fg p f δ (es.map fun (k : Nat) => D.int (lo + (k : Int))) = .ok (cs.map D.int) := by
    intro es lo
    induction es with
    | nil => intro _; exact ⟨[], rfl, rfl⟩
    | cons k es ih =>
      intro h
      obtain ⟨δ1, z, e1, e2, e3⟩ := h k List.mem_cons_self
      obtain ⟨cs, l5, e5⟩ := ih fun j hj => h j (List.mem_cons_of_mem _ hj)
      refine ⟨z :: cs, by simp [l5], ?_⟩
      rw [List.map_cons, List.map_cons]
      show ((fg (.int (lo + (k : Int))) δ).bind fun δ1 => (p δ1).bind fun b => if b = true then (f δ1).bind fun w => (compD fg p f δ _).bind fun rs => .ok (w.d :: rs) else compD fg p f δ _) = _
      rw [e1]
      simp only [R.bind_ok, e2, if_true, e3]
      rw [e5]
      rfl
  intro n lo h
  obtain ⟨cs, l, e⟩ := all (List.range n) lo fun k hk => h k (List.mem_range.mp hk)
  exact ⟨cs, by rw [l, List.length_range], e⟩
end L3
namespace L3
open PySem L2
theorem while_go {js : List Nat} {p : FT} {g : FS} {n : Nat} {Δ Δ' : SE} (h1 : p (vall Δ) = .ok true) (h2 : g Δ = .nx Δ') : sWhile js p g (n + 1) Δ = sWhile js p g n Δ' := by
  show (match p (vall Δ) with
    | .ok b => if b = true then (match g Δ with
        | .nx Δ' => sWhile js p g n Δ'
        | .ct Δ' => sWhile js p g n Δ'
        | .bk Δ' => .nx Δ'
        | r => r) else .nx Δ
    | .ex _ => exT js p Δ
    | .no => .no) = _
  rw [h1]
  simp only [if_true, h2]
theorem while_end {js : List Nat} {p : FT} {g : FS} {n : Nat} {Δ : SE} (h1 : p (vall Δ) = .ok false) : sWhile js p g (n + 1) Δ = .nx Δ := by
  show (match p (vall Δ) with
    | .ok b => if b = true then (match g Δ with
        | .nx Δ' => sWhile js p g n Δ'
        | .ct Δ' => sWhile js p g n Δ'
        | .bk Δ' => .nx Δ'
        | r => r) else .nx Δ
    | .ex _ => exT js p Δ
    | .no => .no) = _
  rw [h1]
  simp only [Bool.false_eq_true, if_false]
end L3
namespace L3
open PySem L2
theorem pub_sh (d : D) : Sl.pub (.sh d) = some d := rfl
theorem pub_ow (d : D) : Sl.pub (.ow d) = none := rfl
theorem pub_no : Sl.pub .no = none := rfl
theorem any_sh (d : D) : Sl.any (.sh d) = some d := rfl
theorem any_ow (d : D) : Sl.any (.ow d) = some d := rfl
theorem any_no : Sl.any .no = none := rfl
theorem give_sh (d : D) : Sl.give (.sh d) = .sh d := rfl
theorem give_ow (d : D) : Sl.give (.ow d) = .sh d := rfl
theorem give_no : Sl.give .no = .no := rfl
end L3

namespace L3
open PySem L2
theorem seq_nx {g h : FS} {Δ Δ' : SE} (e : g Δ = .nx Δ') : sSeq g h Δ = h Δ' := by unfold sSeq; rw [e]
theorem body_rt {n : Nat} {g : FS} {ds : List D} {w : W} (e : g (start3 n ds) = .rt w) : bodyD n g ds = .ok w := by unfold bodyD; rw [e]
theorem comp_list {fg : FGc} {p : FT} {f : FE} {δ : DE} (P : D → Bool) (F : D → D) : ∀ (ds : List D), (∀ d ∈ ds, ∃ δ1, fg d δ = .ok δ1 ∧ p δ1 = .ok (P d) ∧ (P d = true → ∃ w, f δ1 = .ok w ∧ w.d = F d)) →
    compD fg p f δ ds = .ok ((ds.filter P).map F)
  | [], _ => rfl
  | d :: ds, h => by
    obtain ⟨δ1, e1, e2, e3⟩ := h d List.mem_cons_self
    have ih := comp_list P F ds fun x hx => h x (List.mem_cons_of_mem _ hx)
    show ((fg d δ).bind fun δ1 => (p δ1).bind fun b => if b = true then (f δ1).bind fun w => (compD fg p f δ ds).bind fun rs => .ok (w.d :: rs) else compD fg p f δ ds) = _
    rw [e1]
    simp only [R.bind_ok, e2]
    cases hP : P d with
    | true =>
      obtain ⟨w, e4, e5⟩ := e3 hP
      rw [if_pos rfl, e4, ih]
      simp only [R.bind_ok, e5, List.filter_cons_of_pos hP, List.map_cons]
    | false =>
      rw [if_neg Bool.false_ne_true, ih, List.filter_cons_of_neg (by rw [hP]; exact Bool.false_ne_true)]
theorem comp_map {fg : FGc} {f : FE} {δ : DE} (F : D → D) (ds : List D) (h : ∀ d ∈ ds, ∃ δ1 w, fg d δ = .ok δ1 ∧ f δ1 = .ok w ∧ w.d = F d) :
    compD fg (fun _ => .ok true) f δ ds = .ok (ds.map F) := by
  have := comp_list (fg := fg) (p := fun _ => .ok true) (f := f) (δ := δ) (fun _ => true) F ds fun d hd => by
    obtain ⟨δ1, w, e1, e2, e3⟩ := h d hd
    exact ⟨δ1, e1, rfl, fun _ => ⟨w, e2, e3⟩⟩
  rw [this, List.filter_eq_self.mpr fun _ _ => rfl]
end L3
namespace L3
open PySem L2
end L3
namespace L3
open PySem L2
theorem isT_int_non : isT "int" .non = some false := rfl
theorem isT_int_bl (b : Bool) : isT "int" (.bl b) = some true := rfl
theorem isT_int_int (i : Int) : isT "int" (.int i) = some true := rfl
theorem isT_int_str (x : Str) : isT "int" (.str x) = some false := rfl
theorem isT_int_lst (l : List D) : isT "int" (.lst l) = some false := rfl
theorem isT_int_tup (l : List D) : isT "int" (.tup l) = some false := rfl
theorem isT_bool_non : isT "bool" .non = some false := rfl
theorem isT_bool_bl (b : Bool) : isT "bool" (.bl b) = some true := rfl
theorem isT_bool_int (i : Int) : isT "bool" (.int i) = some false := rfl
theorem isT_bool_str (x : Str) : isT "bool" (.str x) = some false := rfl
theorem isT_bool_lst (l : List D) : isT "bool" (.lst l) = some false := rfl
theorem isT_bool_tup (l : List D) : isT "bool" (.tup l) = some false := rfl
theorem isT_str_non : isT "str" .non = some false := rfl
theorem isT_str_bl (b : Bool) : isT "str" (.bl b) = some false := rfl
theorem isT_str_int (i : Int) : isT "str" (.int i) = some false := rfl
theorem isT_str_str (x : Str) : isT "str" (.str x) = some true := rfl
theorem isT_str_lst (l : List D) : isT "str" (.lst l) = some false := rfl
theorem isT_str_tup (l : List D) : isT "str" (.tup l) = some false := rfl
theorem isT_list_non : isT "list" .non = some false := rfl
theorem isT_list_bl (b : Bool) : isT "list" (.bl b) = some false := rfl
theorem isT_list_int (i : Int) : isT "list" (.int i) = some false := rfl
theorem isT_list_str (x : Str) : isT "list" (.str x) = some false := rfl
theorem isT_list_lst (l : List D) : isT "list" (.lst l) = some true := rfl
theorem isT_list_tup (l : List D) : isT "list" (.tup l) = some false := rfl
theorem isT_tuple_non : isT "tuple" .non = some false := rfl
theorem isT_tuple_bl (b : Bool) : isT "tuple" (.bl b) = some false := rfl
theorem isT_tuple_int (i : Int) : isT "tuple" (.int i) = some false := rfl
theorem isT_tuple_str (x : Str) : isT "tuple" (.str x) = some false := rfl
theorem isT_tuple_lst (l : List D) : isT "tuple" (.lst l) = some false := rfl
theorem isT_tuple_tup (l : List D) : isT "tuple" (.tup l) = some true := rfl
end L3

namespace L3
open PySem PySem.Spec PyProof.Rows L2
noncomputable def overVE : List Value → Bool
  | .ref _ :: r => overVE r
  | l => l == [.type "ValueError", .type "Exception", .type "BaseException", .type "object"]
structure XCls (K : PySem.W.Frag) (C : Addr) : Prop where
  sa : PySem.W.findIn K (.ref C) "__setattr__" = some (some (.builtin "object.__setattr__"))
  over : (PySem.W.clsIn K C).any (fun cd => overVE cd.mro && cd.hasDict) = true
section
variable {prog : Program} {w : World} {A : Around} {E : Value → Shared → Prop} {s : Shared} {K : PySem.W.Frag} {x C : Addr} {R : Result → Shared → Prop}
end
end L3

namespace L3
open PySem PySem.Spec PyProof.Rows L2
noncomputable def XE (a : Addr) (o : Obj) : HO := .ext fun h => h.get? a = some o
theorem XE.ok {P : Program} {w : World} {H : Hp} {h : Heap} {a : Addr} {o : Obj} (e : h.get? a = some o) : ObjOk P w H h a (XE a o) := ⟨e, ⟨o, e⟩, fun _ _ p k => k _ p⟩
theorem XE.get {P : Program} {w : World} {H : Hp} {h : Heap} {a : Addr} {o : Obj} (x : HOk P w H h) (e : H a = some (XE a o)) : h.get? a = some o := (x a _ e).1
theorem XO.ok {P : Program} {w : World} {H : Hp} {h : Heap} {a C : Addr} {dx : Option Addr} {us : Array Value} {sl : Array (Option Value)} (e : h.get? a = some ⟨.ref C, dx, .fields us, sl⟩) : ObjOk P w H h a (XO a C dx) :=
  ⟨⟨us, sl, e⟩, ⟨_, e⟩, fun _ _ ⟨us, sl, p⟩ k => ⟨us, sl, k _ p⟩⟩
section
variable {X : Cx} {pins : List (Addr × Obj)} {σ : Sg} {H : Hp} {s : Shared}
end

noncomputable def spInit (C : Addr) (f : Str) : Sp := fun vs H Q _ => ∃ a v us, vs = [.ref a, v] ∧ H a = some (XE a ⟨.ref C, none, .fields us, #[]⟩) ∧ ∀ d, H d = none → d ≠ a → Q .non (upd (upd H d (.xd [(f, v)])) a (XE a ⟨.ref C, some d, .fields us, #[]⟩))
section
variable {X : Cx} {C : Addr} {f : Str} {pos pos' p1 p2 : Pos} {x y : Str}
end
end L3

namespace L3
open PySem PySem.Spec PyProof.Rows L2
noncomputable abbrev bmVE : List Value := [.type "ValueError", .type "Exception", .type "BaseException", .type "object"]
noncomputable def XMk (K : PySem.W.Frag) (C fI : Addr) : Prop := ∃ (nm q : Str) (N : Addr) (bs bm : List Value) (sn : List Str) (sub : List Value) (ab : Bool) (col : Option Bool) (dd : Option Addr) (k0 k1 k2 k3 k5 : Option Value) (mN : Str → Option Value),
  K.lookup C = some (excClassObj nm q C N bs bm true sn sub ab col dd k0 k1 k2 k3 k5 "ValueError.__new__") ∧ (∀ h : Heap, K.In h → OwnTail h bmVE bm) ∧ (∀ h : Heap, K.In h → h.Ns N mN) ∧ mN "__init__" = some (.ref fI)
end L3

namespace L3
open PySem PySem.Spec PyProof.Rows L2
structure XC (P : Program) (w : World) (K : PySem.W.Frag) (mg : Str → Option Value) (base : Heap) (c : Str) (f : Str) (C : Addr) : Prop where
  at_ : ClsAt K c C
  glob : mg c = some (.ref C)
  kp : PySem.W.keepIn K (.ref C) = true
  xc : XCls K C
  made : ∃ (fI : Addr) (fd : FuncData) (ps : List Str) (oI : Obj), XMk K C fI ∧ K.lookup fI = some oI ∧ oI.cls = .type "function" ∧ FnX P w K mg base false 1 fI fd ps (spInit C f) ∧ Binds K fd ps []
section
variable {X : Cx} {pins : List (Addr × Obj)} {σ : Sg} {H : Hp} {s : Shared} {C : Addr} {c f : Str}
end
end L3

namespace L3
open PySem PySem.Spec PyProof.Rows L2
section
variable {X : Cx} {pins : List (Addr × Obj)} {σ : Sg} {H : Hp} {s : Shared}
end

noncomputable def hand (X : Cx) (e : Value) : Cx := { X with A := X.A.mark (some e), calm := false, xe := fun _ _ => False }
section
variable {X : Cx} {pins pins' : List (Addr × Obj)} {σ : Sg} {H : Hp} {s : Shared} {W : Value → Shared → Prop} {e : Value}
end
end L3

namespace L3
open PySem PySem.Spec PyProof.Rows L2
noncomputable def Catches (K : PySem.W.Frag) (C2 : Addr) (tb : List (Str × Bool)) : Prop := ∀ c b, tb.lookup c = some b → ∀ C, ClsAt K c C → PySem.W.exmOne K (.ref C) (.ref C2) = some b
theorem Ev.drop {K : PySem.W.Frag} {H0 : HB} {G0 G H : Hp} {σ : Sg} {Δ : SE} {O : OS} (E : Ev K H0 G0 G H σ Δ O) (i : Nat) : Ev K H0 G0 G H (σ.set i none) (Δ.set i .no) O := by
  refine ⟨E.st, by rw [List.length_set, List.length_set]; exact E.len, fun j d e => ?_, fun j z d e zo => ?_, E.out, E.dj, fun j d e => ?_, fun j d e => ?_⟩
  · rcases getSet e with ⟨rfl, q⟩ | ⟨n, q⟩
    · cases q
    · rw [List.getElem?_set_ne n]; exact E.sh j d q
  · rcases getSet e with ⟨rfl, q⟩ | ⟨n, q⟩
    · subst q; cases zo
    · rw [List.getElem?_set_ne n]; exact E.ow j z d q zo
  · rcases getSet e with ⟨rfl, q⟩ | ⟨n, q⟩
    · cases q
    · rw [List.getElem?_set_ne n]; exact E.lk j d q
  · rcases getSet e with ⟨rfl, q⟩ | ⟨n, q⟩
    · cases q
    · rw [List.getElem?_set_ne n]; exact E.lt j d q
section
variable {X : Cx} {EX : EXS} {i : Nat} {tb : List (Str × Bool)} {g h : FS} {c n : Str} {C2 : Addr} {body suite : List Stmt} {b₀ : Stmt} {np hp pos : Pos}
end
end L3

namespace L3
open PySem PySem.Spec PyProof.Rows L2
structure XGet (K : PySem.W.Frag) (C : Addr) (f : Str) : Prop where
  ga : PySem.W.findIn K (.ref C) "__getattribute__" = some (some (.builtin "BaseException.__getattribute__"))
  gt : PySem.W.findIn K (.ref C) "__getattr__" = some none
  be : PySem.W.mroIn K C (.type "BaseException") = some true
  hd : PySem.W.hasDictIn K C = true
  no : PySem.W.findIn K (.ref C) f = some none
section
variable {prog : Program} {w : World} {A : Around} {E : Value → Shared → Prop} {s : Shared} {K : PySem.W.Frag} {x C dx : Addr} {f : Str}
structure XInst (K : PySem.W.Frag) (C : Addr) : Prop where
  ga : PySem.W.findIn K (.ref C) "__getattribute__" = some (some (.builtin "BaseException.__getattribute__"))
  gt : PySem.W.findIn K (.ref C) "__getattr__" = some none
  be : PySem.W.mroIn K C (.type "BaseException") = some true
  hd : PySem.W.hasDictIn K C = true
  cl : PySem.W.findIn K (.ref C) "__class__" = some (some (.builtin "object.__class__"))
  gs : PySem.W.specialIn K (.builtin "object.__class__") "__get__" = some (some (.builtin "getset_descriptor.__get__"))
  tk : PySem.W.takesIn K (.builtin "object.__class__") = some true
  ob : PySem.W.mroIn K C (.type "object") = some true
end

noncomputable def eAttr (cs : List Str) (f : Str) (fo : FE) : FE := fun δ => (fo δ).bind fun w => match w.d with
  | .exn c ns vs => if cs.contains c = true then (match (ns.zip vs).lookup f with | some d => .ok (.sh d) | none => .no) else .no
  | _ => .no
noncomputable def XGets (K : PySem.W.Frag) (cs : List Str) (f : Str) : Prop := ∀ c ∈ cs, ∀ C, ClsAt K c C → XGet K C f
section
variable {X : Cx} {EX : EXS} {o : Expr} {fo : FE} {f : Str} {cs : List Str} {pos : Pos}
end
end L3

namespace L3
open PySem PySem.Spec PyProof.Rows L2
noncomputable def eIsC (tb : List (Str × Bool)) (fo : FE) : FE := fun δ => (fo δ).bind fun w => match w.d with
  | .exn c _ _ => (match tb.lookup c with | some b => .ok (.sh (.bl b)) | none => .no)
  | _ => .no
noncomputable def IsOne (K : PySem.W.Frag) (v : Value) (tb : List (Str × Bool)) : Prop := ∀ c b, tb.lookup c = some b → ∀ C, ClsAt K c C → XInst K C ∧ PySem.W.kitOne K (.ref C) v = some b
noncomputable def IsAny (K : PySem.W.Frag) (Cs : List Addr) (tb : List (Str × Bool)) : Prop := ∀ c b, tb.lookup c = some b → ∀ C, ClsAt K c C → XInst K C ∧ PySem.W.kitAny K (.ref C) (Cs.map Value.ref) = some b
section
variable {X : Cx} {EX : EXS} {pins : List (Addr × Obj)} {σ : Sg} {G H : Hp} {s : Shared}
variable {a : Expr} {fo : FE} {tb : List (Str × Bool)} {pp pos : Pos}
end
end L3

namespace L3
open PySem PySem.Spec PyProof.Rows L2
theorem RoomC.units {c : Bool} {k : Nat} {A : Around} (r : RoomC c k A) : A.units + 64 < cLine := by have := r.un; omega
section
variable {X : Cx} {c : Bool} {k : Nat} {pins : List (Addr × Obj)} {W : Value → Shared → Prop} {e : Value}
theorem room_nox (h : RoomC c k (Cx.A X)) : RoomC c k (Cx.A (Cx.nox X)) := h
theorem calm_nox (h : Cx.calm X = true) : Cx.calm (Cx.nox X) = true := h
theorem passes_def {cm : Bool} {P : Program} {w : World} {K : PySem.W.Frag} {mg : Str → Option Value} {base : Heap} {N : List Str} {qual : Str} {scope : Scope} {f : Addr} {cd : Value} {A : Around} {outer : List Env} {s : Shared} {H : Hp} {E : XK} :
    PassesOwn (model P w) (Cx.A (cxN cm P w K mg base N qual scope f cd A outer s H E)) (Cx.env (cxN cm P w K mg base N qual scope f cd A outer s H E)) (Cx.xe (cxN cm P w K mg base N qual scope f cd A outer s H E)) :=
  fun e s' h => wpAny_leaving_again (SameStack.refl _) h
theorem Catches.one {K : PySem.W.Frag} {C2 : Addr} {c : Str} {C : Addr} {b : Bool} (a : ClsAt K c C) (h : PySem.W.exmOne K (.ref C) (.ref C2) = some b) {tb : List (Str × Bool)} (r : Catches K C2 tb) : Catches K C2 ((c, b) :: tb) := fun c' b' e C' a' => by
  rw [List.lookup_cons] at e
  cases z : (c' == c) with
  | true =>
    rw [z] at e
    cases e
    have : c' = c := eq_of_beq z
    subst this
    unfold ClsAt at a a'
    rw [a] at a'
    cases a'
    exact h
  | false => rw [z] at e; exact r c' b' e C' a'
theorem Catches.nil {K : PySem.W.Frag} {C2 : Addr} : Catches K C2 [] := fun _ _ e => by cases e
theorem IsOne.nil {K : PySem.W.Frag} {v : Value} : IsOne K v [] := fun _ _ e => by cases e
theorem IsOne.one {K : PySem.W.Frag} {v : Value} {c : Str} {C : Addr} {b : Bool} (a : ClsAt K c C) (x : XInst K C) (h : PySem.W.kitOne K (.ref C) v = some b) {tb : List (Str × Bool)} (r : IsOne K v tb) : IsOne K v ((c, b) :: tb) := fun c' b' e C' a' => by
  rw [List.lookup_cons] at e
  cases z : (c' == c) with
  | true =>
    rw [z] at e
    cases e
    have : c' = c := eq_of_beq z
    subst this
    unfold ClsAt at a a'
    rw [a] at a'
    cases a'
    exact ⟨x, h⟩
  | false => rw [z] at e; exact r c' b' e C' a'
theorem IsAny.nil {K : PySem.W.Frag} {v : List Addr} : IsAny K v [] := fun _ _ e => by cases e
theorem IsAny.one {K : PySem.W.Frag} {v : List Addr} {c : Str} {C : Addr} {b : Bool} (a : ClsAt K c C) (x : XInst K C) (h : PySem.W.kitAny K (.ref C) (v.map Value.ref) = some b) {tb : List (Str × Bool)} (r : IsAny K v tb) : IsAny K v ((c, b) :: tb) := fun c' b' e C' a' => by
  rw [List.lookup_cons] at e
  cases z : (c' == c) with
  | true =>
    rw [z] at e
    cases e
    have : c' = c := eq_of_beq z
    subst this
    unfold ClsAt at a a'
    rw [a] at a'
    cases a'
    exact ⟨x, h⟩
  | false => rw [z] at e; exact r c' b' e C' a'
theorem XGets.nil {K : PySem.W.Frag} {f : Str} : XGets K [] f := fun _ e => by cases e
theorem XGets.one {K : PySem.W.Frag} {f c : Str} {C : Addr} (a : ClsAt K c C) (x : XGet K C f) {cs : List Str} (r : XGets K cs f) : XGets K (c :: cs) f := fun c' e C' a' => by
  rcases List.mem_cons.mp e with rfl | e
  · unfold ClsAt at a a'
    rw [a] at a'
    cases a'
    exact x
  · exact r c' e C' a'
end
end L3

namespace L3
open PySem PySem.Spec PyProof.Rows L2
structure Hd where
  i : Option Nat
  tb : List (Str × Bool)
  h : FS
inductive HOk3 (X : Cx) : List ExceptHandler → List Hd → Prop where
  | nil : HOk3 X [] []
  | as_ {c n : Str} {C2 : Addr} {b₀ : Stmt} {suite : List Stmt} {np hp : Pos} {i : Nat} {tb : List (Str × Bool)} {h : FS} {hs : List ExceptHandler} {ds : List Hd} (hc : X.mg c = some (.ref C2)) (ct : Catches X.K C2 tb) (hh : ∀ e, BD (hand X e) EXS0 (b₀ :: suite) h) (r : HOk3 X hs ds)
      (hi : X.N[i]? = some n := by rfl) (hk : X.env.scope.names.lookup n = some .local := by rfl) (hg : Gl X c := by rfl) (hdb : (c == ("__debug__" : Str)) = false := by decide) :
      HOk3 X (.ExceptHandler (some (.Name c np)) (some n) (b₀ :: suite) hp :: hs) (⟨some i, tb, h⟩ :: ds)
  | bare {c : Str} {C2 : Addr} {b₀ : Stmt} {suite : List Stmt} {np hp : Pos} {tb : List (Str × Bool)} {h : FS} {hs : List ExceptHandler} {ds : List Hd} (hc : X.mg c = some (.ref C2)) (ct : Catches X.K C2 tb) (hh : ∀ e, BD (hand X e) EXS0 (b₀ :: suite) h) (r : HOk3 X hs ds)
      (hg : Gl X c := by rfl) (hdb : (c == ("__debug__" : Str)) = false := by decide) :
      HOk3 X (.ExceptHandler (some (.Name c np)) none (b₀ :: suite) hp :: hs) (⟨none, tb, h⟩ :: ds)
section
variable {X : Cx} {EX : EXS} {g : FS} {body : List Stmt} {pos : Pos}
end
end L3

namespace L3
open PySem PySem.Spec PyProof.Rows L2
section
variable {prog : Program} {w : World} {A : Around} {E : Value → Shared → Prop} {h : Heap} {g : Array GenState} {d : Drawn} {t : Nat} {os : OsState}
variable {nm q : Str} {C N : Addr} {bs bm bmB : List Value} {hdct : Bool} {sn : List Str} {sub : List Value} {ab : Bool} {col : Option Bool} {dd : Option Addr} {k0 k1 k2 k3 k5 : Option Value} {B newId initId : String}
end
noncomputable def XMk0 (K : PySem.W.Frag) (C : Addr) : Prop := ∃ (nm q : Str) (N : Addr) (bs bm : List Value) (sn : List Str) (sub : List Value) (ab : Bool) (col : Option Bool) (dd : Option Addr) (k0 k1 k2 k3 k5 : Option Value) (mN : Str → Option Value),
  K.lookup C = some (excClassObj nm q C N bs bm true sn sub ab col dd k0 k1 k2 k3 k5 "ValueError.__new__") ∧ (∀ h : Heap, K.In h → OwnTail h bmVE bm) ∧ (∀ h : Heap, K.In h → h.Ns N mN) ∧ mN "__init__" = none
structure XC0 (K : PySem.W.Frag) (mg : Str → Option Value) (c : Str) (C : Addr) : Prop where
  at_ : ClsAt K c C
  glob : mg c = some (.ref C)
  kp : PySem.W.keepIn K (.ref C) = true
  made : XMk0 K C
section
variable {X : Cx} {C : Addr} {c : Str}
end
end L3

namespace L3
open PySem L2
noncomputable def evs := And.intro @L3.bodyD.eq_1 (And.intro @L3.start3.eq_1 (And.intro @L3.sSeq.eq_1 (And.intro @L3.sSet.eq_1 (And.intro @L3.gsome.eq_1 (And.intro @L3.give1.eq_1 (And.intro @List.foldl_cons.{0,0} (And.intro @List.foldl_nil.{0,0} (And.intro @L3.sRet.eq_1 (And.intro @L3.sRetV.eq_1 (And.intro @L3.sIf.eq_1 (And.intro @L3.sExpr.eq_1 (And.intro @L3.sNil.eq_1 (And.intro @L3.vsh.eq_1 (And.intro @L3.vall.eq_1 (And.intro @L3.gall.eq_1 (And.intro @L3.pub_sh (And.intro @L3.pub_ow (And.intro @L3.pub_no (And.intro @L3.any_sh (And.intro @L3.any_ow (And.intro @L3.any_no (And.intro @L3.give_sh (And.intro @L3.give_ow (And.intro @L3.give_no (And.intro @L3.eOp.eq_1 (And.intro @L3.eVar.eq_1 (And.intro @L3.eC.eq_1 (And.intro @L3.eTest.eq_1 (And.intro @L3.eTruth.eq_1 (And.intro @L3.truthD.eq_1 (And.intro @L3.truthD.eq_2 (And.intro @L3.truthD.eq_3 (And.intro @L3.truthD.eq_4 (And.intro @L3.truthD.eq_5 (And.intro @L3.truthD.eq_6 (And.intro @L3.truthD.eq_7 (And.intro @L3.boolD.eq_1 (And.intro @L3.boolD.eq_2 (And.intro @L3.eCall.eq_1 (And.intro @L3.eFn.eq_1 (And.intro @L3.R.calm_ok (And.intro @L3.R.calm_no (And.intro @L3.R.calm_ex (And.intro @L3.sPut.eq_1 (And.intro @L3.sPut.eq_2 (And.intro @L3.sPut.eq_3 (And.intro @L3.sPut.eq_4 (And.intro @L3.sPut.eq_5 (And.intro @L3.eAttr.eq_1 (And.intro @L3.eIsC.eq_1 (And.intro @L3.isND.eq_1 (And.intro @L3.isND.eq_2 (And.intro @L3.nonB.eq_1 (And.intro @L3.nonB.eq_2 (And.intro @L3.aNil.eq_1 (And.intro @L3.aCons.eq_1 (And.intro @L3.eTup.eq_1 (And.intro @L3.eLst.eq_1 (And.intro @L3.eIf.eq_1 (And.intro @L3.eAnd.eq_1 (And.intro @L3.eOr.eq_1 (And.intro @L3.eNot.eq_1 (And.intro @L3.tAndF.eq_1 (And.intro @L3.tOrF.eq_1 (And.intro @L3.tNotF.eq_1 (And.intro @L3.eIs.eq_1 (And.intro @L3.isT_int_non (And.intro @L3.isT_int_bl (And.intro @L3.isT_int_int (And.intro @L3.isT_int_str (And.intro @L3.isT_int_lst (And.intro @L3.isT_int_tup (And.intro @L3.isT_bool_non (And.intro @L3.isT_bool_bl (And.intro @L3.isT_bool_int (And.intro @L3.isT_bool_str (And.intro @L3.isT_bool_lst (And.intro @L3.isT_bool_tup (And.intro @L3.isT_str_non (And.intro @L3.isT_str_bl (And.intro @L3.isT_str_int (And.intro @L3.isT_str_str (And.intro @L3.isT_str_lst (And.intro @L3.isT_str_tup (And.intro @L3.isT_list_non (And.intro @L3.isT_list_bl (And.intro @L3.isT_list_int (And.intro @L3.isT_list_str (And.intro @L3.isT_list_lst (And.intro @L3.isT_list_tup (And.intro @L3.isT_tuple_non (And.intro @L3.isT_tuple_bl (And.intro @L3.isT_tuple_int (And.intro @L3.isT_tuple_str (And.intro @L3.isT_tuple_lst (And.intro @L3.isT_tuple_tup (And.intro @L3.eSlice.eq_1 (And.intro @L3.oNone.eq_1 (And.intro @L3.oSome.eq_1 (And.intro @L3.intPart.eq_1 (And.intro @L3.intPart.eq_2 (And.intro @L3.eMeth.eq_1 (And.intro @L3.eMeth0.eq_1 (And.intro @L3.tyD.eq_1 (And.intro @L3.tyD.eq_2 (And.intro @L3.tyD.eq_3 (And.intro @L3.tyD.eq_4 (And.intro @L3.iArgs.eq_1 (And.intro @L3.iOf.eq_1 (And.intro @L3.itemsD.eq_1 (And.intro @L3.itemsD.eq_2 (And.intro @L3.itemsD.eq_3 (And.intro @L3.itemsD.eq_4 (And.intro @L3.R.bind_ok (And.intro @L3.R.bind_no (And.intro @L3.R.bind_ex (And.intro @L3.W.d_sh (And.intro @L3.W.d_ow (And.intro @List.map_cons.{0,0} (And.intro @List.map_nil.{0,0} (And.intro @List.cons_append.{0} (And.intro @List.nil_append.{0} (And.intro @List.append_nil.{0} (And.intro @List.replicate_succ.{0} (And.intro @List.replicate_zero.{0} (And.intro @List.length_cons.{0} (And.intro @List.length_nil.{0} (And.intro @List.set_cons_zero.{0} (And.intro @List.set_cons_succ.{0} (And.intro @List.getElem?_cons_zero.{0} (And.intro @List.getElem?_cons_succ.{0} (And.intro @if_true.{1} (And.intro @if_false.{1} (And.intro @L3.flatD.eq_1 (And.intro @L3.flatD.eq_2 (And.intro @L3.flatD.eq_3 (And.intro @L3.flatD.eq_4 (And.intro @L3.flatD.eq_5 (And.intro @Bool.false_eq_true (And.intro @Bool.not_true (And.intro @Bool.not_false (And.intro @Bool.true_and (And.intro @Bool.false_and (And.intro @Nat.zero_add (And.intro @decide_true (And.intro @decide_false (And.intro @L3.gC.eq_1 (@L3.gV.eq_1))))))))))))))))))))))))))))))))))))))))))))))))))))))))))))))))))))))))))))))))))))))))))))))))))))))))))))))))))))))))))))))))))))))))))))))))))))
end L3

namespace L3
open PySem PySem.Spec PyProof.Rows L2
noncomputable def FnAt (K : PySem.W.Frag) (x qual : Str) (st : Stmt) (f : Addr) : Prop := ∃ fd, Fun K x qual st f fd
theorem FnAt.mk {K : PySem.W.Frag} {x qual : Str} {st : Stmt} {f : Addr} {oc kV dc pm cd ct : Value} {od an : Option Addr} {sl : Array (Option Value)}
    (l : K.lookup f = some ⟨oc, od, .func (PySem.W.fnOf x qual (defArgs st) (defBody st) (defScope st) .none kV dc pm an cd ct), sl⟩) (c : PySem.W.codeIn K cd qual = true) (k : PySem.W.keepIn K (.ref f) = true) : FnAt K x qual st f := ⟨_, fun_mk l c k⟩
noncomputable def FnTop (K : PySem.W.Frag) (x : Str) (st : Stmt) : Prop := ∃ f, PySem.W.nsIn K mainGlobals x = some (some (.ref f)) ∧ FnAt K x x st f
theorem FnTop.mk {K : PySem.W.Frag} {x : Str} {st : Stmt} {f : Addr} {oc kV dc pm cd ct : Value} {od an : Option Addr} {sl : Array (Option Value)} (a : PySem.W.nsIn K mainGlobals x = some (some (.ref f)))
    (l : K.lookup f = some ⟨oc, od, .func (PySem.W.fnOf x x (defArgs st) (defBody st) (defScope st) .none kV dc pm an cd ct), sl⟩) (c : PySem.W.codeIn K cd x = true) (k : PySem.W.keepIn K (.ref f) = true) : FnTop K x st := ⟨f, a, FnAt.mk l c k⟩
noncomputable def FnMet (K : PySem.W.Frag) (C : Addr) (x qual : Str) (st : Stmt) : Prop := ∃ f, PySem.W.findIn K (.ref C) x = some (some (.ref f)) ∧ FnAt K x qual st f ∧ PySem.W.keepIn K (.ref f) = true ∧ PySem.W.isFn K (.ref f) = true
theorem FnMet.mk {K : PySem.W.Frag} {C : Addr} {x qual : Str} {st : Stmt} {f : Addr} {oc kV dc pm cd ct : Value} {od an : Option Addr} {sl : Array (Option Value)} (a : PySem.W.findIn K (.ref C) x = some (some (.ref f)))
    (l : K.lookup f = some ⟨oc, od, .func (PySem.W.fnOf x qual (defArgs st) (defBody st) (defScope st) .none kV dc pm an cd ct), sl⟩) (c : PySem.W.codeIn K cd qual = true) (k : PySem.W.keepIn K (.ref f) = true) (i : PySem.W.isFn K (.ref f) = true) : FnMet K C x qual st := ⟨f, a, FnAt.mk l c k, k, i⟩
end L3

namespace L3
open PySem PySem.Spec PyProof.Rows L2
section
variable {X : Cx} {EX : EXS} {pos : Pos}
end
noncomputable def sortZ (l : List Int) : List Int := l.mergeSort fun a b => decide (a ≤ b)
theorem sortZ_eq {l r : List Int} (hp : r.Perm l) (hs : r.Pairwise (· ≤ ·)) : sortZ l = r := by
  have h1 : (sortZ l).Pairwise (fun a b => (decide (a ≤ b)) = true) := List.pairwise_mergeSort (le := fun a b => decide (a ≤ b)) (fun a b c h1 h2 => decide_eq_true (Int.le_trans (of_decide_eq_true h1) (of_decide_eq_true h2))) (fun a b => by
    rcases Int.le_total a b with h | h
    · simp [h]
    · simp [h]) l
  refine List.Perm.eq_of_pairwise (le := fun a b : Int => a ≤ b) (fun a b _ _ h1 h2 => Int.le_antisymm h1 h2) (h1.imp fun h => of_decide_eq_true h) hs ?_
  exact (List.mergeSort_perm l _).trans hp.symm
noncomputable def sortL : List D → R W
  | [.lst ds] => (match intsD ds with
    | some is => if is.length < 64 then .ok (.ow (.lst ((sortZ is).map fun i => .int i))) else .no
    | none => .no)
  | _ => .no
theorem ints_vals : ∀ {us : List Value} {is : List Int}, IntsAre us is → Vals (is.map fun i => V.int i) us
  | _, _, .nil => .nil
  | _, _, .cons n t r => .cons ⟨t, rfl⟩ (ints_vals r)
theorem ints_has {K : PySem.W.Frag} {G : Hp} : ∀ is : List Int, HasL K G (is.map fun i => V.int i) (is.map fun i => D.int i)
  | [] => .nil
  | _ :: r => .cons (.int _) (ints_has r)
section
variable {X : Cx} {EX : EXS} {pos : Pos}
theorem call_sortL (_hc : X.calm = true) : CallD X (.builtin "sorted") sortL := by
  intro pins s σ H vs us Q I rv q
  obtain ⟨EX, G, ds, g, r, o⟩ := q
  cases r with
  | nil => exact False.elim o
  | cons h t =>
    cases t with
    | cons _ _ => cases h <;> exact False.elim o
    | nil =>
      cases h with
      | lst h r =>
        rename_i l _ _
        simp only [sortL] at o
        split at o
        · rename_i is e
          split at o
          · rename_i hl
            obtain ⟨u, rfl, ru⟩ := rv.one
            cases ru
            obtain ⟨its, rv', pl, hz⟩ := I.list (g.seq h)
            have ia := ints_are r rv' e
            have il : its.length = is.length := ia.length
            refine sorted_ints pl.isList ia (by omega) fun out ns' a1 a2 a3 => ?_
            obtain ⟨c, hat⟩ := sortedAll_at s.heap its out
            have en : sortZ is = ns' := sortZ_eq a2 a3
            rw [en] at o
            have rv2 := ints_vals a1
            have fr := I.hok.fresh (Nat.le_succ s.heap.objs.size)
            refine ⟨.ref _, upd H _ (.lst _), I.laid (t' := s.toks) (fun _ _ => sortedAll_old) (Nat.le_succ _) ⟨?_, out.toList, c, rv2, by simpa using hat⟩, rfl, out_own o g (ints_has ns') _ fr⟩
            rw [List.length_map, a2.length_eq, sizeLine_eq]
            omega
          · exact o.elim
        · exact o.elim
      | _ => exact False.elim o
end
noncomputable def sPutG (i : Nat) (fk fe : FE) : FS := fun Δ => match Δ[i]? with
  | some (.ow (.dic kvs)) => (match fe (vall Δ) with
    | .ok w => if flatD w.d = true then (match fk (vall Δ) with
      | .ok z => (match keyD z.d with
        | some k => if kvs.length < 16777216 then .nx (Δ.set i (.ow (.dic (putA kvs k w.d)))) else .no
        | none => .no)
      | _ => .no) else .no
    | _ => .no)
  | _ => .no
section
variable {X : Cx} {EX : EXS}
theorem sd_putG {i : Nat} {x : Str} {e ie : Expr} {fe fk : FE} {p1 tpos pos : Pos} (hu : X.A.units + 64 < cLine) (he : ED X EX e fe) (hi : ED X EX ie fk) (hN : X.N[i]? = some x := by rfl) (hv : Vis X.env.scope x := by first | exact Or.inl rfl | exact Or.inr (Or.inl rfl) | exact Or.inr (Or.inr rfl)) (hd : (x == ("__debug__" : Str)) = false := by decide)
    (hcd : (x == ("__classdict__" : Str)) = false := by decide) (hs : swapsWith e (some (.Subscript (.Name x p1) ie tpos)) pos.line X.env = pure false := by rfl) :
    SD X EX (.Assign [.Subscript (.Name x p1) ie tpos] e pos) (sPutG i fk fe) :=
  PS.imp (ps_dput (by omega) (pe_var hN hv hd hcd) hi he hs) fun D σ H ⟨H0, G0, G, Δ, O, E, q⟩ => by
    unfold sPutG at q
    split at q
    · rename_i kds e1
      obtain ⟨v0, s1, t⟩ := E.ow i _ _ e1 rfl
      obtain ⟨a, kvs, rfl, m, hH, hk, rl⟩ := t.dict_of
      refine ⟨allG G H O, vall Δ, E.aH, E.gall, ?_⟩
      cases e2 : fe (vall Δ) with
      | ex x => rw [e2] at q; exact q.elim
      | no => rw [e2] at q; exact q.elim
      | ok w =>
        simp only [e2] at q
        split at q
        · rename_i fl
          refine WP.intro fun v G' H' st r => ?_
          have E2 := E.keep st.hh
          refine ⟨.ref a, s1, allG G H' O, vall Δ, E2.aH, E2.gall, ?_⟩
          cases e3 : fk (vall Δ) with
          | ex x => simp only [e3] at q; exact q.elim
          | no => simp only [e3] at q; exact q.elim
          | ok z =>
            simp only [e3] at q
            refine WP.intro fun v2 G2 H2 st2 r2 => ?_
            split at q
            · rename_i k ek
              split at q
              · rename_i hl
                have e4 := keyD_V r2 ek
                subst e4
                have hH2 : H2 a = some (.dK kvs) := st2.hh _ _ (st.hh _ _ hH)
                have hle : kvs.length = kds.length := by
                  have := congrArg List.length hk
                  rwa [List.length_map, List.length_map] at this
                obtain ⟨p1, p2⟩ := has_put k hk rl (r.ofFl fl)
                exact ⟨a, _, rfl, DPut.k hH2 (by rw [hle, sizeLine_eq]; exact hl), q σ G _ _ ((E2.keep st2.hh).writeD s1 m p1 p2) (Same.refl _)⟩
              · exact q.elim
            · exact q.elim
        · exact q.elim
    · exact q.elim
end
end L3

namespace L3
open PySem PySem.Spec PyProof.Rows L2
noncomputable def Tn.flat : Tn → Option (List D)
  | .lst ts => unT ts
  | _ => none
noncomputable def Tn.kid (t : Tn) (n : Nat) : Option (List D) := match t with
  | .lst ts => (ts[n]?).bind Tn.flat
  | .tup ts => (ts[n]?).bind Tn.flat
  | _ => none
noncomputable def Tn.setKid (t : Tn) (n : Nat) (ds : List D) : Tn := match t with
  | .lst ts => .lst (ts.set n (Tn.of (.lst ds)))
  | .tup ts => .tup (ts.set n (Tn.of (.lst ds)))
  | t => t
theorem Tn.flat_some {t : Tn} {ds : List D} (e : t.flat = some ds) : t = Tn.of (.lst ds) := by
  cases t with
  | lst ts =>
    have e : unT ts = some ds := e
    rw [unT_some e]; rfl
  | _ => cases e
section
variable {K : PySem.W.Frag} {G H : Hp}
theorem OwL.kid {vs : List V} {ts : List Tn} {S : AS} {n : Nat} {ds : List D} (r : OwL K G H vs ts S) (e : (ts[n]?).bind Tn.flat = some ds) : ∃ c cs, vs[n]? = some (.ref c) ∧ S c ∧ H c = some (.lst cs) ∧ HasL K G cs ds ∧
    ∀ {H' : Hp} {cs' : List V} {ds' : List D}, (∀ b o, S b → b ≠ c → H b = some o → H' b = some o) → H' c = some (.lst cs') → HasL K G cs' ds' → OwL K G H' vs (ts.set n (Tn.of (.lst ds'))) S := by
  obtain ⟨t, e1, e2⟩ := Option.bind_eq_some_iff.mp e
  obtain ⟨v, S1, e3, h, i, f⟩ := OwL.focus r e1
  rw [Tn.flat_some e2] at h
  obtain ⟨c, cs, rfl, m, hH, rl⟩ := h.list_of
  refine ⟨c, cs, e3, i c m, hH, rl, fun {H' cs' ds'} g hc r' => f (fun b o hb nb q => g b o hb (fun z => nb (by rw [z]; exact m)) q) (Ow.list hc m r')⟩
theorem Ow.kid {v : V} {t : Tn} {S : AS} {n : Nat} {ds : List D} (o : Ow K G H v t S) (e : t.kid n = some ds) : ∃ a vs c cs, v = .ref a ∧ (H a = some (.lst vs) ∨ H a = some (.tup vs)) ∧ vs[n]? = some (.ref c) ∧ S c ∧ c ≠ a ∧ H c = some (.lst cs) ∧ HasL K G cs ds ∧
    ∀ {H' : Hp} {cs' : List V} {ds' : List D}, (∀ b o, S b → b ≠ c → H b = some o → H' b = some o) → H' c = some (.lst cs') → HasL K G cs' ds' → Ow K G H' v (t.setKid n ds') S := by
  cases o with
  | lst h ha sub r =>
    obtain ⟨c, cs, e1, m, hc, rl, f⟩ := r.kid e
    exact ⟨_, _, c, cs, rfl, .inl h, e1, (sub c m).1, (sub c m).2, hc, rl, fun {H' cs' ds'} g hc' r' => .lst (g _ _ ha (Ne.symm (sub c m).2) h) ha sub (f (fun b o hb nb q => g b o (sub b hb).1 nb q) hc' r')⟩
  | tup h ha sub r =>
    obtain ⟨c, cs, e1, m, hc, rl, f⟩ := r.kid e
    exact ⟨_, _, c, cs, rfl, .inr h, e1, (sub c m).1, (sub c m).2, hc, rl, fun {H' cs' ds'} g hc' r' => .tup (g _ _ ha (Ne.symm (sub c m).2) h) ha sub (f (fun b o hb nb q => g b o (sub b hb).1 nb q) hc' r')⟩
  | _ => cases e
end
section
variable {X : Cx} {EX : EXS} {pos : Pos}
noncomputable def rIxQ (K : PySem.W.Frag) : R2 := fun x y H Q => rIxL K x y H Q ∨ rIxT K x y H Q
theorem ix_q : IxR X (rIxQ X.K) := by
  intro value slice pins s σ H x y v u Q I rx ry h hs
  rcases h with h | h
  · exact ix_list value slice pins s σ H x y v u Q I rx ry h hs
  · exact ix_tup value slice pins s σ H x y v u Q I rx ry h hs
theorem atI_nat {α : Type} {xs : List α} {n : Nat} {x : α} (h : xs[n]? = some x) : atI xs (n : Int) = some x := by
  have hn : n < xs.length := (List.getElem?_eq_some_iff.mp h).1
  unfold atI ixN
  rw [if_pos (by omega), if_pos (by omega)]
  exact h
theorem rIxQ.at {K : PySem.W.Frag} {H : Hp} {Q : VK} {a : Addr} {vs : List V} {n : Nat} {v : V} (h : H a = some (.lst vs) ∨ H a = some (.tup vs)) (e : vs[n]? = some v) (q : Q v H) : rIxQ K (.ref a) (.int (n : Int)) H Q := by
  rcases h with h | h
  · exact .inl ⟨a, vs, n, v, rfl, rfl, SqL.of h, atI_nat e, q⟩
  · exact .inr ⟨a, vs, n, v, rfl, rfl, SqT.of h, atI_nat e, q⟩
noncomputable def sAppN (i n : Nat) (f : FE) : FS := fun Δ => match (Δ[i]?).bind Sl.tree with
  | some (t, lk) => (match t.kid n with
    | some ds => if ds.length < 16777216 then (match f (vsh Δ) with
      | .ok w => .nx (Δ.set i (Sl.mk lk (t.setKid n (ds ++ [w.d]))))
      | _ => .no) else .no
    | none => .no)
  | none => .no
theorem sd_appN {i n : Nat} {x : Str} {e : Expr} {f : FE} {p1 p2 p3 apos cpos : Pos} {kd : Nat} (he : ED X EX e f) (hN : X.N[i]? = some x := by rfl) (hv : Vis X.env.scope x := by first | exact Or.inl rfl | exact Or.inr (Or.inl rfl) | exact Or.inr (Or.inr rfl)) (hd : (x == ("__debug__" : Str)) = false := by decide)
    (hcd : (x == ("__classdict__" : Str)) = false := by decide) (hn1 : PlainIx (.Constant (.int (n : Int)) kd p3) := by intro _ _; rfl)
    (hsw : swapsWith (.Call (.Attribute (.Subscript (.Name x p1) (.Constant (.int (n : Int)) kd p3) p2) "append" apos) [e] [] cpos) none pos.line X.env = pure false := by rfl)
    (hbase : attributeBase (.Subscript (.Name x p1) (.Constant (.int (n : Int)) kd p3) p2) "append" X.env (eval (.Subscript (.Name x p1) (.Constant (.int (n : Int)) kd p3) p2) X.env) = eval (.Subscript (.Name x p1) (.Constant (.int (n : Int)) kd p3) p2) X.env := by rfl)
    (hfew : ((backTo cpos (starEach [e] X.env)).all (fun x => !x.1) && (backToKw cpos (keywordEach [] X.env)).all (fun x => x.1.isSome)
      && decide ([e].length + ([] : List Keyword).length + (if ([] : List Keyword).isEmpty then 0 else 1) < 30)) = true := by rfl)
    (hline : (apos.endLine == cpos.line) = true := by rfl) (hs : starEach [e] X.env = (false, eval e X.env) :: starEach [] X.env := by rfl) (hplain : (backTo cpos (starEach [] X.env)).any (·.1) = false := by rfl) :
    SD X EX (.Expr (.Call (.Attribute (.Subscript (.Name x p1) (.Constant (.int (n : Int)) kd p3) p2) "append" apos) [e] [] cpos) pos) (sAppN i n f) :=
  PS.imp (ps_expr (pe_bm PySem.F.plainAttrs_list PySem.F.slot_list_append PySem.F.type_list_append mt_append (pe_ix ix_q (pe_var hN hv hd hcd) pe_int hn1) (pa_cons he pa_nil hs) hbase hfew hline hs hplain) hsw) fun D σ H ⟨H0, G0, G, Δ, O, E, q⟩ => by
    unfold sAppN at q
    split at q
    · rename_i t lk e0
      obtain ⟨s, e1, etr⟩ := Option.bind_eq_some_iff.mp e0
      obtain ⟨v0, s1, t0⟩ := E.ow i _ _ e1 (Sl.tree_own etr)
      split at q
      · rename_i ds ek
        split at q
        · rename_i hz
          obtain ⟨a, vs, c, cs, rfl, hA, hc1, mc, hca, hcs, rc, _⟩ := t0.kid ek
          refine ⟨.ref a, s1, rIxQ.at hA hc1 ⟨.inl ⟨rfl, _, SqL.of hcs⟩, ?_⟩⟩
          refine ⟨G, vsh Δ, E.st.gh, E.gsh, ?_⟩
          cases e2 : f (vsh Δ) with
          | ex x => simp only [e2] at q; exact q.elim
          | no => simp only [e2] at q; exact q.elim
          | ok w =>
            simp only [e2] at q
            refine WP.intro fun v G' H' st r => ?_
            have E2 := E.grow st
            obtain ⟨v0', s1', t2⟩ := E2.ow i _ _ e1 (Sl.tree_own etr)
            rw [s1] at s1'
            cases s1'
            obtain ⟨a', vs', c', cs', ea, hA', hc1', mc', hca', hcs', rc', fin⟩ := t2.kid ek
            cases ea
            have hvv : vs' = vs := by
              rcases hA with z | z <;> rcases hA' with z' | z' <;> (rw [st.hh _ _ z] at z'; cases z'; try rfl)
            subst hvv
            rw [hc1] at hc1'
            cases hc1'
            rw [st.hh _ _ hcs] at hcs'
            cases hcs'
            refine ⟨c, cs, v, rfl, rfl, st.hh _ _ hcs, by rw [rc.length, sizeLine_eq]; exact hz, q σ G' _ _ (E2.writeIn e1 etr s1 mc' (fin (fun b o _ nb z => by rw [upd_ne nb]; exact z) upd_same (rc'.append (.cons r .nil)))) st.gg⟩
        · exact q.elim
      · exact q.elim
    · exact q.elim
end
mutual
noncomputable def okN (p : List D → Bool) : D → Bool
  | .lst es => p es && okNs p es
  | .tup es => okNs p es
  | .dic kvs => okNk p kvs
  | .exn _ _ vs => okNs p vs
  | .obj _ _ vs => okNs p vs
  | _ => true
noncomputable def okNs (p : List D → Bool) : List D → Bool
  | [] => true
  | e :: es => okN p e && okNs p es
noncomputable def okNk (p : List D → Bool) : List (Key × D) → Bool
  | [] => true
  | (_, e) :: es => okN p e && okNk p es
end
theorem okNk_map (p : List D → Bool) : ∀ kvs : List (Key × D), okNk p kvs = okNs p (kvs.map (·.2))
  | [] => rfl
  | (k, e) :: es => by show (okN p e && okNk p es) = (okN p e && okNs p (es.map (·.2))); rw [okNk_map p es]
open Classical in
noncomputable def offS (G : Hp) (A : AS) : Hp := fun b => if A b then none else G b
theorem offS_ne {G : Hp} {A : AS} {b : Addr} (h : ¬ A b) : offS G A b = G b := if_neg h
section
variable {K : PySem.W.Frag} {G : Hp} {A : AS} {p : List D → Bool}
mutual
theorem Has.offS (hA : ∀ a, A a → ∃ vs, G a = some (.lst vs)) (hp : ∀ a vs es, A a → G a = some (.lst vs) → HasL K G vs es → p es = false) : ∀ {v : V} {d : D}, Has K G v d → okN p d = true → Has K (L3.offS G A) v d
  | _, _, .non, _ => .non
  | _, _, .bl b, _ => .bl b
  | _, _, .int i, _ => .int i
  | _, _, .str x, _ => .str x
  | _, _, .lst (a := b) (ds := es) h r, n => by
    have n' : (p es && okNs p es) = true := n
    rw [Bool.and_eq_true] at n'
    have r' := HasL.offS hA hp r n'.2
    by_cases hb : A b
    · obtain ⟨ws, hw⟩ := hA b hb
      rcases h with (h | ⟨o, h⟩) | h
      · rw [hp b _ es hb h r] at n'
        cases n'.1
      · rw [hw] at h; cases h
      · exact .lst (.inr h) r'
    · refine .lst ?_ r'
      rcases h with (h | ⟨o, h⟩) | h
      · exact .inl (.inl (by rw [offS_ne hb]; exact h))
      · exact .inl (.inr ⟨o, by rw [offS_ne hb]; exact h⟩)
      · exact .inr h
  | _, _, .tup (a := b) h r, n => by
    have r' := HasL.offS hA hp r n
    by_cases hb : A b
    · obtain ⟨ws, hw⟩ := hA b hb
      rcases h with (h | ⟨o, h⟩) | h
      · rw [hw] at h; cases h
      · rw [hw] at h; cases h
      · exact .tup (.inr h) r'
    · refine .tup ?_ r'
      rcases h with (h | ⟨o, h⟩) | h
      · exact .inl (.inl (by rw [offS_ne hb]; exact h))
      · exact .inl (.inr ⟨o, by rw [offS_ne hb]; exact h⟩)
      · exact .inr h
  | _, _, .exn0 (a := b) hc h, _ => by
    have hb : ¬ A b := fun z => by obtain ⟨ws, hw⟩ := hA b z; rw [hw] at h; cases h
    exact .exn0 hc (by rw [offS_ne hb]; exact h)
  | _, _, .exn1 (a := b) (d := e) hc h hd hl r, n => by
    have hb : ¬ A b := fun z => by obtain ⟨ws, hw⟩ := hA b z; rw [hw] at h; cases h
    have he : ¬ A e := fun z => by obtain ⟨ws, hw⟩ := hA e z; rw [hw] at hd; cases hd
    exact .exn1 hc (by rw [offS_ne hb]; exact h) (by rw [offS_ne he]; exact hd) hl (HasL.offS hA hp r n)
  | _, _, .dic (a := b) h hk r, n => by
    have hb : ¬ A b := fun z => by
      obtain ⟨ws, hw⟩ := hA b z
      rcases h with h | ⟨o, h⟩
      · rw [hw] at h; cases h
      · rw [hw] at h; cases h
    refine .dic ?_ hk (HasL.offS hA hp r (by rw [← okNk_map]; exact n))
    rcases h with h | ⟨o, h⟩
    · exact .inl (by rw [offS_ne hb]; exact h)
    · exact .inr ⟨o, by rw [offS_ne hb]; exact h⟩
  | _, _, .obj (a := b) hc h hl r, n => by
    have hb : ¬ A b := fun z => by obtain ⟨ws, hw⟩ := hA b z; rw [hw] at h; cases h
    exact .obj hc (by rw [offS_ne hb]; exact h) hl (HasL.offS hA hp r n)
theorem HasL.offS (hA : ∀ a, A a → ∃ vs, G a = some (.lst vs)) (hp : ∀ a vs es, A a → G a = some (.lst vs) → HasL K G vs es → p es = false) : ∀ {us : List V} {es : List D}, HasL K G us es → okNs p es = true → HasL K (L3.offS G A) us es
  | _, _, .nil, _ => .nil
  | _, _, .cons h r, n => by
    have n' : (okN p _ && okNs p _) = true := n
    rw [Bool.and_eq_true] at n'
    exact .cons (Has.offS hA hp h n'.1) (HasL.offS hA hp r n'.2)
end
end
noncomputable def Tn.two : Tn → Option (List D × List D)
  | .lst [a, b] => (a.flat).bind fun ds => (b.flat).map fun es => (ds, es)
  | _ => none
section
variable {X : Cx} {EX : EXS} {pos : Pos}
end
end L3

namespace PySem
namespace SetTable
noncomputable def Ris (xs : Array Nat) : Prop := xs.toList.Pairwise (· < ·)
theorem Ris.get {xs : Array Nat} (h : Ris xs) {i j x y : Nat} (hij : i < j) (hi : xs[i]? = some x) (hj : xs[j]? = some y) : x < y := by
  rw [← Array.getElem?_toList] at hi hj
  obtain ⟨a, rfl⟩ := List.getElem?_eq_some_iff.mp hi
  obtain ⟨b, rfl⟩ := List.getElem?_eq_some_iff.mp hj
  exact List.pairwise_iff_getElem.mp h i j a b hij
structure Cut (xs : Array Nat) (j k : Nat) : Prop where
  le : k ≤ xs.size
  lo : ∀ i x, i < k → xs[i]? = some x → x < j
  hi : ∀ i x, k ≤ i → xs[i]? = some x → j ≤ x
theorem below_go {xs : Array Nat} (h : Ris xs) (j : Nat) : ∀ fuel lo hi, hi - lo ≤ fuel → lo ≤ hi → hi ≤ xs.size → (∀ i x, i < lo → xs[i]? = some x → x < j) → (∀ i x, hi ≤ i → xs[i]? = some x → j ≤ x) → Cut xs j (below.go xs j fuel lo hi)
  | 0, lo, hi, hf, hl, hz, h1, h2 => by
    have : lo = hi := by omega
    subst this
    exact ⟨hz, h1, h2⟩
  | fuel + 1, lo, hi, hf, hl, hz, h1, h2 => by
    unfold below.go
    by_cases hlt : lo < hi
    · rw [if_pos hlt]
      have hm : (lo + hi) / 2 < xs.size := by omega
      have em : xs[(lo + hi) / 2]? = some xs[(lo + hi) / 2] := Array.getElem?_eq_getElem hm
      have eg : xs.getD ((lo + hi) / 2) j = xs[(lo + hi) / 2] := by simp [Array.getD, hm]
      dsimp only
      rw [eg]
      by_cases hc : xs[(lo + hi) / 2] < j
      · rw [if_pos hc]
        refine below_go h j fuel _ _ (by omega) (by omega) hz (fun i x hi' ex => ?_) h2
        by_cases e : i = (lo + hi) / 2
        · subst e; rw [em] at ex; cases ex; exact hc
        · exact Nat.lt_trans (h.get (by omega) ex em) hc
      · rw [if_neg hc]
        refine below_go h j fuel _ _ (by omega) (by omega) (by omega) h1 (fun i x hi' ex => ?_)
        by_cases e : i = (lo + hi) / 2
        · subst e; rw [em] at ex; cases ex; omega
        · have := h.get (show (lo + hi) / 2 < i by omega) em ex
          omega
    · rw [if_neg hlt]
      have : lo = hi := by omega
      subst this
      exact ⟨hz, h1, h2⟩
theorem below_cut {xs : Array Nat} (h : Ris xs) (j : Nat) : Cut xs j (below xs j) :=
  below_go h j xs.size 0 xs.size (by omega) (Nat.zero_le _) (Nat.le_refl _) (fun i x hi => by omega) fun i x hi e => by
    have := (Array.getElem?_eq_some_iff.mp e).1
    omega
theorem insertAt_list {α : Type} (xs : Array α) (p : Nat) (x : α) : (insertAt xs p x).toList = xs.toList.take p ++ x :: xs.toList.drop p := by
  unfold insertAt
  simp [Array.toList_extract, List.extract_eq_drop_take]
  exact List.take_of_length_le (by rw [List.length_drop, Array.length_toList]; exact Nat.le_refl _)
theorem Ris.insert {xs : Array Nat} (h : Ris xs) {j : Nat} (hn : xs[below xs j]? ≠ some j) : Ris (insertAt xs (below xs j) j) := by
  have c := below_cut h j
  unfold Ris
  rw [insertAt_list]
  refine List.pairwise_append.mpr ⟨List.Pairwise.sublist (List.take_sublist _ _) h, List.pairwise_cons.mpr ⟨fun y hy => ?_, List.Pairwise.sublist (List.drop_sublist _ _) h⟩, fun x hx y hy => ?_⟩
  · obtain ⟨i, hi, rfl⟩ := List.mem_iff_getElem.mp hy
    rw [List.getElem_drop]
    have hb : below xs j + i < xs.size := by rw [List.length_drop, Array.length_toList] at hi; omega
    have e : xs[below xs j + i]? = some (xs.toList[below xs j + i]'(by rw [Array.length_toList]; exact hb)) := by rw [← Array.getElem?_toList]; exact List.getElem?_eq_getElem _
    have h1 := c.hi _ _ (Nat.le_add_right _ _) e
    by_cases z : j = xs.toList[below xs j + i]'(by rw [Array.length_toList]; exact hb)
    · exfalso
      cases i with
      | zero => exact hn (e.trans (by rw [← z]))
      | succ i =>
        have h0 : below xs j < xs.size := by omega
        have h2 := h.get (show below xs j < below xs j + (i + 1) by omega) (Array.getElem?_eq_getElem h0) e
        have h3 := c.hi _ _ (Nat.le_refl _) (Array.getElem?_eq_getElem h0)
        omega
    · omega
  · have hxj : x < j := by
      obtain ⟨i, hi, rfl⟩ := List.mem_iff_getElem.mp hx
      rw [List.length_take] at hi
      rw [List.getElem_take]
      exact c.lo i _ (by omega) (by rw [← Array.getElem?_toList]; exact List.getElem?_eq_getElem _)
    rcases List.mem_cons.mp hy with rfl | hy
    · exact hxj
    · obtain ⟨i, hi, rfl⟩ := List.mem_iff_getElem.mp hy
      rw [List.getElem_drop]
      have hb : below xs j + i < xs.size := by rw [List.length_drop, Array.length_toList] at hi; omega
      have h1 := c.hi _ _ (Nat.le_add_right (below xs j) i) (show xs[below xs j + i]? = some (xs.toList[below xs j + i]'(by rw [Array.length_toList]; exact hb)) by rw [← Array.getElem?_toList]; exact List.getElem?_eq_getElem _)
      omega
theorem slot_free {t : SetTable} {j : Nat} (h : t.slot j = .empty ∨ t.slot j = .dummy) : t.place[below t.place j]? ≠ some j := fun e => by
  have : t.slot j = .live (below t.place j) := by
    unfold slot
    dsimp only
    rw [e]
    simp
  rw [this] at h
  rcases h with h | h <;> cases h
theorem probe_free {t : SetTable} {h : Int} : ∀ (fuel : Nat) (p : Probe) (j : Nat) (d : Option Nat), (∀ q, p.dummy = some q → t.slot q = .dummy) → probe.go t (fun _ => h + 1) h fuel p = some (.empty j d) → t.slot j = .empty ∧ ∀ q, d = some q → t.slot q = .dummy
  | 0, p, j, d, _, e => by cases e
  | fuel + 1, p, j, d, hd, e => by
    unfold probe.go at e
    split at e
    · rename_i hs
      cases e
      exact ⟨hs, hd⟩
    · rename_i hs
      refine probe_free fuel _ j d (fun q hq => ?_) e
      have : (t.advance { p with dummy := some p.j }).dummy = some p.j := by
        unfold advance
        split <;> rfl
      rw [this] at hq
      cases hq
      exact hs
    · rename_i i hs
      rw [if_neg (by rw [beq_iff_eq]; omega)] at e
      refine probe_free fuel _ j d (fun q hq => hd q ?_) e
      have : (t.advance p).dummy = p.dummy := by
        unfold advance
        split <;> rfl
      rw [← this]
      exact hq
theorem freeSlot_free {t : SetTable} {h : Int} {j : Nat} {b : Bool} (e : t.freeSlot h = some (j, b)) : t.place[below t.place j]? ≠ some j := by
  unfold freeSlot at e
  split at e
  · rename_i j0 d hp
    obtain ⟨h1, h2⟩ := probe_free _ _ j0 d (fun q hq => by cases hq) hp
    cases e
    cases d with
    | none => exact slot_free (.inl h1)
    | some q => exact slot_free (.inr (h2 q rfl))
  · cases e
theorem ris_range (n : Nat) : Ris (Array.range n) := by
  unfold Ris
  rw [Array.toList_range]
  exact List.pairwise_lt_range
noncomputable def Fine (led : Bool) (t : SetTable) : Prop := Ris t.place ∧ t.led = led
theorem Fine.standIn {led : Bool} {t : SetTable} (h : Fine led t) (n : Nat) : Fine led (t.standIn n) := ⟨ris_range n, h.2⟩
theorem Fine.plainOff {led : Bool} {t : SetTable} (h : Fine led t) : Fine led { t with plain := false } := h
theorem Fine.new {led : Bool} {t : SetTable} (h : Fine led t) (es : Array (Int × Value)) (k : Int) (x : Value) : Fine led (layNew t es k x).2.1 := by
  unfold layNew
  split
  · rename_i j b e
    dsimp only
    have f : Fine led (t.put j).1 := ⟨h.1.insert (freeSlot_free e), h.2⟩
    unfold orStandIn
    split
    · exact f
    · exact f.standIn _
  · exact h.standIn _
theorem live_sub {α : Type} (f : Nat → Option α) : ∀ l : List Nat, ((l.filterMap fun j => (f j).map (j, ·)).map (·.1)).Sublist l
  | [] => .slnil
  | j :: l => by
    have ih := live_sub f l
    cases e : f j with
    | none => rw [List.filterMap_cons_none (by rw [e]; rfl)]; exact .cons _ ih
    | some a => rw [List.filterMap_cons_some (by rw [e]; rfl), List.map_cons]; exact .cons₂ _ ih
theorem Fine.relay {led : Bool} {t : SetTable} (h : Fine led t) (es : Array (Int × Value)) (n : Nat) : Fine led (relayAll t es n).2.1 := by
  unfold relayAll
  split
  · rename_i t' order e
    dsimp only
    split
    · unfold relaid laid at e
      obtain ⟨owner, _, e2⟩ := Option.bind_eq_some_iff.mp e
      cases e2
      refine ⟨?_, h.2⟩
      unfold Ris
      exact List.Pairwise.sublist (live_sub (fun j => owner.getD j none) _) List.pairwise_lt_range
    · exact h.standIn _
  · exact h.standIn _
end SetTable
end PySem

namespace PySem
noncomputable def vInt : Value → Int
  | .int i _ => i
  | _ => 0
noncomputable def Heap.ISet (prog : Program) (w : World) (h : Heap) (a : Addr) (led : Bool) (ns : List Int) : Prop :=
  ∃ o es ep t, h.get? a = some o ∧ o.ExactSet ∧ o.data = .set es ep t ∧ ElemsOf (intKind prog w) es.toList ∧ (es.toList.map fun e => vInt e.2).Perm ns ∧ es.size < scanBound ∧ t.fits es.size = true ∧ SetTable.Fine led t
section
variable {prog : Program} {w : World} {A : Around} {E : Value → Shared → Prop} {s : Shared} {led : Bool} {ns : List Int} {a : Addr}
theorem Heap.ISet.kept {h h' : Heap} (x : h.ISet prog w a led ns) (e : ∀ o, h.get? a = some o → h'.get? a = some o) : h'.ISet prog w a led ns := x.elim fun o y => ⟨o, y.elim fun es y => ⟨es, y.elim fun ep y => ⟨ep, y.elim fun t y => ⟨t, e o y.1, y.2⟩⟩⟩⟩
theorem isInt_v {k : Int} {v : Value} (h : (intKind prog w).is k v = true) : vInt v = k := by
  obtain ⟨t, rfl⟩ := Value.isInt_shape h
  rfl
theorem iset_put {h : Heap} {o : Obj} {es0 es : Array (Int × Value)} {ep : Nat} {t0 t : SetTable} (ho : h.get? a = some o) (hex : o.ExactSet) (hd : o.data = .set es0 ep t0) (hel : ElemsOf (intKind prog w) es.toList) (hp : (es.toList.map fun e => vInt e.2).Perm ns) (hb : es.size < scanBound) (hf : t.fits es.size = true) (fn : SetTable.Fine led t) :
    (h.update a (Obj.putSet es t)).get? a = some { o with data := .set es (ep + 1) t } ∧ (h.update a (Obj.putSet es t)).ISet prog w a led ns := by
  have e : Obj.putSet es t o = { o with data := .set es (ep + 1) t } := putSet_of es t hd
  have g : (h.update a (Obj.putSet es t)).get? a = some { o with data := .set es (ep + 1) t } := e ▸ Heap.get?_update_self (Obj.putSet es t) ho (by rw [e]; rfl)
  exact ⟨g, _, es, ep + 1, t, g, hex, rfl, hel, hp, hb, hf, fn⟩
theorem iset_add {k : Int} {tk : Tok} {Q : Bool → Shared → Prop} (hn : k ∉ ns) (hS : s.heap.ISet prog w a led ns) (hroom : ns.length + 1 < scanBound)
    (h : ∀ h', Heap.SameBut a s.heap h' → h'.ISet prog w a led (ns ++ [k]) → Q true { s with heap := h' }) : wpAny (model prog w) A (setAddHashed a (.int k tk) ((intKind prog w).hash k)) Q E s := by
  obtain ⟨o, es, ep, t, ho, hex, hd, hel, hpm, hb, hf, fn⟩ := hS
  have is : (intKind prog w).is k (.int k tk) = true := by show Value.isInt k (.int k tk) = true; simp [Value.isInt]
  have hsz : es.size = ns.length := by simpa using hpm.length_eq
  have none : es.toList.findIdx? (fun e => (intKind prog w).is k e.2) = none := List.findIdx?_eq_none_iff.mpr fun e he => by
    cases hk : (intKind prog w).is k e.2 with
    | false => rfl
    | true => exact absurd (hpm.mem_iff.mp (List.mem_map.mpr ⟨e, he, isInt_v hk⟩)) hn
  have pm := layNew_perm t es ((intKind prog w).hash k) (.int k tk)
  have ft := layNew_fits t es ((intKind prog w).hash k) (.int k tk)
  have f1 := fn.new es ((intKind prog w).hash k) (.int k tk)
  have gave : ∀ (b : Bool) (s1 : Shared) (Q1 : Unit → Shared → Prop), Q1 () s1 → wpAny (model prog w) A (match b with | true => rule "set.scan.the-table-gave-way" | false => pure ()) Q1 E s1 := fun b s1 Q1 q => by
    cases b
    · exact wpAny_pure q
    · exact wpAny_rule q
  unfold setAddHashed setAddHashedIn setAddByScan
  refine wpAny_holding (wpAny_bind (wpAny_setState_of ho hd hf ?_))
  dsimp only
  rw [if_pos (byScan_of rfl hb hel)]
  refine wpAny_bind (wpAny_bind (wpAny_rule (wpAny_bind (wpAny_setScan_of is ho hd hf hel ?_))))
  rw [none]
  dsimp only
  generalize layNew t es ((intKind prog w).hash k) (.int k tk) = L at pm ft f1 ⊢
  obtain ⟨es1, t1, was, gv⟩ := L
  dsimp only at pm ft f1 ⊢
  rw [Array.toList_push] at pm
  have el1 : ElemsOf (intKind prog w) es1.toList := (hel.push is rfl).perm pm
  have p1 : (es1.toList.map fun e => vInt e.2).Perm (ns ++ [k]) := (pm.map _).trans (by rw [List.map_append]; exact hpm.append_right _)
  have z1 : es1.size = ns.length + 1 := by simpa using p1.length_eq
  have b1 : es1.size < scanBound := by omega
  refine wpAny_bind (gave gv _ _ ?_)
  have tail : ∀ t2 : SetTable, t2.fits es1.size = true → SetTable.Fine led t2 → wpAny (model prog w) A (do
      storeSet a es1 t2
      if (!was && t2.tooFull) = true then do
          (match (relayAll t2 es1 (SetTable.grown es1.size)).2.2 with | true => rule "set.scan.the-table-gave-way" | false => pure ())
          storeSet a (relayAll t2 es1 (SetTable.grown es1.size)).1 (relayAll t2 es1 (SetTable.grown es1.size)).2.1
          pure (some true)
        else pure (some true)) (fun r s1 => r = some true ∧ Q true s1) E s := fun t2 ft2 fn2 => by
    obtain ⟨o1, i1⟩ := iset_put ho hex hd el1 p1 b1 ft2 fn2
    have sb := Heap.SameBut.update s.heap a (Obj.putSet es1 t2)
    refine wpAny_bind (wpAny_storeSet_of ho hd ?_ (fits_of_scanBound b1))
    split
    · have pm2 := relayAll_perm t2 es1 (SetTable.grown es1.size)
      have ft3 := relayAll_fits t2 es1 (SetTable.grown es1.size)
      have fn3 := fn2.relay es1 (SetTable.grown es1.size)
      generalize relayAll t2 es1 (SetTable.grown es1.size) = L2 at pm2 ft3 fn3 ⊢
      obtain ⟨es2, t3, g2⟩ := L2
      dsimp only at pm2 ft3 fn3 ⊢
      have z2 : es2.size = es1.size := by simpa using pm2.length_eq
      have b2 : es2.size < scanBound := by omega
      refine wpAny_bind (gave g2 _ _ (wpAny_bind (wpAny_storeSet_of o1 rfl ?_ (fits_of_scanBound b2))))
      exact wpAny_pure ⟨rfl, h _ (sb.trans (Heap.SameBut.update _ a _)) (iset_put o1 hex rfl (el1.perm pm2) ((pm2.map _).trans p1) b2 ft3 fn3).2⟩
    · exact wpAny_pure ⟨rfl, h _ sb i1⟩
  split
  · rw [hashByValue_scannable 8 rfl]
    refine wpAny_bind (wpAny_pure ?_)
    split
    · exact wpAny_mono (tail t1 ft f1) (fun r s1 q => by obtain ⟨rfl, q⟩ := q; exact wpAny_pure q) fun _ _ q => q
    · exact wpAny_mono (tail _ (SetTable.fits_plain_off ft) f1.plainOff) (fun r s1 q => by obtain ⟨rfl, q⟩ := q; exact wpAny_pure q) fun _ _ q => q
  · refine wpAny_bind (wpAny_pure ?_)
    rw [if_pos rfl]
    exact wpAny_mono (tail t1 ft f1) (fun r s1 q => by obtain ⟨rfl, q⟩ := q; exact wpAny_pure q) fun _ _ q => q
end
end PySem

namespace PySem
open AutoSeq1 (wpAny_loadPart')
namespace F
theorem slot_sit_next : Slot "set_iterator" "__next__" "set_iterator.__next__" := Slot.of (owner := "set_iterator") (n := "__next__") (by simp only [typeLookup_type, builtinLookup_eq_fast]; kernel_rfl) (by decide +kernel) (by decide +kernel) (by decide +kernel) (.inl (by decide +kernel)) (by simp only [isSubtype_type]; kernel_rfl)
theorem slot_sit_iter : Slot "set_iterator" "__iter__" "set_iterator.__iter__" := Slot.of (owner := "set_iterator") (n := "__iter__") (by simp only [typeLookup_type, builtinLookup_eq_fast]; kernel_rfl) (by decide +kernel) (by decide +kernel) (by decide +kernel) (.inl (by decide +kernel)) (by simp only [isSubtype_type]; kernel_rfl)
theorem slot_set_iterZ : Slot "set" "__iter__" "set.__iter__" := Slot.of (owner := "set") (n := "__iter__") (by simp only [typeLookup_type, builtinLookup_eq_fast]; kernel_rfl) (by decide +kernel) (by decide +kernel) (by decide +kernel) (.inl (by decide +kernel)) (by simp only [isSubtype_type]; kernel_rfl)
theorem slot_set_lenZ : Slot "set" "__len__" "set.__len__" := Slot.of (owner := "set") (n := "__len__") (by simp only [typeLookup_type, builtinLookup_eq_fast]; kernel_rfl) (by decide +kernel) (by decide +kernel) (by decide +kernel) (.inl (by decide +kernel)) (by simp only [isSubtype_type]; kernel_rfl)
theorem code_sit_next : entryFor table "set_iterator.__next__" = some Builtin.«set_iterator.__next__» := entryFor_of_tree (by kernel_rfl)
theorem code_sit_iter : entryFor table "set_iterator.__iter__" = some Builtin.«dict_keyiterator.__iter__» := entryFor_alias (id' := "dict_keyiterator.__iter__") (by kernel_rfl) (by decide +kernel) (by decide +kernel) (by kernel_rfl)
theorem code_set_iterZ : entryFor table "set.__iter__" = some Builtin.«frozenset.__iter__» := entryFor_alias (id' := "frozenset.__iter__") (by kernel_rfl) (by decide +kernel) (by decide +kernel) (by kernel_rfl)
theorem ow_sitZ : Manifest.owners.lookup (String.ofList "set_iterator".toList.reverse.reverse) = some Manifest.sig_set_iterator := by kernel_rfl
theorem ow_setZ : Manifest.owners.lookup (String.ofList "set".toList.reverse.reverse) = some Manifest.sig_set := by kernel_rfl
theorem args_sit_next (a : Value) : argsOk "set_iterator.__next__" ⟨[a], []⟩ := by
  rw [argsOk, signature?_of (id := "set_iterator.__next__") (n := "__next__".toList.reverse) (o := "set_iterator".toList.reverse) (by kernel_rfl) ow_sitZ]; kernel_rfl
theorem args_sit_iter (a : Value) : argsOk "set_iterator.__iter__" ⟨[a], []⟩ := by
  rw [argsOk, signature?_of (id := "set_iterator.__iter__") (n := "__iter__".toList.reverse) (o := "set_iterator".toList.reverse) (by kernel_rfl) ow_sitZ]; kernel_rfl
theorem args_set_iterZ (a : Value) : argsOk "set.__iter__" ⟨[a], []⟩ := by
  rw [argsOk, signature?_of (id := "set.__iter__") (n := "__iter__".toList.reverse) (o := "set".toList.reverse) (by kernel_rfl) ow_setZ]; kernel_rfl
end F
theorem eraseIdx_perm {α : Type} : ∀ {l : List α} {i : Nat} {x : α}, l[i]? = some x → (x :: l.eraseIdx i).Perm l
  | [], i, x, h => by simp at h
  | a :: l, 0, x, h => by
    have : a = x := by simpa using h
    subst this
    exact .refl _
  | a :: l, i + 1, x, h => by
    have ih := eraseIdx_perm (l := l) (i := i) (x := x) (by simpa using h)
    rw [List.eraseIdx_cons_succ]
    exact (List.Perm.swap _ _ _).trans (ih.cons a)
theorem pick_go {α : Type} (next : Nat → Nat) : ∀ (fuel k : Nat) (l : List α) (out : Array α), fuel = l.length → (pickOrder.go next fuel k l out).toList.Perm (out.toList ++ l)
  | 0, k, l, out, h => by
    have : l = [] := List.eq_nil_of_length_eq_zero h.symm
    subst this
    unfold pickOrder.go
    rw [List.append_nil]
  | fuel + 1, k, l, out, h => by
    have hp : 0 < l.length := by omega
    have hm := Nat.mod_lt (next k) hp
    have e : l[next k % l.length]? = some (l[next k % l.length]) := List.getElem?_eq_getElem hm
    unfold pickOrder.go
    rw [e]
    dsimp only
    refine (pick_go next fuel (k + 1) _ _ (by rw [List.length_eraseIdx, if_pos hm]; omega)).trans ?_
    rw [Array.toList_push, List.append_assoc]
    exact (eraseIdx_perm e).append_left _
theorem pick_perm {α : Type} (next : Nat → Nat) (xs : Array α) : (pickOrder next xs).toList.Perm xs.toList := by
  have := pick_go next xs.size 0 xs.toList #[] (by rw [Array.length_toList])
  simpa [pickOrder] using this
section
variable {prog : Program} {w : World} {A : Around} {E : Value → Shared → Prop} {s : Shared}
theorem wp_choose' {src : Source} {n : Nat} {Q : Nat → Shared → Prop} (hn : 0 < n) (h : ∀ i d, i < n → Q i { s with drawn := d }) : wpAny (model prog w) A (choose src n) Q E s :=
  fun _ _ _ => ⟨Nat.ne_of_gt hn, h _ _ (Nat.mod_lt _ hn)⟩
theorem wp_draw {α : Type} : ∀ (n : Nat) (xs : List α) (s : Shared) {Q : List α → Shared → Prop}, n = xs.length → (∀ ys d, ys.Perm xs → Q ys { s with drawn := d }) → wpAny (model prog w) A (drawOrder n xs) Q E s
  | 0, xs, s, Q, hn, h => by
    have : xs = [] := List.eq_nil_of_length_eq_zero hn.symm
    subst this
    unfold drawOrder
    exact wpAny_pure (h [] s.drawn (.refl _))
  | n + 1, [], s, Q, hn, h => by simp at hn
  | n + 1, x :: xs, s, Q, hn, h => by
    unfold drawOrder
    refine wpAny_bind (wp_choose' (by simp) fun i d hi => ?_)
    have e : (x :: xs)[i]? = some (x :: xs)[i] := List.getElem?_eq_getElem hi
    rw [e]
    dsimp only
    refine wpAny_bind (wp_draw n _ _ (by rw [List.length_eraseIdx, if_pos hi]; omega) fun ys d' hp => wpAny_pure (h _ d' ((hp.cons _).trans (eraseIdx_perm e))))
noncomputable def Heap.SetIt (h : Heap) (I S : Addr) (f : Value) (i n ep : Nat) : Prop := ∃ o, h.get? I = some o ∧ o.cls = .type "set_iterator" ∧ o.data = .fields #[f, rawInt i, .ref S, rawInt n, rawInt ep]
noncomputable def Heap.SetHas (h : Heap) (S : Addr) (es : Array (Int × Value)) (ep : Nat) (t : SetTable) : Prop := ∃ o, h.get? S = some o ∧ o.data = .set es ep t
theorem Heap.SetIt.kept {h h' : Heap} {I S : Addr} {f : Value} {i n ep : Nat} (x : h.SetIt I S f i n ep) (e : ∀ o, h.get? I = some o → h'.get? I = some o) : h'.SetIt I S f i n ep := x.elim fun o z => ⟨o, e o z.1, z.2⟩
theorem Heap.SetHas.kept {h h' : Heap} {S : Addr} {es : Array (Int × Value)} {ep : Nat} {t : SetTable} (x : h.SetHas S es ep t) (e : ∀ o, h.get? S = some o → h'.get? S = some o) : h'.SetHas S es ep t := x.elim fun o z => ⟨o, e o z.1, z.2⟩
theorem Heap.SetIt.ty {I S : Addr} {f : Value} {i n ep : Nat} (x : s.heap.SetIt I S f i n ep) : s.TypeIs (.ref I) "set_iterator" := x.elim fun o z => ⟨o, z.1, z.2.1⟩
theorem sit_self {I S : Addr} {f : Value} {i n ep : Nat} {Q : Value → Shared → Prop} (hit : s.heap.SetIt I S f i n ep) (h : Q (.ref I) s) : wpAny (model prog w) A (pyIter (.ref I)) Q E s := by
  have T := hit.ty
  refine wpAny_pyIter_slot T F.slot_sit_iter (wpAny_call_entry F.slot_sit_iter T F.code_sit_iter ?_ (F.args_sit_iter _))
  unfold Builtin.«dict_keyiterator.__iter__»
  wp_walk
  exact ⟨_, rfl, _, _, T, F.slot_sit_next.lookup, h⟩
noncomputable def byTxt (w : World) : Bool := w.params.followText "set-order"
theorem wp_byTxt {Q : Bool → Shared → Prop} (h : Q (byTxt w) s) : wpAny (model prog w) A setsByText Q E s := by
  unfold setsByText
  exact wpAny_bind (wpAny_askSetting (wpAny_pure h))
theorem next_table {S : Addr} {es : Array (Int × Value)} {ep i : Nat} {t : SetTable} {r : Option (Value × Nat)} {sl : Nat} {Q : Option (Value × Nat) → Shared → Prop} (hS : s.heap.SetHas S es ep t) (hf : t.fits es.size = true) (hb : byTxt w = false) (hp : t.plain = true ∨ es.size ≤ 1) (hl : t.led = true)
    (hr : (match es[SetTable.below t.place sl]?, t.place[SetTable.below t.place sl]? with | some e, some j => some (e.2, j + 1) | _, _ => none) = r) (h : Q r s) : wpAny (model prog w) A (setNext S sl i ep) Q E s := by
  obtain ⟨o, ho, hd⟩ := hS
  unfold setNext
  refine wpAny_bind (wpAny_setState_of ho hd hf ?_)
  dsimp only
  refine wpAny_bind (wp_byTxt ?_)
  rw [hb]
  have nd : (!t.plain && decide (es.size > 1)) = false := by
    rcases hp with z | z
    · rw [z]; rfl
    · rw [decide_eq_false (by omega)]; simp
  have nl : (!t.led && !es.isEmpty) = false := by rw [hl]; rfl
  rw [if_neg Bool.false_ne_true]
  show wpAny _ _ (if (!t.plain && decide (es.size > 1)) = true then _ else _) _ _ _
  rw [nd, if_neg Bool.false_ne_true]
  refine wpAny_bind ?_
  show wpAny _ _ (if (!t.led && !es.isEmpty) = true then _ else _) _ _ _
  rw [nl, if_neg Bool.false_ne_true]
  refine wpAny_pure (wpAny_pure ?_)
  subst hr
  revert h
  cases es[SetTable.below t.place sl]? with
  | none => exact id
  | some e =>
    cases t.place[SetTable.below t.place sl]? with
    | none => exact id
    | some j => exact id
theorem next_text {S : Addr} {es : Array (Int × Value)} {ep i sl : Nat} {t : SetTable} {Q : Option (Value × Nat) → Shared → Prop} (hS : s.heap.SetHas S es ep t) (hf : t.fits es.size = true) (hb : byTxt w = true)
    (h : Q (((pickOrder (w.params.setOrder S ep) es)[i]?).map fun e => (e.2, sl)) s) : wpAny (model prog w) A (setNext S sl i ep) Q E s := by
  obtain ⟨o, ho, hd⟩ := hS
  unfold setNext
  refine wpAny_bind (wpAny_setState_of ho hd hf ?_)
  dsimp only
  refine wpAny_bind (wp_byTxt ?_)
  rw [hb, if_pos rfl, if_neg (by simp)]
  unfold setWalk
  refine wpAny_bind (wpAny_bind (wpAny_setState_of ho hd hf ?_))
  dsimp only
  refine wpAny_bind (wp_byTxt ?_)
  rw [hb, if_pos rfl]
  exact wpAny_bind (wpAny_askSetting (wpAny_pure (wpAny_pure h)))
end
end PySem

namespace PySem
open AutoSeq1 (wpAny_loadPart')
section
variable {prog : Program} {w : World} {A : Around} {R : Result → Shared → Prop} {I S : Addr} {fp wr : List Addr} {G : Array GenState → Array GenState → Prop} {n : Nat} {P : Nat → Value → Prop} {St : Nat → Shared → Prop} {led : Bool}
theorem iset_loop (W : WalksS prog w A.in1 I fp wr G n P St) (off : S ∉ fp) (val : Nat → Int) (hv : ∀ i v, P i v → ∃ t, v = .int (val i) t) (new : ∀ i, i < n → val i ∉ (List.range i).map val) (hb : n + 1 < scanBound) : ∀ (m : Nat) (s : Shared), m ≤ n → St (n - m) s → s.heap.ISet prog w S led ((List.range (n - m)).map val) →
    (∀ s', Moved (S :: wr) G s s' → s'.heap.ISet prog w S led ((List.range n).map val) → R (.ok (.ret .none)) s') → codeAny (model prog w) A (.builtin "set.update.loop" ⟨[.ref S, .ref I], []⟩) R s
  | 0, s, _, st, is, fin => by
    refine codeAny_builtin PyProof.Rows.F.entry_set_update_loop (Around.under_plainId PyProof.Rows.F.plain_set_update_loop _ ▸ ?_)
    refine wpAny_bind (W.done s _ _ st fun s1 mv => wpAny_pure (fin s1 (mv.mono fun _ => .tail _) (is.kept fun o z => mv.heap S o (fun q => off (W.sub S q)) z)))
  | m + 1, s, hm, st, is, fin => by
    obtain ⟨i, hi⟩ : ∃ i, n - (m + 1) = i := ⟨_, rfl⟩
    have hi' : n - m = i + 1 := by omega
    rw [hi] at st is
    refine codeAny_builtin PyProof.Rows.F.entry_set_update_loop (Around.under_plainId PyProof.Rows.F.plain_set_update_loop _ ▸ ?_)
    refine wpAny_bind (W.item i s _ _ (by omega) st fun v s1 hp st1 mv => ?_)
    obtain ⟨tk, rfl⟩ := hv i v hp
    have is1 := is.kept fun o z => mv.heap S o (fun q => off (W.sub S q)) z
    have few : ((List.range i).map val).length + 1 < scanBound := by rw [List.length_map, List.length_range]; omega
    refine wpAny_bind (wpAny_holding (wpAny_holding (wpAny_bind ((intKind prog w).pyHash (k := val i) (intKind_is _ _ _ _) (iset_add (s := { s1 with toks := s1.toks + 1 }) (new i (by omega)) is1 few fun h' sb is2 => ?_)))))
    have is3 : h'.ISet prog w S led ((List.range (n - m)).map val) := by
      rw [hi', List.range_succ, List.map_append]
      exact is2
    refine wpAny_pure ⟨plainId_quiet PyProof.Rows.F.plain_set_update_loop _, iset_loop W off val hv new hb m _ (by omega) (by rw [hi']; exact W.frame _ s1 h' _ st1 (Nat.le_succ _) fun b hb' o z => by rw [sb.2 b fun q => off (q ▸ hb')]; exact z) is3 fun s2 mv2 => fin s2 (Moved.trans W.gtrans ((mv.mono fun _ => .tail _).then_heap (Nat.le_succ _) fun b o nb z => ?_) mv2)⟩
    rw [sb.2 b fun q => nb (q ▸ .head _)]
    exact z
end
section
variable {prog : Program} {w : World} {A : Around} {E : Value → Shared → Prop} {s : Shared}
theorem map_getD (ns : List Int) : (List.range ns.length).map (fun i => ns.getD i 0) = ns := by
  apply List.ext_getElem (by simp)
  intro i h1 h2
  simp [List.getD_eq_getElem?_getD, h2]
theorem new_rising {ns : List Int} (h : ns.Pairwise (· < ·)) (i : Nat) (hi : i < ns.length) : ns.getD i 0 ∉ (List.range i).map fun i => ns.getD i 0 := fun m => by
  obtain ⟨j, hj, e⟩ := List.mem_map.mp m
  have hj' : j < i := List.mem_range.mp hj
  have := List.pairwise_iff_getElem.mp h j i (by omega) hi hj'
  simp only [List.getD_eq_getElem?_getD, List.getElem?_eq_getElem hi, List.getElem?_eq_getElem (show j < ns.length by omega), Option.getD_some] at e
  omega
theorem set_takes_list {S l : Addr} {led : Bool} {items : Array Value} {ns : List Int} {Q : PySem.Fin → Shared → Prop} (hh : A.handled = none) (hS : s.heap.get? S = some { cls := .type "set", dict := none, data := .set #[] 0 (.fresh 0 0 led) })
    (hl : s.heap.IsList l items) (hi : PyProof.Rows.IntsAre items.toList ns) (hr : ns.Pairwise (· < ·)) (hb : items.size + 1 < scanBound) (hne : S ≠ l)
    (h : ∀ h' tk, h'.ISet prog w S led ns → (∀ b o, b ≠ S → s.heap.get? b = some o → h'.get? b = some o) → Q (.done (.ret .none)) { s with heap := h', toks := tk }) :
    wpAny (model prog w) A (Builtin.«set.__init__» ⟨[.ref S, .ref l], []⟩) Q E s := by
  have T : s.TypeIs (.ref l) "list" := hl.elim fun o z => ⟨o, z.1, z.2.1⟩
  have T2 : s.TypeIs (.ref S) "set" := ⟨_, hS, rfl⟩
  have n1 := F.sub_list_set
  have n2 := F.sub_list_frozenset
  have len : items.size = ns.length := by simpa using hi.length
  obtain ⟨hp, g, d, tk, os⟩ := s
  obtain ⟨o, ho, hc, z⟩ := id hl
  unfold Builtin.«set.__init__» Builtin.Frozenset.updateFrom
  generalize hPI : pyIter = PI
  wp_walk using wpAny_loadPart' hS, wpAny_loadPart' ho, wpAny_typeOf T, wpAny_isInstance T n1, wpAny_isInstance T n2
  subst hPI
  have lS : S < hp.objs.size := Heap.lt_size hS
  have lt : l < hp.objs.size := Heap.lt_size ho
  refine wpAny_pyIter_list hl (wpAny_bind (wpAny_runValue ?_))
  have hv : ∀ (i : Nat) (v : Value), items[i]? = some v → ∃ k, v = .int (ns.getD i 0) k := fun i v e => hi.int_at i v (by rw [Array.getElem?_toList]; exact e)
  refine iset_loop (led := led) (Walks.list (prog := prog) (w := w) (A := A.in1) hh hp.objs.size l (Nat.ne_of_lt lt) items).toS (by simp [Nat.ne_of_lt lS, hne]) (fun i => ns.getD i 0) hv (fun i hi' => new_rising hr i (by omega)) hb items.size _ (Nat.le_refl _) (by rw [Nat.sub_self]; exact ⟨⟨_, Heap.get?_push_size _ rfl, rfl, rfl⟩, hl.at fun o e => Heap.get?_push_of_some _ e⟩) ?_ fun s' mv fin => ?_
  · rw [Nat.sub_self]
    exact ⟨_, #[], 0, _, Heap.get?_push_of_some _ hS, ⟨rfl, rfl, rfl⟩, rfl, fun e he => by simp at he, by simp, by unfold scanBound; decide, rfl, ⟨.nil, rfl⟩⟩
  · obtain ⟨hp', g', d', tk', os'⟩ := s'
    obtain ⟨m1, m2, m3, m4, m5⟩ := mv
    cases m2
    cases m3
    cases m4
    rw [len, map_getD] at fin
    refine wpAny_pure (wpAny_pure (h hp' tk' fin fun b o hb e => m1 b o ?_ (Heap.get?_push_of_some _ e)))
    simp only [List.mem_cons, List.not_mem_nil, or_false, not_or]
    exact ⟨hb, Nat.ne_of_lt (Heap.lt_size e)⟩
theorem set_born (a : Value) {Q₁ : Value → Shared → Prop} (h : Q₁ (.ref s.heap.objs.size) { s with heap := s.heap.push { cls := .type "set", dict := none, data := .set #[] 0 (.fresh 0 0 (!byTxt w)) } }) :
    codeAny (model prog w) A (.call (.builtin "set.__new__") ⟨[.type "set", a], []⟩) (wants Q₁ E) s := by
  have c1 := sub_set_self
  obtain ⟨hp, g, d, tk, os⟩ := s
  refine codeAny_call_builtin F.plain_set_new F.entry_set_new (wpAny_of_eq (F.newCall_set_1 a) ?_)
  unfold Builtin.«set.__new__» Builtin.Frozenset.newClass
  wp_walk
  refine wpAny_askSetting (wpAny_pure ?_)
  unfold newObj
  wp_walk
  exact h
theorem call_set_rising {l : Addr} {items : Array Value} {ns : List Int} {Q : Value → Shared → Prop} (hh : A.handled = none) (hl : s.heap.IsList l items) (hi : PyProof.Rows.IntsAre items.toList ns) (hr : ns.Pairwise (· < ·)) (hb : items.size + 1 < scanBound)
    (h : ∀ h' tk, h'.ISet prog w s.heap.objs.size (!byTxt w) ns → (∀ b o, b < s.heap.objs.size → s.heap.get? b = some o → h'.get? b = some o) → Q (.ref s.heap.objs.size) { s with heap := h', toks := tk }) :
    wpAny (model prog w) A (call (.type "set") [.ref l]) Q E s := by
  have lt : l < s.heap.objs.size := hl.elim fun _ z => Heap.lt_size z.1
  obtain ⟨c, tl, f1⟩ := F.called_set.mro
  have f2 := F.called_set.made
  have f3 := F.called_set.sub
  have f4 := F.called_set.notType
  have f5 := F.called_set.canCreate
  have f6 := F.typeCall_set_1 (.ref l)
  refine wpAny_call (codeAny_of_tree (?_ : wpAny _ _ (callAny (.type "set") _) _ _ _))
  refine wpAny_pure ⟨Code.quiet_builtin _ (by decide +kernel), codeAny_builtin F.entry_type_call (Around.under_plain (weight_type_call_type "set" [.ref l] []) rfl ▸ ?_)⟩
  wp_walk
  refine codeAny_mono (set_born (.ref l) (E := E) (Q₁ := fun obj s1 => obj = .ref s.heap.objs.size ∧ s1 = { s with heap := s.heap.push { cls := .type "set", dict := none, data := .set #[] 0 (.fresh 0 0 (!byTxt w)) } }) ⟨rfl, rfl⟩) ?_
  rintro (e | f) s1 z
  · exact z
  cases f <;> try exact z.elim
  obtain ⟨rfl, rfl⟩ := z
  have new := Heap.get?_push_size s.heap (o := { cls := .type "set", dict := none, data := .set #[] 0 (.fresh 0 0 (!byTxt w)) }) rfl
  have T : Shared.TypeIs { s with heap := s.heap.push { cls := .type "set", dict := none, data := .set #[] 0 (.fresh 0 0 (!byTxt w)) } } (.ref s.heap.objs.size) "set" := ⟨_, new, rfl⟩
  have f7 := F.called_set.init.lookup
  have f8 := F.called_set.init.bind (.ref s.heap.objs.size)
  wp_walk
  refine codeAny_call_builtin F.called_set.init.plain F.entry_set_init (check_set_init_1 T (set_takes_list (s := { s with heap := s.heap.push { cls := .type "set", dict := none, data := .set #[] 0 (.fresh 0 0 (!byTxt w)) } }) hh new (hl.at fun o e => Heap.get?_push_of_some _ e) hi hr hb (Nat.ne_of_gt lt) fun h' tk so kk => ?_))
  change wpAny _ _ (pure (some Value.none)) _ _ _
  wp_walk
  exact h h' tk so fun b o lb e => kk b o (Nat.ne_of_lt lb) (Heap.get?_push_of_some _ e)
end
end PySem

namespace PySem
open AutoSeq1 (wpAny_loadPart')
section
variable {prog : Program} {w : World} {A : Around} {E : Value → Shared → Prop} {s : Shared}
theorem wp_entries {S : Addr} {es : Array (Int × Value)} {ep : Nat} {t : SetTable} {Q : Array (Int × Value) → Shared → Prop} (hS : s.heap.SetHas S es ep t) (hf : t.fits es.size = true) (h : Q es s) : wpAny (model prog w) A (setEntries S) Q E s := by
  obtain ⟨o, ho, hd⟩ := hS
  unfold setEntries
  exact wpAny_bind (wpAny_setState_of ho hd hf (wpAny_pure h))
theorem sit_item {I S : Addr} {sl i ep nx : Nat} {es : Array (Int × Value)} {t : SetTable} {x : Value} {Q : Option Value → Shared → Prop} (hit : s.heap.SetIt I S (rawInt sl) i es.size ep) (hS : s.heap.SetHas S es ep t) (hf : t.fits es.size = true)
    (hnx : ∀ (A' : Around) (E' : Value → Shared → Prop) (Q' : Option (Value × Nat) → Shared → Prop), Q' (some (x, nx)) s → wpAny (model prog w) A' (setNext S sl i ep) Q' E' s)
    (hQ : ∀ h', h'.SetIt I S (rawInt nx) (i + 1) es.size ep → Heap.SameBut I s.heap h' → Q (some x) { s with heap := h' }) : wpAny (model prog w) A (pyNext (.ref I)) Q E s := by
  have T := hit.ty
  obtain ⟨o, ho, hc, hd⟩ := hit
  obtain ⟨hp, g, d, tk, os⟩ := s
  refine wpAny_bind (wpAny_attempt (wpAny_callSpecial?_slot (name := "__next__") T F.slot_sit_next (wpAny_call_entry F.slot_sit_next T F.code_sit_next ?_ (F.args_sit_next _))))
  unfold Builtin.«set_iterator.__next__»
  refine wpAny_bind (wpAny_of_eq (a := (.ref I, [])) rfl (wpAny_bind (wpAny_fieldsOf ho hd ?_)))
  have eqn : (((es.size : Nat) : Int) != ((es.size : Nat) : Int)) = false := by simp
  have f1 := Obj.data_mapFields hd (·.setIfInBounds 0 (rawInt nx))
  have o1 := Heap.get?_update_self (Obj.mapFields (·.setIfInBounds 0 (rawInt nx))) ho (Obj.isFreed_of_fields f1)
  dsimp only [rawInt]
  refine wpAny_bind (wp_entries hS hf ?_)
  rw [eqn, if_neg Bool.false_ne_true]
  refine wpAny_bind (hnx _ _ _ ?_)
  dsimp only
  refine wpAny_bind (wpAny_setField ho hd (by simp) (wpAny_bind (wpAny_setField o1 f1 (by simp) ?_)))
  refine wpAny_pure ⟨x, rfl, wpAny_pure (hQ _ ⟨_, Heap.get?_update_self _ o1 (Obj.isFreed_of_fields (Obj.data_mapFields f1 _)), ?_, ?_⟩ ?_)⟩
  · exact (Obj.cls_mapFields ..).trans ((Obj.cls_mapFields ..).trans hc)
  · rw [Obj.data_mapFields f1]
    simp [rawInt]
  · exact (Heap.SameBut.update ..).trans (Heap.SameBut.update ..)
theorem sit_end {I S : Addr} {sl ep : Nat} {es : Array (Int × Value)} {t : SetTable} {Q : Option Value → Shared → Prop} (hh : A.handled = none) (hit : s.heap.SetIt I S (rawInt sl) es.size es.size ep) (hS : s.heap.SetHas S es ep t) (hf : t.fits es.size = true)
    (hnx : ∀ (A' : Around) (E' : Value → Shared → Prop) (Q' : Option (Value × Nat) → Shared → Prop), Q' none s → wpAny (model prog w) A' (setNext S sl es.size ep) Q' E' s)
    (hQ : ∀ h', Heap.ExtBut I s.heap h' → Q none { s with heap := h' }) : wpAny (model prog w) A (pyNext (.ref I)) Q E s := by
  have T := hit.ty
  have hh1 : A.in1.handled = none := hh
  obtain ⟨o, ho, hc, hd⟩ := hit
  obtain ⟨hp, g, d, tk, os⟩ := s
  refine wpAny_bind (wpAny_attempt (wpAny_callSpecial?_slot (name := "__next__") T F.slot_sit_next (wpAny_call_entry F.slot_sit_next T F.code_sit_next ?_ (F.args_sit_next _))))
  unfold Builtin.«set_iterator.__next__»
  refine wpAny_bind (wpAny_of_eq (a := (.ref I, [])) rfl (wpAny_bind (wpAny_fieldsOf ho hd ?_)))
  have eqn : (((es.size : Nat) : Int) != ((es.size : Nat) : Int)) = false := by simp
  dsimp only [rawInt]
  refine wpAny_bind (wp_entries hS hf ?_)
  rw [eqn, if_neg Bool.false_ne_true]
  refine wpAny_bind (hnx _ _ _ ?_)
  dsimp only
  refine wpAny_bind (wpAny_setField ho hd (by simp) ?_)
  wp_walk
  refine wpAny_raiseNew_none hh1 (wpAny_bind (wpAny_isInstance (T := "StopIteration") (b := true) ⟨_, Heap.get?_push_size _ rfl, rfl⟩ isSubtype_stop (wpAny_pure (hQ _ fun b u hb z => ?_))))
  refine Heap.get?_push_of_some _ (Heap.get?_push_of_some _ ?_)
  rw [Heap.get?_update_other _ _ (Ne.symm hb)]
  exact z
theorem sit_ditem {I S L : Addr} {i j ep : Nat} {es : Array (Int × Value)} {t : SetTable} {x : Int × Value} {ps : List Nat} {Q : Option Value → Shared → Prop} (hit : s.heap.SetIt I S (.ref L) i es.size ep) (hS : s.heap.SetHas S es ep t) (hf : t.fits es.size = true)
    (hL : PyProof.Rows.IsTup s.heap L (ps.map fun (i : Nat) => rawInt i).toArray) (hi : ps[i]? = some j) (hx : es[j]? = some x)
    (hQ : ∀ h', h'.SetIt I S (.ref L) (i + 1) es.size ep → Heap.SameBut I s.heap h' → Q (some x.2) { s with heap := h' }) : wpAny (model prog w) A (pyNext (.ref I)) Q E s := by
  have T := hit.ty
  obtain ⟨o, ho, hc, hd⟩ := hit
  obtain ⟨o', ho', hc', ep', hd'⟩ := id hL
  obtain ⟨oS, hoS, hdS⟩ := id hS
  obtain ⟨hp, g, d, tk, os⟩ := s
  refine wpAny_bind (wpAny_attempt (wpAny_callSpecial?_slot (name := "__next__") T F.slot_sit_next (wpAny_call_entry F.slot_sit_next T F.code_sit_next ?_ (F.args_sit_next _))))
  unfold Builtin.«set_iterator.__next__»
  refine wpAny_bind (wpAny_of_eq (a := (.ref I, [])) rfl (wpAny_bind (wpAny_fieldsOf ho hd ?_)))
  have eqn : (((es.size : Nat) : Int) != ((es.size : Nat) : Int)) = false := by simp
  dsimp only [rawInt]
  refine wpAny_bind (wp_entries hS hf ?_)
  rw [eqn, if_neg Bool.false_ne_true]
  unfold seqItems?
  refine wpAny_bind (wpAny_bind (wpAny_load ho' ?_))
  rw [hd']
  refine wpAny_pure ?_
  have e1 : ((ps.map fun (i : Nat) => rawInt i).toArray)[(i : Int).toNat]? = some (rawInt j) := by
    rw [Int.toNat_natCast, List.getElem?_toArray, List.getElem?_map, hi]; rfl
  dsimp only
  rw [e1]
  dsimp only [rawInt]
  unfold setNextDrawn
  refine wpAny_bind (wpAny_bind (wpAny_setState_of hoS hdS hf ?_))
  dsimp only
  have ee : ((ep : Int).toNat != ep) = false := by simp
  have ee' : (ep != (ep : Int).toNat) = false := by simp
  rw [ee', if_neg Bool.false_ne_true, Int.toNat_natCast, hx]
  obtain ⟨xh, xv⟩ := x
  refine wpAny_pure (wpAny_bind (wpAny_setField ho hd (by simp) ?_))
  refine wpAny_pure ⟨xv, rfl, wpAny_pure (hQ _ ⟨_, Heap.get?_update_self _ ho (Obj.isFreed_of_fields (Obj.data_mapFields hd _)), ?_, ?_⟩ ?_)⟩
  · exact (Obj.cls_mapFields ..).trans hc
  · rw [Obj.data_mapFields hd]
    simp [rawInt]
  · exact Heap.SameBut.update ..
theorem sit_dend {I S L : Addr} {ep : Nat} {es : Array (Int × Value)} {t : SetTable} {ps : List Nat} {Q : Option Value → Shared → Prop} (hh : A.handled = none) (hit : s.heap.SetIt I S (.ref L) es.size es.size ep) (hS : s.heap.SetHas S es ep t) (hf : t.fits es.size = true)
    (hL : PyProof.Rows.IsTup s.heap L (ps.map fun (i : Nat) => rawInt i).toArray) (hl : ps.length = es.size)
    (hQ : ∀ h', Heap.ExtBut I s.heap h' → Q none { s with heap := h' }) : wpAny (model prog w) A (pyNext (.ref I)) Q E s := by
  have T := hit.ty
  have hh1 : A.in1.handled = none := hh
  obtain ⟨o, ho, hc, hd⟩ := hit
  obtain ⟨o', ho', hc', ep', hd'⟩ := id hL
  obtain ⟨hp, g, d, tk, os⟩ := s
  refine wpAny_bind (wpAny_attempt (wpAny_callSpecial?_slot (name := "__next__") T F.slot_sit_next (wpAny_call_entry F.slot_sit_next T F.code_sit_next ?_ (F.args_sit_next _))))
  unfold Builtin.«set_iterator.__next__»
  refine wpAny_bind (wpAny_of_eq (a := (.ref I, [])) rfl (wpAny_bind (wpAny_fieldsOf ho hd ?_)))
  have eqn : (((es.size : Nat) : Int) != ((es.size : Nat) : Int)) = false := by simp
  dsimp only [rawInt]
  refine wpAny_bind (wp_entries hS hf ?_)
  rw [eqn, if_neg Bool.false_ne_true]
  unfold seqItems?
  refine wpAny_bind (wpAny_bind (wpAny_load ho' ?_))
  rw [hd']
  refine wpAny_pure ?_
  have e1 : ((ps.map fun (i : Nat) => rawInt i).toArray)[((es.size : Nat) : Int).toNat]? = none := by
    rw [Int.toNat_natCast, List.getElem?_toArray, List.getElem?_eq_none (by rw [List.length_map]; omega)]
  dsimp only
  rw [e1]
  dsimp only
  have f1 := Obj.data_mapFields hd (·.setIfInBounds 0 (rawInt 0))
  have o1 := Heap.get?_update_self (Obj.mapFields (·.setIfInBounds 0 (rawInt 0))) ho (Obj.isFreed_of_fields f1)
  refine wpAny_bind (wpAny_setField ho hd (by simp) (wpAny_bind (wpAny_setField o1 f1 (by simp) ?_)))
  wp_walk
  refine wpAny_raiseNew_none hh1 (wpAny_bind (wpAny_isInstance (T := "StopIteration") (b := true) ⟨_, Heap.get?_push_size _ rfl, rfl⟩ isSubtype_stop (wpAny_pure (hQ _ fun b u hb z => ?_))))
  refine Heap.get?_push_of_some _ (Heap.get?_push_of_some _ ?_)
  rw [Heap.get?_update_other _ _ (Ne.symm hb), Heap.get?_update_other _ _ (Ne.symm hb)]
  exact z
end
end PySem

namespace PySem
open AutoSeq1 (wpAny_loadPart')
namespace SetTable
noncomputable def slotN (t : SetTable) : Nat → Nat
  | 0 => 0
  | i + 1 => t.place.getD i 0 + 1
theorem Cut.one {xs : Array Nat} {j k k' : Nat} (a : Cut xs j k) (b : Cut xs j k') : k = k' := by
  rcases Nat.lt_trichotomy k k' with h | h | h
  · have hk : k < xs.size := Nat.lt_of_lt_of_le h b.le
    have := b.lo k _ h (Array.getElem?_eq_getElem hk)
    have := a.hi k _ (Nat.le_refl _) (Array.getElem?_eq_getElem hk)
    omega
  · exact h
  · have hk : k' < xs.size := Nat.lt_of_lt_of_le h a.le
    have := a.lo k' _ h (Array.getElem?_eq_getElem hk)
    have := b.hi k' _ (Nat.le_refl _) (Array.getElem?_eq_getElem hk)
    omega
theorem below_slot {t : SetTable} (h : Ris t.place) {i : Nat} (hi : i ≤ t.place.size) : below t.place (t.slotN i) = i := by
  refine (below_cut h _).one ⟨hi, fun k x hk e => ?_, fun k x hk e => ?_⟩
  · cases i with
    | zero => omega
    | succ i =>
      have h0 : i < t.place.size := by omega
      have eg : t.place.getD i 0 = t.place[i] := by simp [Array.getD, h0]
      show x < t.place.getD i 0 + 1
      rw [eg]
      by_cases z : k = i
      · subst z; rw [Array.getElem?_eq_getElem h0] at e; cases e; omega
      · have := h.get (show k < i by omega) e (Array.getElem?_eq_getElem h0); omega
  · cases i with
    | zero => exact Nat.zero_le _
    | succ i =>
      have h0 : i < t.place.size := by omega
      have eg : t.place.getD i 0 = t.place[i] := by simp [Array.getD, h0]
      show t.place.getD i 0 + 1 ≤ x
      rw [eg]
      exact h.get (show i < k by omega) (Array.getElem?_eq_getElem h0) e
end SetTable
section
variable {prog : Program} {w : World} {A : Around}
theorem fits_size {t : SetTable} {n : Nat} (h : t.fits n = true) : t.place.size = n := by
  unfold SetTable.fits at h
  rw [Bool.and_eq_true] at h
  exact beq_iff_eq.mp h.1
theorem Walks.setTab (hh : A.handled = none) (I S : Addr) (hne : S ≠ I) (es : Array (Int × Value)) (ep : Nat) (t : SetTable) (hf : t.fits es.size = true) (hb : byTxt w = false) (hp : t.plain = true ∨ es.size ≤ 1) (hl : t.led = true) (hr : SetTable.Ris t.place) :
    Walks prog w A I [I, S] [I] es.size (fun i v => (es.map (·.2))[i]? = some v) (fun i h => h.SetIt I S (rawInt (t.slotN i)) i es.size ep ∧ h.SetHas S es ep t) where
  sub := by simp
  frame := fun _ _ _ x hk => ⟨x.1.kept (hk I (.head _)), x.2.kept (hk S (.tail _ (.head _)))⟩
  item := fun i s Q E hi ⟨hit, hS⟩ hQ => by
    have hz := fits_size hf
    have ie : es[i]? = some es[i] := Array.getElem?_eq_getElem hi
    have ip : t.place[i]? = some (t.place.getD i 0) := by
      have h0 : i < t.place.size := by omega
      simp [Array.getD, h0]
    have bs := SetTable.below_slot hr (i := i) (by omega)
    refine sit_item (nx := t.slotN (i + 1)) (x := es[i].2) hit hS hf (fun A' E' Q' q => next_table hS hf hb hp hl (by rw [bs, ie, ip]; rfl) q) fun h' hit' sb => hQ _ h' s.toks (by simp [hi]) ⟨hit', hS.kept fun o z => (sb.2 S hne).trans z⟩ fun b o nb z => sb.extBut b o (fun q => nb (q ▸ .head _)) z
  done := fun s Q E ⟨hit, hS⟩ hQ => by
    have hz := fits_size hf
    have bs := SetTable.below_slot hr (i := es.size) (by omega)
    have ie : es[es.size]? = none := by simp
    exact sit_end hh hit hS hf (fun A' E' Q' q => next_table hS hf hb hp hl (by rw [bs, ie]) q) fun h' he => hQ h' s.toks fun b o nb z => he b o (fun q => nb (q ▸ .head _)) z
  self := fun _ _ _ _ x hQ => sit_self x.1 hQ
theorem Walks.setTxt (hh : A.handled = none) (I S : Addr) (hne : S ≠ I) (es : Array (Int × Value)) (ep : Nat) (t : SetTable) (hf : t.fits es.size = true) (hb : byTxt w = true) :
    Walks prog w A I [I, S] [I] es.size (fun i v => ((pickOrder (w.params.setOrder S ep) es).map (·.2))[i]? = some v) (fun i h => h.SetIt I S (rawInt 0) i es.size ep ∧ h.SetHas S es ep t) where
  sub := by simp
  frame := fun _ _ _ x hk => ⟨x.1.kept (hk I (.head _)), x.2.kept (hk S (.tail _ (.head _)))⟩
  item := fun i s Q E hi ⟨hit, hS⟩ hQ => by
    have hz : (pickOrder (w.params.setOrder S ep) es).size = es.size := by
      have := (pick_perm (w.params.setOrder S ep) es).length_eq
      simpa using this
    have hi' : i < (pickOrder (w.params.setOrder S ep) es).size := by omega
    have ie := Array.getElem?_eq_getElem hi'
    refine sit_item (sl := 0) (nx := 0) (x := (pickOrder (w.params.setOrder S ep) es)[i].2) hit hS hf (fun A' E' Q' q => next_text hS hf hb (by rw [ie]; exact q)) fun h' hit' sb => hQ _ h' s.toks (by simp [hi']) ⟨hit', hS.kept fun o z => (sb.2 S hne).trans z⟩ fun b o nb z => sb.extBut b o (fun q => nb (q ▸ .head _)) z
  done := fun s Q E ⟨hit, hS⟩ hQ => by
    have hz : (pickOrder (w.params.setOrder S ep) es).size = es.size := by
      have := (pick_perm (w.params.setOrder S ep) es).length_eq
      simpa using this
    have ie : (pickOrder (w.params.setOrder S ep) es)[es.size]? = none := by rw [← hz]; simp
    exact sit_end (sl := 0) hh hit hS hf (fun A' E' Q' q => next_text hS hf hb (by rw [ie]; exact q)) fun h' he => hQ h' s.toks fun b o nb z => he b o (fun q => nb (q ▸ .head _)) z
  self := fun _ _ _ _ x hQ => sit_self x.1 hQ
theorem Walks.setDrw (hh : A.handled = none) (I S L : Addr) (hne : S ≠ I) (hnl : L ≠ I) (es : Array (Int × Value)) (ep : Nat) (t : SetTable) (hf : t.fits es.size = true) (ps : List Nat) (hps : ps.Perm (List.range es.size)) :
    Walks prog w A I [I, S, L] [I] es.size (fun i v => ((ps.map fun j => (es.getD j (0, .none)).2).toArray)[i]? = some v) (fun i h => h.SetIt I S (.ref L) i es.size ep ∧ h.SetHas S es ep t ∧ PyProof.Rows.IsTup h L (ps.map fun (i : Nat) => rawInt i).toArray) where
  sub := by simp
  frame := fun _ _ _ x hk => ⟨x.1.kept (hk I (.head _)), x.2.1.kept (hk S (.tail _ (.head _))), x.2.2.elim fun o z => ⟨o, hk L (.tail _ (.tail _ (.head _))) o z.1, z.2⟩⟩
  item := fun i s Q E hi ⟨hit, hS, hL⟩ hQ => by
    have hl : ps.length = es.size := by simpa using hps.length_eq
    have hi' : i < ps.length := by omega
    have e1 : ps[i]? = some ps[i] := List.getElem?_eq_getElem hi'
    have hj : ps[i] < es.size := List.mem_range.mp (hps.mem_iff.mp (List.getElem_mem hi'))
    have e2 : es[ps[i]]? = some es[ps[i]] := Array.getElem?_eq_getElem hj
    have e3 : es.getD ps[i] (0, .none) = es[ps[i]] := by simp [Array.getD, hj]
    refine sit_ditem hit hS hf hL e1 e2 fun h' hit' sb => hQ _ h' s.toks ?_ ⟨hit', hS.kept fun o z => (sb.2 S hne).trans z, hL.elim fun o z => ⟨o, (sb.2 L hnl).trans z.1, z.2⟩⟩ fun b o nb z => sb.extBut b o (fun q => nb (q ▸ .head _)) z
    rw [List.getElem?_toArray, List.getElem?_map, e1]
    simp only [Option.map_some, e3]
  done := fun s Q E ⟨hit, hS, hL⟩ hQ => by
    have hl : ps.length = es.size := by simpa using hps.length_eq
    exact sit_dend hh hit hS hf hL hl fun h' he => hQ h' s.toks fun b o nb z => he b o (fun q => nb (q ▸ .head _)) z
  self := fun _ _ _ _ x hQ => sit_self x.1 hQ
end
theorem getD_perm (es : Array (Int × Value)) {ps : List Nat} (h : ps.Perm (List.range es.size)) : (ps.map fun j => (es.getD j (0, .none)).2).Perm (es.toList.map (·.2)) := by
  refine (h.map _).trans (List.Perm.of_eq ?_)
  apply List.ext_getElem (by simp)
  intro i h1 h2
  have hi : i < es.size := by simpa using h2
  simp [Array.getD, hi]
section
variable {prog : Program} {w : World} {A A' : Around} {E : Value → Shared → Prop} {s : Shared}
structure SetWalk (prog : Program) (w : World) (A' : Around) (h : Heap) (I S : Addr) (old : Nat) (ns : List Int) : Prop where
  ex : ∃ (fp : List Addr) (n : Nat) (vals : Array Value) (St : Nat → Heap → Prop), Walks prog w A' I fp [I] n (fun i v => vals[i]? = some v) St ∧ St 0 h ∧ (∀ b ∈ fp, b < h.objs.size ∧ (b = S ∨ old ≤ b)) ∧ n = vals.size ∧ (vals.toList.map vInt).Perm ns ∧ ∀ v ∈ vals.toList, ∃ i t, v = .int i t
  new : old ≤ I
theorem iter_set {S : Addr} {led : Bool} {ns : List Int} {Q : Value → Shared → Prop} (hh : A'.handled = none) (hS : s.heap.ISet prog w S led ns) (hl : led = !byTxt w)
    (h : ∀ h' tk d I, SetWalk prog w A' h' I S s.heap.objs.size ns → (∀ b o, s.heap.get? b = some o → h'.get? b = some o) → Q (.ref I) { s with heap := h', toks := tk, drawn := d }) : wpAny (model prog w) A (pyIter (.ref S)) Q E s := by
  obtain ⟨o, es, ep, t, ho, hex, hd, hel, hpm, hbd, hf, fn⟩ := hS
  have T : s.TypeIs (.ref S) "set" := ⟨o, ho, hex.1⟩
  have lS : S < s.heap.objs.size := Heap.lt_size ho
  have has : s.heap.SetHas S es ep t := ⟨o, ho, hd⟩
  have hints : ∀ e ∈ es.toList, ∃ i tk, e.2 = .int i tk := fun e he => by
    obtain ⟨⟨k, hk, _⟩, _⟩ := hel e he
    obtain ⟨tk, q⟩ := Value.isInt_shape hk
    exact ⟨k, tk, q⟩
  have ofPerm : ∀ l : List Value, l.Perm (es.toList.map (·.2)) → (l.map vInt).Perm ns ∧ ∀ v ∈ l, ∃ i t, v = .int i t := fun l hp => by
    refine ⟨(hp.map vInt).trans ?_, fun v hv => ?_⟩
    · rw [List.map_map]; exact hpm
    · obtain ⟨e, he, rfl⟩ := List.mem_map.mp (hp.mem_iff.mp hv)
      exact hints e he
  refine wpAny_pyIter_slot T F.slot_set_iterZ (wpAny_call_entry F.slot_set_iterZ T F.code_set_iterZ ?_ (F.args_set_iterZ _))
  unfold Builtin.«frozenset.__iter__» Builtin.Frozenset.slot0 Builtin.Frozenset.sizeOf setDrawn
  refine wpAny_bind (wpAny_bind (wpAny_of_eq (a := (.ref S, [])) rfl (wpAny_of_eq (a := S) rfl ?_)))
  refine wpAny_bind (wpAny_bind (wp_entries has hf (wpAny_pure ?_)))
  refine wpAny_bind (wpAny_bind (wpAny_setState_of ho hd hf (wpAny_bind (wp_byTxt (wpAny_pure ?_)))))
  show wpAny _ _ (if (!byTxt w && (!t.plain && decide (es.size > 1))) = true then _ else _) _ _ _
  by_cases hD : (!byTxt w && (!t.plain && decide (es.size > 1))) = true
  · rw [if_pos hD]
    refine wpAny_bind (wp_draw es.size (List.range es.size) s (by simp) fun ps d hps => wpAny_bind (wpAny_newTuple ?_ (by rw [List.length_map, hps.length_eq, List.length_range]; exact fits_of_scanBound hbd)))
    refine wpAny_bind (wpAny_setEpoch_of (Heap.get?_push_of_some _ ho) hd hf ?_)
    refine wpAny_bind (wpAny_newObj_type (data := .fields _) ?_)
    have z1 : (s.heap.push { cls := .type "tuple", data := .seq (ps.map fun (i : Nat) => rawInt i).toArray }).objs.size = s.heap.objs.size + 1 := Heap.size_push ..
    refine wpAny_pure ⟨_, rfl, _, _, ⟨_, Heap.get?_push_size _ rfl, rfl⟩, F.slot_sit_next.lookup, h _ s.toks d _ ⟨⟨_, es.size, _, _, Walks.setDrw hh _ S s.heap.objs.size ?_ ?_ es ep t hf ps hps, ⟨⟨_, Heap.get?_push_size _ rfl, rfl, rfl⟩, has.kept fun o z => Heap.get?_push_of_some _ (Heap.get?_push_of_some _ z), ⟨_, Heap.get?_push_of_some _ (Heap.get?_push_size _ rfl), rfl, _, rfl⟩⟩, ?_, ?_, ?_⟩, ?_⟩ fun b o z => Heap.get?_push_of_some _ (Heap.get?_push_of_some _ z)⟩
    · rw [z1]; exact Nat.ne_of_lt (Nat.lt_succ_of_lt lS)
    · rw [z1]; exact Nat.ne_of_lt (Nat.lt_succ_self _)
    · intro b hb
      rw [Heap.size_push, z1]
      have hb' : b = s.heap.objs.size + 1 ∨ b = S ∨ b = s.heap.objs.size := by simpa [z1] using hb
      rcases hb' with rfl | rfl | rfl
      · exact ⟨Nat.lt_succ_self _, .inr (Nat.le_succ _)⟩
      · exact ⟨Nat.lt_succ_of_lt (Nat.lt_succ_of_lt lS), .inl rfl⟩
      · exact ⟨Nat.lt_succ_of_lt (Nat.lt_succ_self _), .inr (Nat.le_refl _)⟩
    · have := hps.length_eq
      simp at this ⊢
      omega
    · exact ofPerm _ (getD_perm es hps)
    · rw [z1]; exact Nat.le_succ _
  · rw [if_neg hD]
    refine wpAny_bind (wpAny_pure (wpAny_bind (wpAny_setEpoch_of ho hd hf (wpAny_bind (wpAny_newObj_type (data := .fields _) ?_)))))
    have fp : ∀ b ∈ [s.heap.objs.size, S], b < (s.heap.push { cls := .type "set_iterator", data := .fields #[rawInt 0, rawInt 0, .ref S, rawInt es.size, rawInt ep] }).objs.size ∧ (b = S ∨ s.heap.objs.size ≤ b) := fun b hb => by
      rw [Heap.size_push]
      have hb' : b = s.heap.objs.size ∨ b = S := by simpa using hb
      rcases hb' with rfl | rfl
      · exact ⟨Nat.lt_succ_self _, .inr (Nat.le_refl _)⟩
      · exact ⟨Nat.lt_succ_of_lt lS, .inl rfl⟩
    by_cases hb : byTxt w = true
    · have hz : (pickOrder (w.params.setOrder S ep) es).size = es.size := by
        have := (pick_perm (w.params.setOrder S ep) es).length_eq
        simpa using this
      refine wpAny_pure ⟨_, rfl, _, _, ⟨_, Heap.get?_push_size _ rfl, rfl⟩, F.slot_sit_next.lookup, h _ s.toks s.drawn _ ⟨⟨_, es.size, _, _, Walks.setTxt hh _ S (Nat.ne_of_lt lS) es ep t hf hb, ⟨⟨_, Heap.get?_push_size _ rfl, rfl, rfl⟩, has.kept fun o z => Heap.get?_push_of_some _ z⟩, fp, by simp [hz], ?_⟩, Nat.le_refl _⟩ fun b o z => Heap.get?_push_of_some _ z⟩
      refine ofPerm _ ?_
      rw [Array.toList_map]
      exact (pick_perm _ es).map _
    · have hb' : byTxt w = false := by simpa using hb
      have hp : t.plain = true ∨ es.size ≤ 1 := by
        rw [hb'] at hD
        by_cases z : t.plain = true
        · exact .inl z
        · right
          have z' : t.plain = false := by simpa using z
          rw [z'] at hD
          have : ¬ es.size > 1 := fun q => hD (by rw [decide_eq_true q]; rfl)
          omega
      have hld : t.led = true := by rw [fn.2, hl, hb']; rfl
      refine wpAny_pure ⟨_, rfl, _, _, ⟨_, Heap.get?_push_size _ rfl, rfl⟩, F.slot_sit_next.lookup, h _ s.toks s.drawn _ ⟨⟨_, es.size, _, _, Walks.setTab hh _ S (Nat.ne_of_lt lS) es ep t hf hb' hp hld fn.1, ⟨⟨_, Heap.get?_push_size _ rfl, rfl, rfl⟩, has.kept fun o z => Heap.get?_push_of_some _ z⟩, fp, by simp, ?_⟩, Nat.le_refl _⟩ fun b o z => Heap.get?_push_of_some _ z⟩
      refine ofPerm _ ?_
      rw [Array.toList_map]
end
end PySem

namespace PySem
open AutoSeq1 (wpAny_loadPart')
open PyProof.Rows (IntsAre seqObj sortedHeap)
section
variable {prog : Program} {w : World} {A : Around} {E : Value → Shared → Prop} {s : Shared}
theorem set_hint {S : Addr} {Q : Bool → Shared → Prop} (T : s.TypeIs (.ref S) "set") (h : Q false s) : wpAny (model prog w) A (Builtin.List.listLengthHint (.ref S)) Q E s := by
  have l2 := F.slot_set_lenZ.lookup
  have l3 : splitId "set.__len__" = some ("set", "__len__") := by decide +kernel
  unfold Builtin.List.listLengthHint
  refine wpAny_bind (wpAny_specialOf T l2 ?_)
  dsimp only
  rw [l3]
  dsimp only
  refine wpAny_bind (wpAny_isInstance T sub_set_self ?_)
  rw [if_neg (by decide), if_pos (by decide +kernel)]
  exact wpAny_bind (wpAny_typeOf T (wpAny_pure h))
theorem collect_set {S : Addr} {led : Bool} {ns : List Int} {Q : List Value → Shared → Prop} (hh : A.handled = none) (hS : s.heap.ISet prog w S led ns) (hl : led = !byTxt w) (hz : ns.length ≤ 4096)
    (hQ : ∀ h' tk d acc, (∀ b o, s.heap.get? b = some o → h'.get? b = some o) → s.heap.objs.size ≤ h'.objs.size → (acc.map vInt).Perm ns → (∀ v ∈ acc, ∃ i t, v = .int i t) → Q acc { s with heap := h', toks := tk, drawn := d }) : wpAny (model prog w) A (collect (.ref S)) Q E s := by
  obtain ⟨o, ho, hex⟩ : ∃ o, s.heap.get? S = some o ∧ o.ExactSet := hS.elim fun o z => ⟨o, z.elim fun _ z => z.elim fun _ z => z.elim fun _ z => ⟨z.1, z.2.1⟩⟩
  have lS : S < s.heap.objs.size := Heap.lt_size ho
  obtain ⟨hp, g, d, tk, os⟩ := s
  generalize hL : hp.objs.size = L at lS
  have new := Heap.get?_push_size hp (o := { cls := .type "list", data := .seq #[] }) rfl
  rw [hL] at new
  have grow : ∀ b o, hp.get? b = some o → (hp.push { cls := .type "list", data := .seq #[] }).get? b = some o := fun _ _ z => Heap.get?_push_of_some _ z
  have sz : (hp.push { cls := .type "list", data := .seq #[] }).objs.size = L + 1 := by rw [Heap.size_push, hL]
  have T : Shared.TypeIs ⟨hp.push { cls := .type "list", data := .seq #[] }, g, d, tk, os⟩ (.ref S) "set" := ⟨o, grow S o ho, hex.1⟩
  unfold collect
  refine wpAny_bind (wpAny_runValue (codeAny_builtin F.entry_proto_collect (Around.under_plainId F.plain_proto_collect _ ▸ ?_)))
  unfold Builtin.«proto.collect»
  wp_walk
  refine ⟨plainId_quiet F.plain_list_iadd _, codeAny_builtin F.entry_list_iadd (Around.under_plainId F.plain_list_iadd _ ▸ ?_)⟩
  rw [hL]
  have q : Builtin.List.listSameRef (.ref L) (.ref S) = false := by simp [Builtin.List.listSameRef, Nat.ne_of_gt lS]
  unfold Builtin.«list.__iadd__» Builtin.List.listExtendWith
  refine wpAny_bind (wpAny_of_eq (a := (.ref L, [.ref S])) rfl (wpAny_bind (wpAny_typeOf T ?_)))
  rw [q]
  refine wpAny_bind (iter_set (s := ⟨hp.push { cls := .type "list", data := .seq #[] }, g, d, tk, os⟩) (A' := A.in1) hh (hS.kept fun o => grow S o) hl fun h1 tk1 d1 I sw keep => ?_)
  have new1 := keep _ _ new
  have new2 := Heap.get?_update_self (Obj.mapSeq (·.push Value.none)) new1 rfl
  have new3 := Heap.get?_update_self (Obj.mapSeq (·.pop)) new2 rfl
  obtain ⟨⟨fp, n, vals, St, W, st0, hfp, hn, hp1, hp2⟩, hI⟩ := sw
  have nI : L < I := by
    have : (hp.push { cls := .type "list", data := .seq #[] }).objs.size ≤ I := hI
    rw [sz] at this
    exact this
  have offL : L ∉ fp := fun m => by
    rcases (hfp L m).2 with z | z
    · exact Nat.ne_of_gt lS z
    · have : (hp.push { cls := .type "list", data := .seq #[] }).objs.size ≤ L := z
      rw [sz] at this
      exact Nat.not_succ_le_self _ this
  refine wpAny_bind (wpAny_holding (set_hint (s := ⟨h1, g, d1, tk1, os⟩) ⟨o, keep _ _ (grow S o ho), hex.1⟩ ?_))
  rw [if_pos (by decide +kernel)]
  unfold Builtin.List.listTouch
  wp_walk using wpAny_updateSeq (s := ⟨h1, g, d1, tk1, os⟩) new1 rfl, wpAny_updateSeq (s := ⟨h1.update L (Obj.mapSeq (·.push Value.none)), g, d1, tk1, os⟩) new2 rfl
  have stay : ∀ b o, b ≠ L → h1.get? b = some o → ((h1.update L (Obj.mapSeq (·.push Value.none))).update L (Obj.mapSeq (·.pop))).get? b = some o := fun b o hb z => by
    rw [Heap.get?_update_other _ _ (Ne.symm hb), Heap.get?_update_other _ _ (Ne.symm hb), z]
  have few : n ≤ sizeLine := by
    have := hp1.length_eq
    rw [List.length_map, Array.length_toList] at this
    unfold sizeLine
    omega
  refine ⟨plainId_quiet F.plain_extend_loop _, codeAny_extend_loopS W.toS few L offL (.ref L) n 0 _ #[] _ rfl (Nat.zero_le _) (W.frame 0 h1 _ st0 fun b hb o z => stay b o (fun q => offL (q ▸ hb)) z) new3 (ItemsOf.nil _) fun s' acc c mv fin all => wpAny_bind (wpAny_load fin (wpAny_pure ?_))⟩
  obtain ⟨m1, m2, m3, m4, m5⟩ := mv
  obtain ⟨hp', g', d', tk', os'⟩ := s'
  cases m2
  cases m3
  cases m4
  have e : acc = vals := by
    apply Array.ext_getElem?
    intro i
    by_cases hi : i < acc.size
    · rw [all.2 i _ (Array.getElem?_eq_getElem hi), Array.getElem?_eq_getElem hi]
    · have h1 : acc[i]? = none := by simp; omega
      have h2 : vals[i]? = none := by have := all.1; simp; omega
      rw [h1, h2]
  subst e
  refine hQ hp' tk' d1 acc.toList (fun b o z => ?_) (by rw [hL]; exact Nat.le_of_lt (Heap.lt_size fin)) hp1 hp2
  have lb : b < L := by rw [← hL]; exact Heap.lt_size z
  refine m1 b o ?_ (stay b o (Nat.ne_of_lt lb) (keep b o (grow b o z)))
  simp only [List.mem_cons, List.not_mem_nil, or_false, not_or]
  exact ⟨Nat.ne_of_lt lb, Nat.ne_of_lt (Nat.lt_trans lb nI)⟩
theorem ints_of : ∀ {acc : List Value}, (∀ v ∈ acc, ∃ i t, v = .int i t) → IntsAre acc (acc.map vInt)
  | [], _ => .nil
  | v :: acc, h => by
    obtain ⟨i, t, rfl⟩ := h v (.head _)
    exact .cons i t (ints_of fun v hv => h v (.tail _ hv))
theorem sorted_set {S : Addr} {led : Bool} {ns : List Int} {Q : Value → Shared → Prop} (hh : A.handled = none) (hS : s.heap.ISet prog w S led ns) (hl : led = !byTxt w) (h64 : ns.length < 64)
    (h : ∀ h' tk d L out e, (∀ b o, s.heap.get? b = some o → h'.get? b = some o) → s.heap.objs.size ≤ L → h'.get? L = some (seqObj "list" out e) → (∃ ns', IntsAre out.toList ns' ∧ ns'.Perm ns ∧ ns'.Pairwise (· ≤ ·)) → Q (.ref L) { s with heap := h', toks := tk, drawn := d }) : wpAny (model prog w) A (call (.builtin "sorted") [.ref S]) Q E s := by
  refine Calls.call_function_entry PyProof.Rows.kind_sorted PyProof.Rows.plain_sorted PyProof.Rows.entry_sorted (PyProof.Rows.args_sorted1 _) ?_
  unfold Builtin.«sorted»
  refine wpAny_bind (m := checkCount "sorted" 1 1 _) (wpAny_pure ?_)
  refine wpAny_bind (collect_set (A := A.in1) hh hS hl (by omega) fun h1 tk1 d1 acc keep le pm ai => wpAny_bind (wpAny_newList ?_ ?_))
  · have new : (h1.push (seqObj "list" acc.toArray 0)).get? h1.objs.size = some (seqObj "list" acc.toArray 0) := Heap.get?_push_size _ rfl
    have lz : acc.length = ns.length := by have := pm.length_eq; rwa [List.length_map] at this
    refine wpAny_bind (wpAny_holding (wpAny_call_entry PyProof.Rows.slot_list_sort ⟨_, new, rfl⟩ PyProof.Rows.entry_list_sort (PyProof.Rows.list_sort_tree new (ints_of ai) (by omega) fun out ns' a1 a2 a3 => ⟨_, rfl, ?_⟩) (PyProof.Rows.args_list_sort _)))
    obtain ⟨e, at_⟩ := PyProof.Rows.sortedHeap_at (out := out) new
    refine wpAny_pure ⟨_, rfl, h _ tk1 d1 _ out e (fun b o z => ?_) le at_ ⟨ns', a1, a2.trans pm, a3⟩⟩
    have lb : b < h1.objs.size := Heap.lt_size (keep b o z)
    rw [PyProof.Rows.sortedHeap_old (Nat.ne_of_lt lb) (by rw [Heap.size_push]; exact Nat.lt_succ_of_lt lb)]
    exact Heap.get?_push_of_some _ (keep b o z)
  · have := pm.length_eq
    rw [List.length_map] at this
    unfold sizeLine
    omega
end
end PySem

namespace L3
open PySem PySem.Spec PyProof.Rows L2
noncomputable def sortSetD : D → R W
  | .lst ds => (match intsD ds with
    | some is => if is.length < 64 ∧ is.Pairwise (· < ·) then .ok (.ow (.lst (is.map .int))) else .no
    | none => .no)
  | _ => .no
noncomputable def eSortSet (f : FE) : FE := fun δ => (f δ).bind fun w => sortSetD w.d
theorem Inv.drawnBy {X : Cx} {pins : List (Addr × Obj)} {σ : Sg} {H : Hp} {s : Shared} (I : Inv X pins σ H s) (d : Drawn) : Inv X pins σ H { s with drawn := d } :=
  ⟨I.ok, I.os, I.bare, I.base, I.loc, I.cell, I.free, I.freeC, I.pin, I.hok, I.len⟩
section
variable {X : Cx} {EX : EXS} {a : Expr} {f : FE} {p p' pos pos' : Pos}
theorem ed_sortSet (hc : X.calm = true) (hms : X.mg "sorted" = none) (hm : X.mg "set" = none) (ha : ED X EX a f) (hgs : Gl X "sorted" := by rfl) (hg : Gl X "set" := by rfl)
    (hs : starEach [a] X.env = (false, eval a X.env) :: starEach [] X.env := by rfl)
    (hs2 : starEach [.Call (.Name "set" p') [a] [] pos'] X.env = (false, eval (.Call (.Name "set" p') [a] [] pos') X.env) :: starEach [] X.env := by rfl) (hpl : (backTo pos (starEach [] X.env)).any (·.1) = false := by rfl) (hpl' : (backTo pos' (starEach [] X.env)).any (·.1) = false := by rfl) :
    ED X EX (.Call (.Name "sorted" p) [.Call (.Name "set" p') [a] [] pos'] [] pos) (eSortSet f) := by
  intro pins s σ H Q I q
  obtain ⟨G, δ, g0, s0, o⟩ := q
  refine Call_ (ld_blt I hgs hms PyProof.Rows.boot_sorted (PyProof.Rows.callWith_builtin1 ?_ hs2 hpl))
  rw [hs2]
  show wpAny _ _ (spliced ((false, eval (.Call (.Name "set" p') [a] [] pos') X.env) :: backTo pos (starEach [] X.env))) _ _ s
  refine Calls.spliced_cons ?_
  refine Call_ (ld_blt I hg hm PyProof.Rows.boot_set (PyProof.Rows.callWith_type1 ?_ hs hpl'))
  rw [hs]
  show wpAny _ _ (spliced ((false, eval a X.env) :: backTo pos' (starEach [] X.env))) _ _ s
  refine Calls.spliced_cons (thn (ha pins s σ H _ I (tD.seq g0 s0 o (P := fun v H1 => ∃ l ds vs is G1, Same G1 H1 ∧ v = .ref l ∧ SqL X.K G1 l vs ∧ HasL X.K G1 vs ds ∧ intsD ds = some is ∧ (is.length < 64 ∧ is.Pairwise (· < ·)) ∧ Out X.K (EX σ) G1 H1 (.ok (.ow (.lst (is.map .int)))) Q) fun w v G' H' _ st r o' => ?_)) fun u s1 ⟨v, H1, I1, r1, q1⟩ => Calls.spliced_nil ?_)
  · revert r o'
    cases w.d with
    | lst ds =>
      intro r o'
      cases r with
      | lst h r =>
        simp only [sortSetD] at o'
        split at o'
        · rename_i is e
          split at o'
          · rename_i hl
            exact ⟨_, ds, _, is, G', st.gh, rfl, h, r, e, hl, o'⟩
          · exact o'.elim
        · exact o'.elim
    | _ => intro _ o'; exact False.elim o'
  · obtain ⟨l, ds, vs, is, G1, sg, rfl, hq, r, e, ⟨hl, hr⟩, o'⟩ := q1
    cases r1
    obtain ⟨its, rv, pl, hz⟩ := I1.list (sg.seq hq)
    have ia := ints_are r rv e
    have il : its.length = is.length := ia.length
    refine PySem.call_set_rising (I1.ok.hd hc) pl.isList (by simpa using ia) hr (by rw [List.size_toArray, il]; show is.length + 1 < 4096; omega) fun h' tk so kk => ?_
    refine Calls.spliced_nil ?_
    refine PySem.sorted_set (s := { s1 with heap := h', toks := tk }) (I1.ok.hd hc) so rfl hl fun h2 tk2 d2 L out ep keep le at_ ⟨ns', a1, a2, a3⟩ => ?_
    have en : ns' = is := List.Perm.eq_of_pairwise (le := fun a b : Int => a ≤ b) (fun a b _ _ h1 h2 => Int.le_antisymm h1 h2) a3 (hr.imp fun h => Int.le_of_lt h) a2
    subst en
    have old : ∀ b ob, s1.heap.get? b = some ob → h2.get? b = some ob := fun b ob z => keep b ob (kk b ob (Heap.lt_size z) z)
    have sz : s1.heap.objs.size ≤ L := by
      obtain ⟨ob, es, ep', t', z, _⟩ := so
      exact Nat.le_trans (Nat.le_of_lt (Heap.lt_size z)) le
    have fr := I1.hok.fresh sz
    refine ⟨.ref L, upd H1 L (.lst (ns'.map fun i => V.int i)), Inv.drawnBy (I1.laid (o := .lst (ns'.map fun i => V.int i)) (t' := tk2) old sz ⟨?_, out.toList, ep, ints_vals a1, by simpa [seqObj] using at_⟩) d2, rfl, out_own o' sg (ints_has ns') _ fr⟩
    rw [List.length_map, sizeLine_eq]
    omega
end
end L3

namespace L3
open PySem PySem.Spec PyProof.Rows L2
theorem Inv.retag {X : Cx} {pins : List (Addr × Obj)} {σ : Sg} {H : Hp} {s : Shared} (I : Inv X pins σ H s) {a : Addr} {u u' : HO} (hu : H a = some u) (n1 : ∀ xs, u ≠ .tup xs) (n2 : ∀ x, u ≠ .own x) (n3 : ∀ ps, u ≠ .tbl ps) (nf : ∀ o v, X.H₀ a ≠ some (.frz o v)) (new : ObjOk X.prog X.w (upd H a u') s.heap a u') : Inv X pins σ (upd H a u') s := by
  have off : ∀ b, H b = none → upd H a u' b = none := fun b z => by
    rw [upd_ne (fun q => by rw [q, hu] at z; cases z)]; exact z
  refine ⟨I.ok, I.os, I.bare, ⟨I.base.keep, I.base.slot, fun b o e n hx => off b (I.base.free b o e n hx), I.base.there, fun b xs e => ?_, fun b o v e => ?_, fun b ps e => ?_⟩, I.loc, I.cell, off _ I.free, fun x c e => off c (I.freeC x c e), fun p hp => ?_, fun b o e => ?_, I.len⟩
  · have z := I.base.tups b xs e
    rw [upd_ne (fun q => by rw [q, hu] at z; cases z; exact n1 _ rfl)]
    exact z
  · have z := I.base.frzs b o v e
    rw [upd_ne (fun q => by subst q; exact nf _ _ e)]
    exact z
  · obtain ⟨more, z⟩ := I.base.tbls b ps e
    exact ⟨more, by rw [upd_ne (fun q => by rw [q, hu] at z; cases z; exact n3 _ rfl)]; exact z⟩
  · obtain ⟨z1, z2, z3⟩ := I.pin p hp
    exact ⟨z1, off _ z2, z3⟩
  · by_cases hb : b = a
    · subst hb
      rw [upd_same] at e
      cases e
      exact new
    · rw [upd_ne hb] at e
      refine (I.hok b o e).stay (fun _ _ _ q => q) (fun c z => ?_) fun c xs z => ?_
      · rw [upd_ne (fun q => by rw [q, hu] at z; cases z; exact n2 _ rfl)]; exact z
      · rw [upd_ne (fun q => by rw [q, hu] at z; cases z; exact n1 _ rfl)]; exact z
section
variable {K : PySem.W.Frag} {G : Hp} {a : Addr} {u u' : HO}
noncomputable def isDk (kvs : List (Key × V)) (u : HO) : Prop := u = .dK kvs ∨ ∃ o, u = .frz o (.dK kvs)
theorem isDk.rd {kvs : List (Key × V)} (h : isDk kvs u) (e : G a = some u) : Rd G a (.dK kvs) := by
  rcases h with rfl | ⟨o, rfl⟩
  · exact .inl e
  · exact .inr ⟨o, e⟩
theorem isDk.noL {kvs : List (Key × V)} (h : isDk kvs u) (e : G a = some u) {xs : List V} : ¬ Rd G a (.lst xs) ∧ ¬ Rd G a (.tup xs) := by
  rcases h with rfl | ⟨o, rfl⟩
  · exact ⟨fun r => by rcases r with r | ⟨o, r⟩ <;> (rw [e] at r; cases r), fun r => by rcases r with r | ⟨o, r⟩ <;> (rw [e] at r; cases r)⟩
  · exact ⟨fun r => by rcases r with r | ⟨o, r⟩ <;> (rw [e] at r; cases r), fun r => by rcases r with r | ⟨o, r⟩ <;> (rw [e] at r; cases r)⟩
theorem isDk.one {kvs kvs' : List (Key × V)} (h : isDk kvs u) (e : G a = some u) (r : Rd G a (.dK kvs')) : kvs' = kvs := by
  rcases h with rfl | ⟨o, rfl⟩ <;> rcases r with r | ⟨o, r⟩ <;> (rw [e] at r; cases r; try rfl)
theorem isDk.noX {kvs : List (Key × V)} (h : isDk kvs u) (e : G a = some u) : (∀ φ, G a ≠ some (.ext φ)) ∧ (∀ fs, G a ≠ some (.xd fs)) ∧ ∀ C dx fs, G a ≠ some (.ins C dx fs) := by
  rcases h with rfl | ⟨o, rfl⟩ <;> exact ⟨fun _ z => (by rw [e] at z; cases z), fun _ z => (by rw [e] at z; cases z), fun _ _ _ z => (by rw [e] at z; cases z)⟩
theorem rd_ne {b : Addr} {v : HO} (h : b ≠ a) (r : Rd G b v) : Rd (upd G a u') b v := by
  rcases r with r | ⟨o, r⟩
  · exact .inl (by rw [upd_ne h]; exact r)
  · exact .inr ⟨o, by rw [upd_ne h]; exact r⟩
mutual
theorem Has.tag {kvs : List (Key × V)} (ha : G a = some u) (hd : isDk kvs u) (hd' : isDk kvs u') : ∀ {v : V} {d : D}, Has K G v d → Has K (upd G a u') v d
  | _, _, .non => .non
  | _, _, .bl b => .bl b
  | _, _, .int i => .int i
  | _, _, .str x => .str x
  | _, _, .lst (a := b) h r => by
    refine .lst ?_ (HasL.tag ha hd hd' r)
    rcases h with h | h
    · exact .inl (rd_ne (fun z => (hd.noL ha).1 (by rw [← z]; exact h)) h)
    · exact .inr h
  | _, _, .tup (a := b) h r => by
    refine .tup ?_ (HasL.tag ha hd hd' r)
    rcases h with h | h
    · exact .inl (rd_ne (fun z => (hd.noL ha).2 (by rw [← z]; exact h)) h)
    · exact .inr h
  | _, _, .exn0 (a := b) hc h => .exn0 hc (by rw [upd_ne (fun z => (hd.noX ha).1 _ (by rw [← z]; exact h))]; exact h)
  | _, _, .exn1 (a := b) (d := e) hc h hx hl r => .exn1 hc (by rw [upd_ne (fun z => (hd.noX ha).1 _ (by rw [← z]; exact h))]; exact h) (by rw [upd_ne (fun z => (hd.noX ha).2.1 _ (by rw [← z]; exact hx))]; exact hx) hl (HasL.tag ha hd hd' r)
  | _, _, .dic (a := b) h hk r => by
    have r' := HasL.tag ha hd hd' r
    by_cases hb : b = a
    · refine .dic ?_ hk r'
      have e := hd.one ha (by rw [← hb]; exact h)
      rw [e, hb]
      exact hd'.rd upd_same
    · exact .dic (rd_ne hb h) hk r'
  | _, _, .obj (a := b) hc h hl r => .obj hc (by rw [upd_ne (fun z => (hd.noX ha).2.2 _ _ _ (by rw [← z]; exact h))]; exact h) hl (HasL.tag ha hd hd' r)
theorem HasL.tag {kvs : List (Key × V)} (ha : G a = some u) (hd : isDk kvs u) (hd' : isDk kvs u') : ∀ {vs : List V} {ds : List D}, HasL K G vs ds → HasL K (upd G a u') vs ds
  | _, _, .nil => .nil
  | _, _, .cons h r => .cons (Has.tag ha hd hd' h) (HasL.tag ha hd hd' r)
end
end
noncomputable def Itk (a : Addr) (ob : Obj) (kvs : List (Key × V)) : It := ⟨fun i H => H a = some (.frz ob (.dK kvs)) ∧ i < kvs.length, fun i H x H' => H' = H ∧ ∃ p, kvs[i]? = some p ∧ x = kV p.1, fun i H => H a = some (.frz ob (.dK kvs)) ∧ i = kvs.length⟩
theorem frz_dict {P : Program} {w : World} {H : Hp} {h : Heap} {a : Addr} {ob : Obj} {kvs : List (Key × V)} (ok : HOk P w H h) (e : H a = some (.frz ob (.dK kvs))) {es : Array DictEntry} {ep : Nat} (hd : ob.data = .dict es ep) : ∃ ws, KV kvs ws ∧ h.DictAt (mixKind P w) a ws ep := by
  obtain ⟨g, _, _, ws, kv, o, es', ep', g', c1, c2, c3⟩ := (show ObjOk P w H h a (.frz ob (.dK kvs)) from ok a _ e)
  rw [g] at g'
  cases g'
  rw [hd] at c2
  cases c2
  exact ⟨ws, kv, ob, _, g, c1, hd, c3⟩
theorem KV.get {kvs : List (Key × V)} {ws : List (Key × Value)} (r : KV kvs ws) {i : Nat} {p : Key × V} (e : kvs[i]? = some p) : ∃ x, ws[i]? = some (p.1, x) := by
  have hl := r.length
  have hk := r.keys
  have hi : i < kvs.length := (List.getElem?_eq_some_iff.mp e).1
  obtain ⟨q, hq⟩ : ∃ q, ws[i]? = some q := ⟨_, List.getElem?_eq_getElem (show i < ws.length by omega)⟩
  have e1 : (kvs.map (·.1))[i]? = some p.1 := by rw [List.getElem?_map, e]; rfl
  have e2 : (ws.map (·.1))[i]? = some q.1 := by rw [List.getElem?_map, hq]; rfl
  rw [hk, e2] at e1
  have e3 : q.1 = p.1 := Option.some.inj e1
  exact ⟨q.2, by rw [hq, ← e3]⟩
theorem turn_keys {P : Program} {w : World} {K : PySem.W.Frag} {tg : Expr} (a it : Addr) (ob : Obj) (kvs : List (Key × V)) {es : Array DictEntry} {ep : Nat} (hd : ob.data = .dict es ep) : Turn P w K tg (Itk a ob kvs) [it] it (fun i h => h.IsKeyIter it a i kvs.length ep) where
  mem := by simp
  obj := fun i h st b hb => by
    have e : b = it := by simpa using hb
    subst e
    obtain ⟨o, e, c, d⟩ := st
    exact ⟨o, e, fun v z => by rw [d] at z; cases z⟩
  keep := fun i h h' st k => st.at fun o e => k it (by simp) o e
  item := by
    intro X hP hw hK hc i pins s σ H E I hf st hg
    subst hP hw hK
    obtain ⟨hq, hlt⟩ := hg
    obtain ⟨ws, kv, da⟩ := frz_dict I.hok hq hd
    obtain ⟨f0, f1, f2, f3, f4, f5⟩ := hf it (by simp)
    obtain ⟨p, hp⟩ : ∃ p, kvs[i]? = some p := ⟨_, List.getElem?_eq_getElem hlt⟩
    obtain ⟨x, hx⟩ := KV.get kv hp
    rw [kv.length] at st
    refine wpAny_pyNext_dict_item st da hx fun key h' hk st' sb => ?_
    rw [← kv.length] at st'
    have I1 : Inv X pins σ H { s with heap := h' } := I.turned (t' := s.toks) (fun b o hb e => (sb.2 b hb).trans e) f0 f1 f3 f4 f5
    obtain ⟨o, e, c, d⟩ := id st'
    exact ⟨key, rfl, go_of (s := { s with heap := h' }) e c d (by decide) ⟨kV p.1, H, I1, is_kV hk, ⟨rfl, p, hp, rfl⟩, st', fun b hb => (hf b hb).1⟩⟩
  done := by
    intro X hP hw hK hc i pins s σ H E I hf st hg
    subst hP hw hK
    obtain ⟨hq, hg⟩ := hg
    subst hg
    obtain ⟨ws, kv, da⟩ := frz_dict I.hok hq hd
    obtain ⟨f0, f1, f2, f3, f4, f5⟩ := hf it (by simp)
    rw [kv.length] at st
    exact wpAny_pyNext_dict_end (I.ok.hd hc) st da (by simp) fun h' eb => ⟨rfl, I.turned (t' := s.toks) (fun b o hb e => eb b o hb e) f0 f1 f3 f4 f5⟩
  self := fun _ _ _ _ _ st h => wpAny_pyIter_keyiter st h
noncomputable def keysD : D → R (List D)
  | .dic kds => .ok (kds.map fun p => kD p.1)
  | _ => .no
noncomputable def iKeys (f : FE) : FI := fun δ => (f δ).bind fun w => keysD w.d
section
variable {X : Cx} {EX : EXS} {pos : Pos}
theorem ed_compK0 {elt iter tg : Expr} {ifs : List Expr} {scope : Scope} {N' : List Str} {f0 : FE} {fg : FGc} {p : FT} {f : FE} {m : Nat} (hx0 : ∀ e s, ¬ X.xe e s) (hc : X.calm = true) (hi : ED X EXS0 iter f0) (hk : scope.kind = .function) (hb : compB scope.names X.env.scope.names X.N N' = true)
    (hm : N'.length = X.N.length + m)
    (hin : ∀ C s0 H0 fp pn, GC (compCx X scope (clOf X.env.cells scope.names []) N' C s0 H0 fp pn) EXS0 tg fg ∧ CTs (compCx X scope (clOf X.env.cells scope.names []) N' C s0 H0 fp pn) EXS0 ifs p ∧ ED (compCx X scope (clOf X.env.cells scope.names []) N' C s0 H0 fp pn) EXS0 elt f)
    (hs : ∀ x, foldedSetIterable iter X.env x = pure x := by intro _; rfl) : ED X EXS0 (.ListComp elt [⟨tg, iter, ifs, 0⟩] scope pos) (eComp m (iKeys f0) fg p f) := by
  intro pins s σ H Q I q
  obtain ⟨G, δ, g0, h0, o⟩ := q
  rw [eval_ListComp]
  have n := compN_mk I.ok hk hb
  
  obtain ⟨w, kds, ew, ed⟩ : ∃ w kds, f0 δ = .ok w ∧ w.d = .dic kds := by
    unfold eComp iKeys at o
    cases e : f0 δ with
    | ok w =>
      rw [e] at o
      simp only [R.bind_ok] at o
      cases e2 : w.d with
      | dic kds => exact ⟨w, kds, rfl, e2⟩
      | _ => rw [e2] at o; exact False.elim o
    | ex x => rw [e] at o; exact False.elim o
    | no => rw [e] at o; exact False.elim o
  have ek : iKeys f0 δ = .ok (kds.map fun p => kD p.1) := by
    unfold iKeys
    rw [ew, R.bind_ok, ed]
    rfl
  let Z : Hp → Hp → Prop := fun G2 H2 => ∃ (a : Addr) (ob : Obj) (kvs : List (Key × V)) (G1 H1 : Hp), Step G H G1 H1 ∧ ((G2 = G1 ∧ H2 = H1) ∨ (G1 a = some (.dK kvs) ∧ (∀ o v, X.H₀ a ≠ some (.frz o v)) ∧ G2 = upd G1 a (.frz ob (.dK kvs)) ∧ H2 = upd H1 a (.frz ob (.dK kvs))))
  refine wpAny_comprehension_free (use := none) rfl hs n.clos n.kind n.names (comp_core (RR := fun acc C => compPost (model X.prog X.w) X.A X.xe none (EP X pins σ Q) acc C) hx0 hc hk hb hm hin I (Z := Z) (fi := iKeys f0) (δ := δ) (fun G2 H2 z => ?_) ?_ ?_ fun Da C s1 G2 H2 G' H' vs rs e Io hm' fc z st h1 h2 h3 rl => ?_)
  · obtain ⟨a, ob, kvs, G1, H1, st, z⟩ := z
    rcases z with ⟨rfl, rfl⟩ | ⟨ga, _, rfl, rfl⟩
    · exact ⟨st.gh, h0.mono st.gg⟩
    · refine ⟨same_upd st.gh _ _, (h0.mono st.gg).len, fun i d e => ?_⟩
      obtain ⟨v, e1, r⟩ := (h0.mono st.gg).get i d e
      exact ⟨v, e1, Has.tag ga (.inl rfl) (.inr ⟨ob, rfl⟩) r⟩
  · refine thn (hi pins s σ H (fun v H1 => ∃ G1, Step G H G1 H1 ∧ Has X.K G1 v w.d) I ⟨G, δ, g0, h0, by rw [ew]; exact WP.intro fun v G1 H1 st r => ⟨G1, st, r⟩⟩) fun u s1 ⟨v, H1, I1, r1, G1, st, r⟩ => ?_
    rw [ed] at r
    cases r with
    | dic hh hk' r =>
      rename_i a kvs
      cases r1
      obtain ⟨z, lo, ws, kv, o, es, ep, g1, c1, c2, c3⟩ := dk_rd I1.hok (Same.rdD st.gh hh)
      have da : s1.heap.DictAt (mixKind X.prog X.w) a ws ep := ⟨o, es, g1, c1, c2, c3⟩
      refine wpAny_pyIter_dict lo da ?_
      have I2 := I1.kept (t' := s1.toks) (h' := s1.heap.push { cls := .type "dict_keyiterator", data := .fields #[.ref a, .int 0 0, .int ws.length 0, .int ep 0] }) fun b o e => Heap.get?_push_of_some _ e
      have tn0 : (s1.heap.push { cls := .type "dict_keyiterator", data := .fields #[.ref a, .int 0 0, .int ws.length 0, .int ep 0] }).IsKeyIter s1.heap.objs.size a 0 kvs.length ep := ⟨_, Heap.get?_push_size _ rfl, rfl, by rw [kv.length]; rfl⟩
      have hlen : (kds.map fun p => kD p.1).length = kvs.length := by
        have := congrArg List.length hk'
        rw [List.length_map, List.length_map] at this
        rw [List.length_map]
        exact this.symm
      have itd : ∀ G2 : Hp, G2 a = some (.frz o (.dK kvs)) → ItD X.K G2 (Itk a o kvs) (kds.map fun p => kD p.1) := fun G2 ga G' H' s1' s2' i => by
        have gH : H' a = some (.frz o (.dK kvs)) := s2' _ _ (s1' _ _ ga)
        refine ⟨fun d e => ⟨⟨gH, ?_⟩, fun x H'' y => ?_⟩, fun e => ⟨gH, by omega⟩⟩
        · have := (List.getElem?_eq_some_iff.mp e).1
          omega
        · obtain ⟨rfl, q, hq, rfl⟩ := y
          refine ⟨G', Step.refl s2', ?_⟩
          rw [List.getElem?_map] at e
          obtain ⟨q', hq', rfl⟩ := Option.map_eq_some_iff.mp e
          have e1 : (kvs.map (·.1))[i]? = some q.1 := by rw [List.getElem?_map, hq]; rfl
          have e2 : (kds.map (·.1))[i]? = some q'.1 := by rw [List.getElem?_map, hq']; rfl
          rw [hk', e2] at e1
          have e3 : q'.1 = q.1 := Option.some.inj e1
          rw [e3]
          exact has_kD _
      have fr : ∀ H2 : Hp, H2 s1.heap.objs.size = none → ∀ b ∈ [s1.heap.objs.size], FpOk X pins H2 b := fun H2 hn b hb => by
        have e : b = s1.heap.objs.size := by simpa using hb
        subst e
        exact I1.fpOk (Nat.le_refl _) hn
      have free := I1.hok.fresh (Nat.le_refl s1.heap.objs.size)
      rcases hh with hh | ⟨o', hh⟩
      · have hH := st.gh _ _ hh
        have nf : ∀ o v, X.H₀ a ≠ some (.frz o v) := fun o v e => by
          have := I1.base.frzs a o v e
          rw [hH] at this
          cases this
        have ok : ObjOk X.prog X.w (upd H1 a (.frz o (.dK kvs))) (s1.heap.push { cls := .type "dict_keyiterator", data := .fields #[.ref a, .int 0 0, .int ws.length 0, .int ep 0] }) a (.frz o (.dK kvs)) := ⟨Heap.get?_push_of_some _ g1, z, lo, ws, kv, o, es, ep, Heap.get?_push_of_some _ g1, c1, c2, c3⟩
        have I3 := Inv.retag I2 hH (fun _ z => by cases z) (fun _ z => by cases z) (fun _ z => by cases z) nf ok
        refine ⟨_, _, _, Itk a o kvs, _, _, upd G1 a (.frz o (.dK kvs)), rfl, I3, turn_keys a _ o kvs c2, tn0, fr _ ?_, ek, ⟨a, o, kvs, G1, H1, st, .inr ⟨hh, nf, rfl, rfl⟩⟩, itd _ upd_same⟩
        rw [upd_ne (fun z => by rw [z, hH] at free; cases free)]
        exact free
      · have hH := st.gh _ _ hh
        obtain ⟨g2, _⟩ := (show ObjOk X.prog X.w H1 s1.heap a (.frz o' (.dK kvs)) from I1.hok a _ hH)
        rw [g1] at g2
        cases g2
        exact ⟨_, _, _, Itk a o kvs, H1, _, G1, rfl, I2, turn_keys a _ o kvs c2, tn0, fr _ free, ek, ⟨a, o, kvs, G1, H1, st, .inl ⟨rfl, rfl⟩⟩, itd _ hh⟩
  · cases e : eComp m (iKeys f0) fg p f δ with
    | ok w => trivial
    | ex x => rw [e] at o; exact o
    | no => rw [e] at o; exact o
  · rw [e] at o
    obtain ⟨mm, hnm⟩ := hm'
    obtain ⟨c0, c1, c2, c3, c4, c5⟩ := fc
    obtain ⟨a, ob, kvs, G1, H1, st1, z⟩ := z
    rcases z with ⟨rfl, rfl⟩ | ⟨ga, nf, rfl, rfl⟩
    · exact ⟨mm, hnm, fun h' sb => ⟨.ref Da, H', Io.turned (t' := s1.toks) (fun b ob hb e => (sb.2 b hb).trans e) c0 c1 c3 c4 c5, rfl, o (.ref Da) (fun b => b = Da) G' H' (st1.trans st) (fun a e => by subst e; exact ⟨st1.hh.free h1, h3, by rw [h2]; simp⟩) (.list h2 rfl rl)⟩⟩
    · have gF : G' a = some (.frz ob (.dK kvs)) := st.gg _ _ upd_same
      have hF : H' a = some (.frz ob (.dK kvs)) := st.hh _ _ upd_same
      have hH1 : H1 a = some (.dK kvs) := st1.gh _ _ ga
      have nDa : Da ≠ a := fun z => by rw [z, upd_same] at h1; cases h1
      have nC : C ≠ a := fun z => by rw [z, hF] at c0; cases c0
      obtain ⟨_, okd⟩ := (show ObjOk X.prog X.w H' s1.heap a (.frz ob (.dK kvs)) from Io.hok a _ hF)
      have I4 : Inv X pins σ (upd H' a (.dK kvs)) s1 := Inv.retag Io hF (fun _ z => by cases z) (fun _ z => by cases z) (fun _ z => by cases z) nf okd
      have stA : Step G H (upd G' a (.dK kvs)) (upd H' a (.dK kvs)) := by
        refine ⟨fun b o z => ?_, same_upd st.gh _ _, fun b o z => ?_, fun b z1 z2 => ?_⟩
        · have z1 := st1.hh _ _ z
          by_cases hb : b = a
          · subst hb
            rw [hH1] at z1
            rw [upd_same]
            exact z1
          · rw [upd_ne hb]
            exact st.hh _ _ (by rw [upd_ne hb]; exact z1)
        · have z1 := st1.gg _ _ z
          by_cases hb : b = a
          · subst hb
            rw [ga] at z1
            rw [upd_same]
            exact z1
          · rw [upd_ne hb]
            exact st.gg _ _ (by rw [upd_ne hb]; exact z1)
        · have g1 := st1.nw b z1 z2
          have hb : b ≠ a := fun q => by rw [q, ga] at g1; cases g1
          rw [upd_ne hb]
          exact st.nw b (by rw [upd_ne hb]; exact g1) (by rw [upd_ne hb]; exact fun q => z2 (st1.hh.free q))
      have h2' : upd H' a (.dK kvs) Da = some (.lst vs) := by rw [upd_ne nDa]; exact h2
      refine ⟨mm, hnm, fun h' sb => ⟨.ref Da, _, I4.turned (t' := s1.toks) (fun b ob hb e => (sb.2 b hb).trans e) (by rw [upd_ne nC]; exact c0) c1 c3 c4 c5, rfl, o (.ref Da) (fun b => b = Da) _ _ stA (fun x e => ?_) (.list h2' rfl (HasL.tag gF (.inr ⟨ob, rfl⟩) (.inl rfl) rl))⟩⟩
      subst e
      refine ⟨st1.hh.free (by rw [upd_ne nDa] at h1; exact h1), by rw [upd_ne nDa]; exact h3, by rw [h2']; simp⟩
theorem ed_compK {elt iter tg : Expr} {ifs : List Expr} {scope : Scope} {N' : List Str} {f0 : FE} {fg : FGc} {p : FT} {f : FE} {m : Nat} (hc : X.calm = true) (hi : ED X.nox EXS0 iter f0) (hk : scope.kind = .function) (hb : compB scope.names X.env.scope.names X.N N' = true)
    (hm : N'.length = X.N.length + m)
    (hin : ∀ C s0 H0 fp pn, GC (compCx X scope (clOf X.env.cells scope.names []) N' C s0 H0 fp pn) EXS0 tg fg ∧ CTs (compCx X scope (clOf X.env.cells scope.names []) N' C s0 H0 fp pn) EXS0 ifs p ∧ ED (compCx X scope (clOf X.env.cells scope.names []) N' C s0 H0 fp pn) EXS0 elt f)
    (hs : ∀ x, foldedSetIterable iter X.env x = pure x := by intro _; rfl) : ED X EX (.ListComp elt [⟨tg, iter, ifs, 0⟩] scope pos) (eComp m (iKeys f0) fg p f) :=
  PE.imp (PE.nox (ed_compK0 (X := X.nox) (fun _ _ z => z) hc hi hk hb hm hin hs)) fun σ H Q ⟨G, δ, g0, h0, o⟩ => by
    refine ⟨G, δ, g0, h0, ?_⟩
    cases e : eComp m (iKeys f0) fg p f δ with
    | ok w => rw [e] at o; exact o
    | ex x => exact (eComp_no e).elim
    | no => rw [e] at o; exact o
end
end L3

namespace My
open PySem L2 L3
noncomputable def g_law_size : FS :=
    (sRet [0] (eOp ixD (eLst (aCons (eOp addD (eC (.int 1)) (eOp modD (eOp divD (eVar 0) (eC (.int 3))) (eC (.int 8)))) (aCons (eOp addD (eC (.int 1)) (eOp modD (eOp divD (eVar 0) (eC (.int 3))) (eC (.int 40)))) (aCons (eOp addD (eC (.int 1)) (eOp modD (eOp divD (eVar 0) (eC (.int 3))) (eC (.int 20)))) aNil)))) (eOp modD (eVar 0) (eC (.int 3)))))
noncomputable def F_law_size : List D → R W := bodyD 1 g_law_size
noncomputable def g_law_raw : FS :=
    (sSeq (sIf [0, 1] (eTest (eOp ltD (eVar 1) (eCall lenD (aCons (eVar 0) aNil))))
      (sRet [0, 1] (eOp ixD (eVar 0) (eVar 1)))
      sNil)
    (sRet [] (eC (.int 0))))
noncomputable def F_law_raw : List D → R W := bodyD 2 g_law_raw
noncomputable def g_law_mix : FS :=
    (sSeq (sSet 2 [0, 1] (eOp modD (eOp mulI (eOp addD (eVar 0) (eC (.int 1))) (eOp addD (eC (.int 48271)) (eOp mulI (eC (.int 118)) (eVar 1)))) (eC (.int 2147483629))))
    (sRet [1, 2] (eOp modD (eOp addD (eOp addD (eOp mulI (eOp divD (eVar 2) (eC (.int 977))) (eC (.int 16807))) (eOp mulI (eVar 2) (eOp addD (eOp mulI (eVar 1) (eVar 1)) (eC (.int 7))))) (eVar 1)) (eC (.int 2147483587)))))
noncomputable def F_law_mix : List D → R W := bodyD 3 g_law_mix
noncomputable def g_law_cell : FS :=
    (sRet [0, 1] (eFn 2 F_law_mix (aCons (eOp modD (eFn 2 F_law_raw (aCons (eVar 0) (aCons (eVar 1) aNil))) (eC (.int 2147483647))) (aCons (eOp addD (eVar 1) (eC (.int 101))) aNil))))
noncomputable def F_law_cell : List D → R W := bodyD 2 g_law_cell
noncomputable def g_law_great : FS :=
    (sRet [0] (eOp addD (eOp mulI (eOp addD (eOp mulI (eFn 2 F_law_mix (aCons (eVar 0) (aCons (eC (.int 1)) aNil))) (eC (.int 2147483587))) (eFn 2 F_law_mix (aCons (eVar 0) (aCons (eC (.int 2)) aNil)))) (eC (.int 2147483587))) (eFn 2 F_law_mix (aCons (eVar 0) (aCons (eC (.int 3)) aNil)))))
noncomputable def F_law_great : List D → R W := bodyD 1 g_law_great
noncomputable def e_law_cells_1 : FE :=
    (eFn 2 F_law_raw (aCons (eVar 0) (aCons (eOp addD (eVar 1) (eVar 5)) aNil)))
noncomputable def e_law_cells_2 : FE :=
    (eFn 1 F_law_great (aCons (eFn 2 F_law_mix (aCons (eFn 2 F_law_cell (aCons (eVar 0) (aCons (eOp addD (eVar 1) (eOp modD (eVar 5) (eCall maxD (aCons (eC (.int 1)) (aCons (eVar 3) aNil))))) aNil))) (aCons (eVar 5) aNil))) aNil))
noncomputable def g_law_cells : FS :=
    (sSeq (sSet 3 [0, 1] (eCall maxD (aCons (eC (.int 0)) (aCons (eOp subD (eCall lenD (aCons (eVar 0) aNil)) (eVar 1)) aNil))))
    (sSeq (sIf [0] (eTest (eOp eqD (eOp modD (eFn 2 F_law_raw (aCons (eVar 0) (aCons (eC (.int 0)) aNil))) (eC (.int 2))) (eC (.int 0))))
      (sRet [0, 1, 2, 3] (eComp 1 (iArgs rng1 (aCons (eCall minD (aCons (eVar 2) (aCons (eVar 3) aNil))) aNil)) (gC 5) (fun _ => .ok true) e_law_cells_1))
      sNil)
    (sSeq (sSet 4 [0, 2, 3] (eCall minD (aCons (eVar 2) (aCons (eCall maxD (aCons (eVar 3) (aCons (eOp addD (eC (.int 1)) (eOp modD (eFn 2 F_law_cell (aCons (eVar 0) (aCons (eC (.int 0)) aNil))) (eVar 2))) aNil))) aNil))))
    (sRet [0, 1, 3, 4] (eComp 1 (iArgs rng1 (aCons (eVar 4) aNil)) (gC 5) (fun _ => .ok true) e_law_cells_2)))))
noncomputable def F_law_cells : List D → R W := bodyD 5 g_law_cells
noncomputable def b_law_edge_1 : FS :=
    (sSeq (sAppPop 4 2 (eOp modD (eVar 0) (eCall lenD (aCons (eVar 2) aNil))))
    (sSet 0 [0] (eOp divD (eVar 0) (eC (.int 40)))))
noncomputable def g_law_edge : FS :=
    (sSeq (sSet 2 [1] (eRng rng1 (aCons (eVar 1) aNil)))
    (sSeq (sSet 3 [0, 1] (eOp addD (eC (.int 1)) (eOp modD (eVar 0) (eCall minD (aCons (eC (.int 4)) (aCons (eVar 1) aNil))))))
    (sSeq (sSet 0 [0] (eOp divD (eVar 0) (eC (.int 4))))
    (sSeq (sSet 4 [] (eLst aNil))
    (sSeq (sFor [3] (iArgs rng1 (aCons (eVar 3) aNil)) (gV 5) b_law_edge_1)
    (sRet [4] (eCall tupOf (aCons (eVar 4) aNil))))))))
noncomputable def F_law_edge : List D → R W := bodyD 6 g_law_edge
noncomputable def b_standing_at_1 : FS :=
    (sSeq (sIf [1, 4] (eTest (eOp (inK true) (eVar 4) (eVar 1)))
      (sPutE 1 (eVar 4))
      sNil)
    (sPutN 1 (eVar 4) (eVar 2) (eC (.bl true))))
noncomputable def b_standing_at_2 : FS :=
    (sFor [3] (iOf (eVar 3)) (gV 4) b_standing_at_1)
noncomputable def g_standing_at : FS :=
    (sSeq (sSet 1 [] eDic0)
    (sSeq (sFor [0] (iEnum (eVar 0)) (gV2 2 3) b_standing_at_2)
    (sRetV 1)))
noncomputable def F_standing_at : List D → R W := bodyD 5 g_standing_at
noncomputable def b_take_away_1 : FS :=
    (sPopN 2 (eVar 3) (eVar 0))
noncomputable def g_take_away : FS :=
    (sFor [1] (iOf (eVar 1)) (gV 3) b_take_away_1)
noncomputable def M_take_away : List D → Tn → Option Tn := bodyM 4 g_take_away
noncomputable def t_peeled_1 : FT :=
    (eTest (eOp gtD (eCall lenD (aCons (eVar 3) aNil)) (eC (.int 0))))
noncomputable def b_peeled_1 : FS :=
    (sSeq (sPopL 7 3)
    (sIf [2, 7] (eTest (eOp eqD (eCall lenK (aCons (eOp getK (eVar 2) (eVar 7)) aNil)) (eC (.int 1))))
      (sSeq (sSet 8 [2, 7] (eCall minK (aCons (eOp getK (eVar 2) (eVar 7)) aNil)))
    (sSeq (sApp 4 (eTup (aCons (eVar 8) (aCons (eVar 7) aNil))))
    (sSeq (sPutK 5 [] (eVar 8) (eC (.bl true)))
    (sSeq (sCallM 2 M_take_away (eVar 8) (eOp ixD (eVar 0) (eVar 8)))
    (sExt 3 (eOp ixD (eVar 0) (eVar 8)))))))
      sNil))
noncomputable def p_peeled_1 : FT :=
    (eTest (eOp (inK true) (eVar 9) (eVar 5)))
noncomputable def g_peeled : FS :=
    (sSeq (sSet 2 [0] (eFn 1 F_standing_at (aCons (eVar 0) aNil)))
    (sSeq (sSetF 3 (eCall listK (aCons (eVar 2) aNil)))
    (sSeq (sSet 4 [] (eLst aNil))
    (sSeq (sSet 5 [] eDic0)
    (sSeq (sWhile [3] t_peeled_1 b_peeled_1 3000)
    (sSeq (sSet 6 [0, 5] (eComp 1 (iArgs rng1 (aCons (eCall lenD (aCons (eVar 0) aNil)) aNil)) (gC 9) p_peeled_1 (eVar 9)))
    (sRet2 4 6)))))))
noncomputable def F_peeled : List D → R W := bodyD 9 g_peeled
noncomputable def g_law_whole : FS :=
    (sRet [0] (eAnd (eIs "int" (eVar 0)) (eNot (eIs "bool" (eVar 0)))))
noncomputable def F_law_whole : List D → R W := bodyD 1 g_law_whole
noncomputable def b_law_counts_1 : FS :=
    (sPutG 2 (eVar 4) (eOp addD (eGet2 (eVar 2) (eVar 4) (eC (.int 0))) (eC (.int 1))))
noncomputable def b_law_counts_2 : FS :=
    (sFor [0, 3] (iOf (eOp ixD (eVar 0) (eVar 3))) (gV 4) b_law_counts_1)
noncomputable def g_law_counts : FS :=
    (sSeq (sSet 2 [] eDic0)
    (sSeq (sFor [1] (iOf (eVar 1)) (gV 3) b_law_counts_2)
    (sRetV 2)))
noncomputable def F_law_counts : List D → R W := bodyD 5 g_law_counts
noncomputable def b_law_core_1 : FS :=
    (sIf [1, 2] (tOrF (tNotF (eTruth (eFn 1 F_law_whole (aCons (eVar 2) aNil)))) (tOrF (eTest (eOp ltD (eVar 2) (eC (.int 0)))) (eTest (eOp geD (eVar 2) (eCall lenD (aCons (eVar 1) aNil))))))
      (sRet [] (eC (.bl false)))
      sNil)
noncomputable def p_law_core_1 : FT :=
    (eTest (eOp ltD (eOp getK (eVar 3) (eVar 4)) (eC (.int 2))))
noncomputable def g_law_core : FS :=
    (sSeq (sFor [0] (iOf (eVar 0)) (gV 2) b_law_core_1)
    (sSeq (sSet 3 [0, 1] (eFn 2 F_law_counts (aCons (eVar 1) (aCons (eVar 0) aNil))))
    (sRet [0, 3] (eAnd (eOp eqD (eVar 0) (eSortSet (eVar 0))) (eOp eqD (eComp 1 (iKeys (eVar 3)) (gC 4) p_law_core_1 (eVar 4)) (eLst aNil))))))
noncomputable def F_law_core : List D → R W := bodyD 4 g_law_core
noncomputable def b_law_order_1 : FS :=
    (sPutG 2 (eVar 5) (eOp subD (eOp getK (eVar 2) (eVar 5)) (eC (.int 1))))
noncomputable def b_law_order_2 : FS :=
    (sSeq (sIf [4] (tOrF (tNotF (eTruth (eIs "tuple" (eVar 4)))) (tOrF (eTest (eOp neD (eCall lenD (aCons (eVar 4) aNil)) (eC (.int 2)))) (tOrF (tNotF (eTruth (eFn 1 F_law_whole (aCons (eOp ixD (eVar 4) (eC (.int 0))) aNil)))) (tNotF (eTruth (eFn 1 F_law_whole (aCons (eOp ixD (eVar 4) (eC (.int 1))) aNil)))))))
      (sRet [] (eC .non))
      sNil)
    (sSeq (sUnp (gP 6 7) [4] (eVar 4))
    (sSeq (sIf [1, 3, 6, 7] (tOrF (eTest (eOp ltD (eVar 6) (eC (.int 0)))) (tOrF (eTest (eOp geD (eVar 6) (eCall lenD (aCons (eVar 1) aNil)))) (tOrF (eTest (eOp (inD false) (eVar 6) (eVar 3))) (eTest (eOp (inD true) (eVar 7) (eOp ixD (eVar 1) (eVar 6)))))))
      (sRet [] (eC .non))
      sNil)
    (sSeq (sIf [2, 7] (eTest (eOp neD (eOp getK (eVar 2) (eVar 7)) (eC (.int 1))))
      (sRet [] (eC .non))
      sNil)
    (sSeq (sFor [1, 6] (iOf (eOp ixD (eVar 1) (eVar 6))) (gV 5) b_law_order_1)
    (sApp 3 (eVar 6)))))))
noncomputable def g_law_order : FS :=
    (sSeq (sSet 2 [1] (eFn 2 F_law_counts (aCons (eVar 1) (aCons (eRng rng1 (aCons (eCall lenD (aCons (eVar 1) aNil)) aNil)) aNil))))
    (sSeq (sSet 3 [] (eLst aNil))
    (sSeq (sFor [0] (iOf (eVar 0)) (gV 4) b_law_order_2)
    (sRetV 3))))
noncomputable def F_law_order : List D → R W := bodyD 8 g_law_order
noncomputable def g_law_fate : FS :=
    (sSeq (sIf [0] (tOrF (tNotF (eTruth (eIs "tuple" (eVar 0)))) (eTest (eOp neD (eCall lenD (aCons (eVar 0) aNil)) (eC (.int 2)))))
      (sRet [] (eC (.bl false)))
      sNil)
    (sSeq (sIf [0, 1] (tOrF (tNotF (eTruth (eIs "list" (eOp ixD (eVar 0) (eC (.int 0)))))) (tOrF (tNotF (eTruth (eIs "list" (eOp ixD (eVar 0) (eC (.int 1)))))) (tNotF (eTruth (eFn 2 F_law_core (aCons (eOp ixD (eVar 0) (eC (.int 1))) (aCons (eVar 1) aNil)))))))
      (sRet [] (eC (.bl false)))
      sNil)
    (sSeq (sSet 2 [0, 1] (eFn 2 F_law_order (aCons (eOp ixD (eVar 0) (eC (.int 0))) (aCons (eVar 1) aNil))))
    (sRet [0, 1, 2] (eAnd (eOp (isND true) (eVar 2) (eC .non)) (eOp eqD (eCall sortL (aCons (eOp addD (eVar 2) (eOp ixD (eVar 0) (eC (.int 1)))) aNil)) (eRng rng1 (aCons (eCall lenD (aCons (eVar 1) aNil)) aNil))))))))
noncomputable def F_law_fate : List D → R W := bodyD 3 g_law_fate
noncomputable def e_law_1 : FE :=
    (eFn 2 F_law_edge (aCons (eVar 7) (aCons (eVar 1) aNil)))
noncomputable def q_law_1 : FS :=
    (sSet 1 [0] (eFn 1 F_law_size (aCons (eFn 2 F_law_raw (aCons (eVar 0) (aCons (eC (.int 1)) aNil))) aNil)))
noncomputable def q_law_2 : FS :=
    (sSet 2 [0, 1] (eComp 1 (iOf (eFn 3 F_law_cells (aCons (eVar 0) (aCons (eC (.int 2)) (aCons (eC (.int 60)) aNil))))) (gC 7) (fun _ => .ok true) e_law_1))
noncomputable def q_law_3 : FS :=
    (sSet 3 [2] (eCall listOf (aCons (eVar 2) aNil)))
noncomputable def q_law_4 : FS :=
    (sSet 4 [1, 3] (eFn 2 F_peeled (aCons (eVar 3) (aCons (eVar 1) aNil))))
noncomputable def q_law_5 : FS :=
    (sIf [2, 3, 4] (tOrF (tNotF (eTruth (eFn 2 F_law_fate (aCons (eVar 4) (aCons (eVar 2) aNil))))) (eTest (eOp neD (eVar 3) (eVar 2))))
      (sRet [] (eC (.bl false)))
      sNil)
noncomputable def q_law_6 : FS :=
    (sSetF 5 (eCall listOf (aCons (eOp ixD (eVar 4) (eC (.int 1))) aNil)))
noncomputable def q_law_7 : FS :=
    (sAppN 4 0 (eTup (aCons (eC (.int 0)) (aCons (eC (.int 0)) aNil))))
noncomputable def q_law_8 : FS :=
    (sAppN 4 1 (eC (.int 0)))
noncomputable def q_law_9 : FS :=
    (sSet 6 [1, 3] (eFn 2 F_peeled (aCons (eVar 3) (aCons (eVar 1) aNil))))
noncomputable def q_law_10 : FS :=
    (sRet [2, 5, 6] (eAnd (eFn 2 F_law_fate (aCons (eVar 6) (aCons (eVar 2) aNil))) (eAnd (eOp eqD (eOp ixD (eVar 6) (eC (.int 1))) (eVar 5)) (eOp eqD (eFn 2 F_peeled (aCons (eLst aNil) (aCons (eC (.int 0)) aNil))) (eTup (aCons (eLst aNil) (aCons (eLst aNil) aNil)))))))
noncomputable def g_law : FS :=
    (sSeq q_law_1
    (sSeq q_law_2
    (sSeq q_law_3
    (sSeq q_law_4
    (sSeq q_law_5
    (sSeq q_law_6
    (sSeq q_law_7
    (sSeq q_law_8
    (sSeq q_law_9
    q_law_10)))))))))
noncomputable def F_law : List D → R W := bodyD 7 g_law
end My

namespace L3
open PySem L2
noncomputable def okD : Nat → D → Bool
  | _, .non => true
  | _, .bl _ => true
  | _, .int _ => true
  | _, .str x => x.cps.all (· < 0x110000)
  | n + 1, .lst ds => ds.all (okD n)
  | n + 1, .tup ds => ds.all (okD n)
  | _, _ => false
theorem okD_self : ∀ (n : Nat) (d : D), okD n d = true → (toPy d).canLay0 = true ∧ (toPy d).depth ≤ n ∧ (toPy d).eqv (toPy d) = true := by
  intro n
  induction n with
  | zero =>
    intro d h
    cases d with
    | non => exact ⟨rfl, Nat.le_refl _, rfl⟩
    | bl b => exact ⟨rfl, Nat.le_refl _, by cases b <;> rfl⟩
    | int i => exact ⟨rfl, Nat.le_refl _, by show (i == i) = true; simp⟩
    | str x => exact ⟨h, Nat.le_refl _, by show (x == x) = true; simp⟩
    | _ => cases h
  | succ n ih =>
    have all : ∀ ds : List D, ds.all (okD n) = true → PyData.canLayAll0 (toPys ds) = true ∧ PyData.depthAll (toPys ds) ≤ n ∧ PyData.eqvAll (toPys ds) (toPys ds) = true := by
      intro ds
      induction ds with
      | nil => intro _; exact ⟨rfl, Nat.zero_le _, rfl⟩
      | cons d ds ih2 =>
        intro h
        rw [List.all_cons, Bool.and_eq_true] at h
        obtain ⟨a1, a2, a3⟩ := ih d h.1
        obtain ⟨b1, b2, b3⟩ := ih2 h.2
        refine ⟨?_, ?_, ?_⟩
        · show (PyData.canLay0 (toPy d) && PyData.canLayAll0 (toPys ds)) = true
          rw [a1, b1]; rfl
        · show max (PyData.depth (toPy d)) (PyData.depthAll (toPys ds)) ≤ n
          exact Nat.max_le.mpr ⟨a2, b2⟩
        · show (PyData.eqv (toPy d) (toPy d) && PyData.eqvAll (toPys ds) (toPys ds)) = true
          rw [a3, b3]; rfl
    intro d h
    cases d with
    | non => exact ⟨rfl, Nat.zero_le _, rfl⟩
    | bl b => exact ⟨rfl, Nat.zero_le _, by cases b <;> rfl⟩
    | int i => exact ⟨rfl, Nat.zero_le _, by show (i == i) = true; simp⟩
    | str x => exact ⟨h, Nat.zero_le _, by show (x == x) = true; simp⟩
    | lst ds =>
      obtain ⟨b1, b2, b3⟩ := all ds h
      exact ⟨b1, Nat.succ_le_succ b2, b3⟩
    | tup ds =>
      obtain ⟨b1, b2, b3⟩ := all ds h
      exact ⟨b1, Nat.succ_le_succ b2, b3⟩
    | _ => cases h
theorem eqC_self {n : Nat} {d : D} (h : okD n d = true) (hn : n ≤ 60) : eqC d d = true ∧ eqvD d d = true := by
  obtain ⟨a1, a2, a3⟩ := okD_self n d h
  refine ⟨?_, a3⟩
  unfold eqC
  rw [a1, decide_eq_true (Nat.le_trans a2 hn)]
  rfl
theorem eqD_self {d : D} (n : Nat) (h : okD n d = true) (hn : n ≤ 60 := by decide) : eqD d d = .ok (.sh (.bl true)) := by
  obtain ⟨h1, h2⟩ := eqC_self h hn
  unfold eqD
  split
  · simp
  · rw [if_pos h1, h2]
theorem neD_self {d : D} (n : Nat) (h : okD n d = true) (hn : n ≤ 60 := by decide) : neD d d = .ok (.sh (.bl false)) := by
  obtain ⟨h1, h2⟩ := eqC_self h hn
  unfold neD
  split
  · simp
  · rw [if_pos h1, h2]; rfl
theorem okD_int (n : Nat) (i : Int) : okD n (.int i) = true := by cases n <;> rfl
theorem okD_ints (n : Nat) {α : Type} (f : α → Int) (l : List α) : (l.map fun a => D.int (f a)).all (okD n) = true := by
  rw [List.all_eq_true]
  intro d hd
  obtain ⟨a, _, rfl⟩ := List.mem_map.mp hd
  exact okD_int n _
theorem intsD_map {α : Type} (f : α → Int) : ∀ l : List α, intsD (l.map fun a => D.int (f a)) = some (l.map f)
  | [] => rfl
  | a :: l => by
    show (intsD (l.map fun a => D.int (f a))).map (f a :: ·) = _
    rw [intsD_map f l]
    rfl
theorem ixN_n {n i : Nat} (h : i < n) : ixN n (i : Int) = some i := by
  unfold ixN
  rw [if_pos (by omega), if_pos (by omega)]
  simp
theorem atI_n {α : Type} {xs : List α} {i : Nat} {x : α} (h : xs[i]? = some x) : atI xs (i : Int) = some x := by
  unfold atI
  rw [ixN_n (List.getElem?_eq_some_iff.mp h).1]
  exact h
end L3

namespace My
open PySem L2 L3
end My

namespace My
open PySem L2 L3
noncomputable def mixZ (c k : Int) : Int := ((c + 1) * (48271 + 118 * k) % 2147483629 / 977 * 16807 + (c + 1) * (48271 + 118 * k) % 2147483629 * (k * k + 7) + k) % 2147483587
theorem mix_eq (c k : Int) (h1 : -1000 ≤ k) (h2 : k ≤ 1000) : F_law_mix [.int c, .int k] = .ok (.sh (.int (mixZ c k))) := by
  have hk : -18446744073709551616 < k * k + 7 ∧ k * k + 7 < 18446744073709551616 := by
    have : k * k ≤ 1000 * 1000 := by
      rcases Int.le_total 0 k with h | h
      · exact Int.mul_le_mul h2 h2 h (by decide)
      · have : (-k) * (-k) ≤ 1000 * 1000 := Int.mul_le_mul (by omega) (by omega) (by omega) (by decide)
        rwa [Int.neg_mul_neg] at this
    have : 0 ≤ k * k := by
      rcases Int.le_total 0 k with h | h
      · exact Int.mul_nonneg h h
      · have := Int.mul_nonneg (a := -k) (b := -k) (by omega) (by omega)
        rwa [Int.neg_mul_neg] at this
    omega
  have m1 : mulC 118 k = true := mulC_l (by decide) (by decide)
  have m2 : mulC (c + 1) (48271 + 118 * k) = true := mulC_r (by omega) (by omega)
  have m3 : ∀ z : Int, mulC z 16807 = true := fun z => mulC_r (by decide) (by decide)
  have m4 : mulC k k = true := mulC_l (by omega) (by omega)
  have m5 : ∀ z : Int, mulC z (k * k + 7) = true := fun z => mulC_r hk.1 hk.2
  simp only [F_law_mix, g_law_mix, L3.evs, Nat.reduceAdd, Nat.reduceSub, Nat.reduceLeDiff, ↓reduceIte, reduceCtorEq, mul_ok m1, mul_ok m2, mul_ok (m3 _), mul_ok m4, mul_ok (m5 _), add_ok, div_ok (show (0 : Int) < 977 by decide) (by decide), mod_ok (show (0 : Int) < 2147483629 by decide), mod_ok (show (0 : Int) < 2147483587 by decide)]
  rfl
theorem raw_eq (ns : List Int) (k : Int) (h : 0 ≤ k) : F_law_raw [.lst (ns.map .int), .int k] = .ok (.sh (.int (ns.getD k.toNat 0))) := by
  simp only [F_law_raw, g_law_raw, L3.evs, Nat.reduceAdd, Nat.reduceSub, Nat.reduceLeDiff, ↓reduceIte, reduceCtorEq, len_lst, lt_ok, List.length_map]
  by_cases hk : k < (ns.length : Int)
  · have e : atI (ns.map D.int) k = some (.int (ns.getD k.toNat 0)) := by
      apply atI_at h
      rw [List.getElem?_map]
      have : k.toNat < ns.length := by omega
      simp [List.getD, this]
    simp only [hk, decide_true, if_true, ix_lst e, L3.evs, Nat.reduceAdd, Nat.reduceSub, Nat.reduceLeDiff, ↓reduceIte, reduceCtorEq]
  · simp only [hk, decide_false, L3.evs, Nat.reduceAdd, Nat.reduceSub, Nat.reduceLeDiff, ↓reduceIte, reduceCtorEq]
    have : ns.length ≤ k.toNat := by omega
    simp [List.getD, this]
theorem cell_eq (ns : List Int) (k : Int) (h : 0 ≤ k) (h2 : k ≤ 500) : ∃ z, F_law_cell [.lst (ns.map .int), .int k] = .ok (.sh (.int z)) := by
  refine ⟨mixZ (ns.getD k.toNat 0 % 2147483647) (k + 101), ?_⟩
  simp only [F_law_cell, g_law_cell, L3.evs, Nat.reduceAdd, Nat.reduceSub, Nat.reduceLeDiff, ↓reduceIte, reduceCtorEq, raw_eq ns k h, mod_ok (show (0 : Int) < 2147483647 by decide), add_ok, mix_eq _ (k + 101) (by omega) (by omega)]
theorem great_eq (c : Int) : ∃ z, F_law_great [.int c] = .ok (.sh (.int z)) := by
  have m : ∀ z : Int, mulC z 2147483587 = true := fun z => mulC_r (by decide) (by decide)
  refine ⟨(mixZ c 1 * 2147483587 + mixZ c 2) * 2147483587 + mixZ c 3, ?_⟩
  simp only [F_law_great, g_law_great, L3.evs, Nat.reduceAdd, Nat.reduceSub, Nat.reduceLeDiff, ↓reduceIte, reduceCtorEq, mix_eq c 1 (by decide) (by decide), mix_eq c 2 (by decide) (by decide), mix_eq c 3 (by decide) (by decide), mul_ok (m _), add_ok]
theorem cells_eq (ns : List Int) (s m : Int) (hn : ns.length ≤ 63) (h0 : 0 ≤ s) (h1 : s ≤ 60) (h2 : 1 ≤ m) (h3 : m ≤ 200) :
    ∃ cs : List Int, (cs.length : Int) ≤ m ∧ F_law_cells [.lst (ns.map .int), .int s, .int m] = .ok (.ow (.lst (cs.map .int))) := by
  obtain ⟨z0, hz0⟩ := cell_eq ns 0 (by decide) (by decide)
  by_cases hp : ns.getD (0 : Int).toNat 0 % 2 = 0
  · obtain ⟨cs, hl, hc⟩ := compZ (fg := gC 5) (p := fun _ => .ok true) (f := eFn 2 F_law_raw (aCons (eVar 0) (aCons (eOp addD (eVar 1) (eVar 5)) aNil)))
      (δ := [some (.lst (ns.map .int)), some (.int s), some (.int m), some (.int (max 0 ((ns.length : Int) - s))), none, none]) (min m (max 0 ((ns.length : Int) - s))).toNat 0 (fun k hk =>
        ⟨[some (.lst (ns.map .int)), some (.int s), some (.int m), some (.int (max 0 ((ns.length : Int) - s))), none, some (.int (0 + (k : Int)))], _, rfl, rfl, by
          simp only [L3.evs, Nat.reduceAdd, Nat.reduceSub, Nat.reduceLeDiff, ↓reduceIte, reduceCtorEq, add_ok, raw_eq ns (s + (0 + (k : Int))) (by omega)]
          rfl⟩)
    refine ⟨cs, by rw [hl]; omega, ?_⟩
    have e1 := eComp_ok (m := 1) (fi := iArgs rng1 (aCons (eCall minD (aCons (eVar 2) (aCons (eVar 3) aNil))) aNil)) (fg := gC 5) (p := fun _ => .ok true) (f := eFn 2 F_law_raw (aCons (eVar 0) (aCons (eOp addD (eVar 1) (eVar 5)) aNil)))
      (δ := [some (.lst (ns.map .int)), some (.int s), some (.int m), some (.int (max 0 ((ns.length : Int) - s))), none]) (ds := zints 0 (min m (max 0 ((ns.length : Int) - s))).toNat) (rs := cs.map .int) (by
        simp only [L3.evs, Nat.reduceAdd, Nat.reduceSub, Nat.reduceLeDiff, ↓reduceIte, reduceCtorEq, min_ok, rng1_ok (show -4611686018427387903 ≤ min m (max 0 ((ns.length : Int) - s)) by omega) (by omega)]) (by rw [zints_len]; omega) hc
    simp only [F_law_cells, g_law_cells, e_law_cells_1, e_law_cells_2, L3.evs, Nat.reduceAdd, Nat.reduceSub, Nat.reduceLeDiff, ↓reduceIte, reduceCtorEq, len_lst, List.length_map, sub_ok, max_ok, raw_eq ns 0 (by decide), mod_ok (show (0 : Int) < 2 by decide), eqD_int, hp, e1]
  · have hmm := fun k : Int => Int.emod_nonneg k (show m ≠ 0 by omega)
    have hml := fun k : Int => Int.emod_lt_of_pos k (show 0 < m by omega)
    have cellk : ∀ k : Nat, ∃ z, F_law_cell [.lst (ns.map .int), .int (s + (0 + (k : Int)) % max 1 (max 0 ((ns.length : Int) - s)))] = .ok (.sh (.int z)) := fun k => by
      have b1 := Int.emod_nonneg (0 + (k : Int)) (show max 1 (max 0 ((ns.length : Int) - s)) ≠ 0 by omega)
      have b2 := Int.emod_lt_of_pos (0 + (k : Int)) (show 0 < max 1 (max 0 ((ns.length : Int) - s)) by omega)
      exact cell_eq ns _ (by omega) (by omega)
    have b0 := hmm z0
    have b1 := hml z0
    obtain ⟨cs, hl, hc⟩ := compZ (fg := gC 5) (p := fun _ => .ok true) (f := eFn 1 F_law_great (aCons (eFn 2 F_law_mix (aCons (eFn 2 F_law_cell (aCons (eVar 0) (aCons (eOp addD (eVar 1) (eOp modD (eVar 5) (eCall maxD (aCons (eC (.int 1)) (aCons (eVar 3) aNil))))) aNil))) (aCons (eVar 5) aNil))) aNil))
      (δ := [some (.lst (ns.map .int)), some (.int s), some (.int m), some (.int (max 0 ((ns.length : Int) - s))), some (.int (min m (max (max 0 ((ns.length : Int) - s)) (1 + z0 % m)))), none]) (min m (max (max 0 ((ns.length : Int) - s)) (1 + z0 % m))).toNat 0 (fun k hk => by
        obtain ⟨zc, hzc⟩ := cellk k
        obtain ⟨zg, hzg⟩ := great_eq (mixZ zc (0 + (k : Int)))
        refine ⟨[some (.lst (ns.map .int)), some (.int s), some (.int m), some (.int (max 0 ((ns.length : Int) - s))), some (.int (min m (max (max 0 ((ns.length : Int) - s)) (1 + z0 % m)))), some (.int (0 + (k : Int)))], zg, rfl, rfl, ?_⟩
        simp only [L3.evs, Nat.reduceAdd, Nat.reduceSub, Nat.reduceLeDiff, ↓reduceIte, reduceCtorEq, add_ok, max_ok, mod_ok (show 0 < max 1 (max 0 ((ns.length : Int) - s)) by omega), hzc, mix_eq zc (0 + (k : Int)) (by omega) (by omega), hzg])
    refine ⟨cs, by rw [hl]; omega, ?_⟩
    have e1 := eComp_ok (m := 1) (fi := iArgs rng1 (aCons (eVar 4) aNil)) (fg := gC 5) (p := fun _ => .ok true) (f := eFn 1 F_law_great (aCons (eFn 2 F_law_mix (aCons (eFn 2 F_law_cell (aCons (eVar 0) (aCons (eOp addD (eVar 1) (eOp modD (eVar 5) (eCall maxD (aCons (eC (.int 1)) (aCons (eVar 3) aNil))))) aNil))) (aCons (eVar 5) aNil))) aNil))
      (δ := [some (.lst (ns.map .int)), some (.int s), some (.int m), some (.int (max 0 ((ns.length : Int) - s))), some (.int (min m (max (max 0 ((ns.length : Int) - s)) (1 + z0 % m))))]) (ds := zints 0 (min m (max (max 0 ((ns.length : Int) - s)) (1 + z0 % m))).toNat) (rs := cs.map .int) (by
        simp only [L3.evs, Nat.reduceAdd, Nat.reduceSub, Nat.reduceLeDiff, ↓reduceIte, reduceCtorEq, rng1_ok (show -4611686018427387903 ≤ min m (max (max 0 ((ns.length : Int) - s)) (1 + z0 % m)) by omega) (by omega)]) (by rw [zints_len]; omega) hc
    simp only [F_law_cells, g_law_cells, e_law_cells_1, e_law_cells_2, L3.evs, Nat.reduceAdd, Nat.reduceSub, Nat.reduceLeDiff, ↓reduceIte, reduceCtorEq, len_lst, List.length_map, sub_ok, max_ok, min_ok, add_ok, raw_eq ns 0 (by decide), mod_ok (show (0 : Int) < 2 by decide), mod_ok (show (0 : Int) < m by omega), eqD_int, hp, hz0, e1]
end My

namespace My
open PySem L2 L3
theorem seq_nx {g h : FS} {Δ Δ' : SE} (e : g Δ = .nx Δ') : sSeq g h Δ = h Δ' := by unfold sSeq; rw [e]
noncomputable def wr : Nat → Int → List Nat → List Nat
  | 0, _, acc => acc
  | j + 1, r, acc => wr j (r / 2) ((48 + (r % 2).toNat) :: acc)
noncomputable def rd (bs : List Nat) (a : Int) : Int := bs.foldl (fun a c => 2 * a + (if c = 49 then 1 else 0)) a
end My

namespace My
open PySem L2 L3
noncomputable def kp (p : Nat) : Key := .inl (p : Int)
theorem kp_inj {a b : Nat} : kp a = kp b ↔ a = b := by
  unfold kp
  constructor
  · intro h; injection h with h; exact Int.ofNat.inj h
  · intro h; rw [h]
noncomputable def inner (ns : List Nat) : List (Key × D) := ns.map fun n => (kp n, .bl true)
noncomputable abbrev St1 := List (Nat × List Nat)
noncomputable def inT (ns : List Nat) : Tn := Tn.of (.dic (inner ns))
noncomputable def stT (st : St1) : List (Key × Tn) := st.map fun x => (kp x.1, inT x.2)
noncomputable def lkS : St1 → Nat → Option (List Nat)
  | [], _ => none
  | (q, ns) :: r, p => if q = p then some ns else lkS r p
noncomputable def rpS : St1 → Nat → List Nat → St1
  | [], _, _ => []
  | (q, ns) :: r, p, ms => if q = p then (q, ms) :: r else (q, ns) :: rpS r p ms
theorem valA_stT : ∀ (st : St1) (p : Nat), valA (stT st) (kp p) = (lkS st p).map inT
  | [], _ => rfl
  | (q, ns) :: r, p => by
    have ih := valA_stT r p
    unfold valA at ih ⊢
    show (((kp q, inT ns) :: stT r).find? fun kv => decide (kv.1 = kp p)).map (·.2) = _
    unfold lkS
    by_cases h : q = p
    · rw [if_pos h, List.find?_cons_of_pos (by simpa [kp_inj] using h)]; rfl
    · rw [if_neg h, List.find?_cons_of_neg (by simpa [kp_inj] using h)]; exact ih
theorem repA_stT (ms : List Nat) : ∀ (st : St1) (p : Nat), repA (stT st) (kp p) (inT ms) = stT (rpS st p ms)
  | [], _ => rfl
  | (q, ns) :: r, p => by
    show repA ((kp q, inT ns) :: stT r) (kp p) (inT ms) = _
    unfold repA rpS
    by_cases h : q = p
    · rw [if_pos h, if_pos (kp_inj.mpr h)]; rfl
    · rw [if_neg h, if_neg (fun z => h (kp_inj.mp z)), repA_stT ms r p]; rfl
theorem stT_app (a b : St1) : stT (a ++ b) = stT a ++ stT b := by unfold stT; rw [List.map_append]
theorem stT_len (a : St1) : (stT a).length = a.length := by unfold stT; rw [List.length_map]
theorem inT_d (ns : List Nat) : (inT ns).d = .dic (inner ns) := Tn.of_d _
theorem ks_stT : ∀ st : St1, Tn.ks (stT st) = st.map fun x => (kp x.1, .dic (inner x.2))
  | [] => rfl
  | (q, ns) :: r => by
    show (kp q, (inT ns).d) :: Tn.ks (stT r) = _
    rw [ks_stT r, inT_d]; rfl
theorem valA_ks : ∀ (st : St1) (p : Nat), valA (Tn.ks (stT st)) (kp p) = (lkS st p).map fun ns => .dic (inner ns)
  | [], _ => rfl
  | (q, ns) :: r, p => by
    have ih := valA_ks r p
    rw [ks_stT] at ih ⊢
    unfold valA at ih ⊢
    rw [List.map_cons]
    unfold lkS
    by_cases h : q = p
    · rw [if_pos h, List.find?_cons_of_pos (by simpa [kp_inj] using h)]; rfl
    · rw [if_neg h, List.find?_cons_of_neg (by simpa [kp_inj] using h)]; exact ih
theorem hasA_ks (st : St1) (p : Nat) : hasA (Tn.ks (stT st)) (kp p) = (lkS st p).isSome := by
  unfold hasA; rw [valA_ks, Option.isSome_map]
theorem inner_len (ns : List Nat) : (inner ns).length = ns.length := by unfold inner; rw [List.length_map]
theorem valA_inner : ∀ (ns : List Nat) (n : Nat), hasA (inner ns) (kp n) = decide (n ∈ ns)
  | [], _ => by simp [inner, hasA, valA]
  | m :: ns, n => by
    have ih := valA_inner ns n
    unfold hasA valA at ih ⊢
    show ((((kp m, D.bl true) :: inner ns).find? fun kv => decide (kv.1 = kp n)).map (·.2)).isSome = _
    by_cases h : m = n
    · rw [List.find?_cons_of_pos (by simpa [kp_inj] using h)]
      simp [h]
    · rw [List.find?_cons_of_neg (by simpa [kp_inj] using h), ih]
      simp [Ne.symm h]
theorem any_inner (ns : List Nat) (n : Nat) : ((inner ns).any fun kv => decide (kv.1 = kp n)) = decide (n ∈ ns) := by
  induction ns with
  | nil => rfl
  | cons m ns ih =>
    show (decide (kp m = kp n) || (inner ns).any fun kv => decide (kv.1 = kp n)) = _
    rw [ih]
    by_cases h : m = n
    · simp [h]
    · simp [h, kp_inj, Ne.symm h]
theorem put_inner (ns : List Nat) (n : Nat) : putA (inner ns) (kp n) (.bl true) = inner (if n ∈ ns then ns else ns ++ [n]) := by
  unfold putA
  rw [any_inner]
  by_cases h : n ∈ ns
  · rw [if_pos (decide_eq_true h), if_pos h]
    unfold inner
    rw [List.map_map]
    apply List.map_congr_left
    intro m _
    show (if kp m = kp n then (kp m, D.bl true) else (kp m, D.bl true)) = _
    split <;> rfl
  · rw [if_neg (by simpa using h), if_neg h]
    unfold inner
    rw [List.map_append]; rfl
theorem drop_inner (ns : List Nat) (n : Nat) : dropA (inner ns) (kp n) = inner (ns.filter fun m => decide (m ≠ n)) := by
  unfold dropA inner
  rw [List.filter_map]
  congr 1
  apply List.filter_congr
  intro m _
  show decide (kp m ≠ kp n) = _
  by_cases h : m = n
  · simp [h]
  · simp [h, kp_inj]
theorem lk_rp : ∀ (st : St1) (p q : Nat) (ms : List Nat), lkS (rpS st p ms) q = if q = p then (lkS st p).map (fun _ => ms) else lkS st q
  | [], p, q, ms => by simp [rpS, lkS]
  | (r, ns) :: st, p, q, ms => by
    unfold rpS
    by_cases h : r = p
    · rw [if_pos h]
      unfold lkS
      by_cases h2 : q = p
      · rw [if_pos (by omega), if_pos h2, if_pos h]; rfl
      · rw [if_neg (by omega), if_neg h2, if_neg (by omega)]
    · rw [if_neg h]
      unfold lkS
      by_cases h2 : r = q
      · rw [if_pos h2, if_neg (by omega), if_pos h2]
      · rw [if_neg h2, lk_rp st p q ms, if_neg h, if_neg h2]
theorem rp_keys : ∀ (st : St1) (p : Nat) (ms : List Nat), (rpS st p ms).map (·.1) = st.map (·.1)
  | [], _, _ => rfl
  | (r, ns) :: st, p, ms => by
    unfold rpS
    split
    · rfl
    · rw [List.map_cons, List.map_cons, rp_keys st p ms]
theorem lk_app : ∀ (a : St1) (p q : Nat) (ms : List Nat), lkS (a ++ [(p, ms)]) q = match lkS a q with | some ns => some ns | none => if p = q then some ms else none
  | [], p, q, ms => rfl
  | (r, ns) :: a, p, q, ms => by
    show lkS ((r, ns) :: (a ++ [(p, ms)])) q = _
    unfold lkS
    by_cases h : r = q
    · rw [if_pos h, if_pos h]
    · rw [if_neg h, if_neg h, lk_app a p q ms]
theorem rp_app : ∀ (a : St1) (p : Nat) (ms ls : List Nat), lkS a p = none → rpS (a ++ [(p, ms)]) p ls = a ++ [(p, ls)]
  | [], p, ms, ls, _ => by show rpS [(p, ms)] p ls = _; unfold rpS; rw [if_pos rfl]; rfl
  | (r, ns) :: a, p, ms, ls, h => by
    unfold lkS at h
    split at h
    · cases h
    · rename_i hn
      show rpS ((r, ns) :: (a ++ [(p, ms)])) p ls = _
      unfold rpS
      rw [if_neg hn, rp_app a p ms ls h]; rfl
theorem lk_mem : ∀ {st : St1} {p : Nat}, p ∈ st.map (·.1) ↔ (lkS st p).isSome = true
  | [], p => by simp [lkS]
  | (r, ns) :: st, p => by
    unfold lkS
    by_cases h : r = p
    · simp [h]
    · rw [if_neg h, List.map_cons, List.mem_cons, lk_mem (st := st)]
      constructor
      · rintro (z | z)
        · exact absurd z.symm h
        · exact z
      · exact fun z => .inr z
structure Rep (st : St1) (R : Nat → Nat → Prop) : Prop where
  at_ : ∀ p ns, lkS st p = some ns → ns.Nodup ∧ ∀ n, n ∈ ns ↔ R n p
  all : ∀ n p, R n p → (lkS st p).isSome = true
noncomputable def addS (st : St1) (p n : Nat) : St1 := match lkS st p with
  | some ns => rpS st p (if n ∈ ns then ns else ns ++ [n])
  | none => st ++ [(p, [n])]
theorem Rep.add {st : St1} {R : Nat → Nat → Prop} (h : Rep st R) (p n : Nat) : Rep (addS st p n) (fun n' p' => R n' p' ∨ (n' = n ∧ p' = p)) := by
  unfold addS
  cases e : lkS st p with
  | some ns =>
    obtain ⟨h1, h2⟩ := h.at_ p ns e
    refine ⟨fun q ms eq => ?_, fun n' p' z => ?_⟩
    · simp only [lk_rp, e, Option.map_some] at eq
      by_cases hq : q = p
      · rw [if_pos hq] at eq
        cases eq
        subst hq
        by_cases hn : n ∈ ns
        · rw [if_pos hn]
          refine ⟨h1, fun m => ⟨fun z => .inl ((h2 m).mp z), fun z => ?_⟩⟩
          rcases z with z | ⟨rfl, _⟩
          · exact (h2 m).mpr z
          · exact hn
        · rw [if_neg hn]
          refine ⟨List.nodup_append.mpr ⟨h1, by simp, fun a ha b hb => ?_⟩, fun m => ?_⟩
          · have : b = n := by simpa using hb
            rintro rfl
            exact hn (this ▸ ha)
          · rw [List.mem_append, h2 m, List.mem_singleton]
            constructor
            · rintro (z | z)
              · exact .inl z
              · exact .inr ⟨z, rfl⟩
            · rintro (z | ⟨z, _⟩)
              · exact .inl z
              · exact .inr z
      · rw [if_neg hq] at eq
        obtain ⟨k1, k2⟩ := h.at_ q ms eq
        refine ⟨k1, fun m => ⟨fun z => .inl ((k2 m).mp z), fun z => ?_⟩⟩
        rcases z with z | ⟨_, z⟩
        · exact (k2 m).mpr z
        · exact absurd z hq
    · simp only [lk_rp, e, Option.map_some]
      by_cases hq : p' = p
      · rw [if_pos hq]; rfl
      · rw [if_neg hq]
        rcases z with z | ⟨_, z⟩
        · exact h.all n' p' z
        · exact absurd z hq
  | none =>
    refine ⟨fun q ms eq => ?_, fun n' p' z => ?_⟩
    · simp only [lk_app] at eq
      cases e2 : lkS st q with
      | some ns =>
        rw [e2] at eq
        cases eq
        obtain ⟨k1, k2⟩ := h.at_ q _ e2
        refine ⟨k1, fun m => ⟨fun z => .inl ((k2 m).mp z), fun z => ?_⟩⟩
        rcases z with z | ⟨_, z⟩
        · exact (k2 m).mpr z
        · subst z; rw [e] at e2; cases e2
      | none =>
        rw [e2] at eq
        by_cases hq : p = q
        · simp only [hq, if_true] at eq
          cases eq
          subst hq
          refine ⟨by simp, fun m => ?_⟩
          rw [List.mem_singleton]
          constructor
          · exact fun z => .inr ⟨z, rfl⟩
          · rintro (z | ⟨z, _⟩)
            · have := h.all m p z; rw [e] at this; cases this
            · exact z
        · simp only [hq, if_false] at eq
          cases eq
    · simp only [lk_app]
      rcases z with z | ⟨_, z⟩
      · have := h.all n' p' z
        cases e2 : lkS st p' with
        | some ns => rfl
        | none => rw [e2] at this; cases this
      · subst z
        rw [e]; simp
theorem add_len (st : St1) (p n : Nat) : (addS st p n).length ≤ st.length + 1 := by
  unfold addS
  split
  · have := congrArg List.length (rp_keys st p (if n ∈ (by assumption : List Nat) then (by assumption : List Nat) else (by assumption : List Nat) ++ [n]))
    rw [List.length_map, List.length_map] at this
    omega
  · simp
noncomputable def awayS (st : St1) (n : Nat) (ps : List Nat) : St1 := ps.foldl (fun st p => rpS st p (((lkS st p).getD []).filter fun m => decide (m ≠ n))) st
theorem away_keys (n : Nat) : ∀ (ps : List Nat) (st : St1), (awayS st n ps).map (·.1) = st.map (·.1)
  | [], _ => rfl
  | p :: ps, st => by
    show (awayS (rpS st p _) n ps).map (·.1) = _
    rw [away_keys n ps, rp_keys]
theorem away_lk (n : Nat) : ∀ (ps : List Nat) (st : St1) (q : Nat), lkS (awayS st n ps) q = if q ∈ ps then (lkS st q).map (fun ns => ns.filter fun m => decide (m ≠ n)) else lkS st q
  | [], st, q => by simp [awayS]
  | p :: ps, st, q => by
    show lkS (awayS (rpS st p _) n ps) q = _
    rw [away_lk n ps, lk_rp]
    by_cases h : q = p
    · subst h
      rw [if_pos rfl, if_pos (List.mem_cons_self ..)]
      cases e : lkS st q with
      | none => simp
      | some ns =>
        simp only [Option.map_some, Option.getD_some]
        split
        · rw [List.filter_filter]; simp
        · rfl
    · rw [if_neg h]
      by_cases h2 : q ∈ ps
      · rw [if_pos h2, if_pos (List.mem_cons_of_mem _ h2)]
      · rw [if_neg h2, if_neg (by simp [h, h2])]
theorem Rep.away {st : St1} {R : Nat → Nat → Prop} (h : Rep st R) (n : Nat) (ps : List Nat) (hp : ∀ p, R n p → p ∈ ps) : Rep (awayS st n ps) (fun n' p' => R n' p' ∧ n' ≠ n) := by
  refine ⟨fun q ms e => ?_, fun n' p' ⟨z, _⟩ => ?_⟩
  · rw [away_lk] at e
    by_cases hq : q ∈ ps
    · rw [if_pos hq] at e
      obtain ⟨ns, e1, rfl⟩ := Option.map_eq_some_iff.mp e
      obtain ⟨k1, k2⟩ := h.at_ q ns e1
      refine ⟨k1.filter _, fun m => ?_⟩
      rw [List.mem_filter, k2 m]
      simp
    · rw [if_neg hq] at e
      obtain ⟨k1, k2⟩ := h.at_ q ms e
      refine ⟨k1, fun m => ⟨fun z => ⟨(k2 m).mp z, ?_⟩, fun z => (k2 m).mpr z.1⟩⟩
      rintro rfl
      exact hq (hp q ((k2 m).mp z))
  · rw [away_lk]
    have := h.all n' p' z
    split
    · rw [Option.isSome_map]; exact this
    · exact this
end My

namespace My
open PySem L2 L3
noncomputable def zi (ps : List Nat) : List D := ps.map fun p => D.int ((p : Nat) : Int)
noncomputable def eT (ps : List Nat) : D := .tup (zi ps)
noncomputable def eL (E : List (List Nat)) : List D := E.map eT
theorem zi_len (l : List Nat) : (zi l).length = l.length := by unfold zi; rw [List.length_map]
theorem zi_get {l : List Nat} {i : Nat} {d : D} (h : (zi l)[i]? = some d) : ∃ p, l[i]? = some p ∧ d = .int (p : Int) := by
  unfold zi at h
  rw [List.getElem?_map] at h
  obtain ⟨p, e1, e2⟩ := Option.map_eq_some_iff.mp h
  exact ⟨p, e1, e2.symm⟩
theorem eL_get {E : List (List Nat)} {i : Nat} {d : D} (h : (eL E)[i]? = some d) : ∃ ps, E[i]? = some ps ∧ d = eT ps := by
  unfold eL at h
  rw [List.getElem?_map] at h
  obtain ⟨p, e1, e2⟩ := Option.map_eq_some_iff.mp h
  exact ⟨p, e1, e2.symm⟩
theorem eL_at {E : List (List Nat)} {i : Nat} {ps : List Nat} (h : E[i]? = some ps) : (eL E)[i]? = some (eT ps) := by
  unfold eL; rw [List.getElem?_map, h]; rfl
noncomputable def stSl (st : St1) (a : Sl) : Prop := a = .tr (.dic (stT st)) ∨ (st = [] ∧ a = .ow (.dic []))
theorem stSl.any {st : St1} {a : Sl} (h : stSl st a) : Sl.any a = some (.dic (Tn.ks (stT st))) := by
  rcases h with rfl | ⟨rfl, rfl⟩ <;> rfl
theorem stSl.tree {st : St1} {a : Sl} (h : stSl st a) : Sl.tree a = some (.dic (stT st), false) := by
  rcases h with rfl | ⟨rfl, rfl⟩ <;> rfl
theorem stand_one {st : St1} {a1 : Sl} (h : stSl st a1) (a0 : Sl) (n p : Nat) (a3 : Sl) (hl : st.length < 1000) (hi : ∀ q ns, lkS st q = some ns → ns.length < 1000) :
    b_standing_at_1 [a0, a1, .sh (.int (n : Int)), a3, .sh (.int (p : Int))] = .nx [a0, .tr (.dic (stT (addS st p n))), .sh (.int (n : Int)), a3, .sh (.int (p : Int))] := by
  have hk : ∀ k : Nat, keyD (.int (k : Int)) = some (kp k) := fun _ => rfl
  unfold addS
  cases e : lkS st p with
  | some ns =>
    have e1 : inK true (.int (p : Int)) (.dic (Tn.ks (stT st))) = .ok (.sh (.bl false)) := by
      simp only [inK, hk, hasA_ks, e]; rfl
    have e2 : valA (stT st) (kp p) = some (.dic ((inner ns).map fun p => (p.1, Tn.sh p.2))) := by rw [valA_stT, e]; rfl
    have e3 := unS_sh (inner ns)
    have e4 : (inner ns).length < 16777216 := by rw [inner_len]; have := hi p ns e; omega
    have e5 : repA (stT st) (kp p) (Tn.of (.dic (inner (if n ∈ ns then ns else ns ++ [n])))) = stT (rpS st p (if n ∈ ns then ns else ns ++ [n])) := repA_stT _ st p
    simp only [b_standing_at_1, L3.evs, Nat.reduceAdd, Nat.reduceSub, Nat.reduceLeDiff, ↓reduceIte, reduceCtorEq, h.any, e1, sPutN, Option.bind_some, h.tree, hk, e2, e3, e4, put_inner, e5, Sl.mk]
  | none =>
    have e1 : inK true (.int (p : Int)) (.dic (Tn.ks (stT st))) = .ok (.sh (.bl true)) := by
      simp only [inK, hk, hasA_ks, e]; rfl
    have e0 : (valA (stT st) (kp p)).isSome = false := by rw [valA_stT, e]; rfl
    have el : (stT st).length < 16777216 := by rw [stT_len]; omega
    have ea : stT st ++ [(kp p, Tn.dic [])] = stT (st ++ [(p, [])]) := by rw [stT_app]; rfl
    have e2 : valA (stT (st ++ [(p, [])])) (kp p) = some (.dic []) := by
      rw [valA_stT, lk_app, e]; simp only [if_true]; rfl
    have e5 : repA (stT (st ++ [(p, [])])) (kp p) (Tn.of (.dic (inner [n]))) = stT (st ++ [(p, [n])]) := by
      have := repA_stT [n] (st ++ [(p, [])]) p
      rw [rp_app st p [] [n] e] at this
      exact this
    have e6 : unS [] = some [] := rfl
    have e7 : putA ([] : List (Key × D)) (kp n) (.bl true) = inner [n] := rfl
    have e8 : (0 : Nat) < 16777216 := by decide
    have t1 : sPutE 1 (eVar 4) [a0, a1, .sh (.int (n : Int)), a3, .sh (.int (p : Int))] = .nx [a0, .tr (.dic (stT (st ++ [(p, [])]))), .sh (.int (n : Int)), a3, .sh (.int (p : Int))] := by
      simp only [sPutE, L3.evs, Nat.reduceAdd, Nat.reduceSub, Nat.reduceLeDiff, ↓reduceIte, reduceCtorEq, Option.bind_some, h.tree, hk, e0, el, ea, Sl.mk]
    have t2 : sPutN 1 (eVar 4) (eVar 2) (eC (.bl true)) [a0, .tr (.dic (stT (st ++ [(p, [])]))), .sh (.int (n : Int)), a3, .sh (.int (p : Int))] = .nx [a0, .tr (.dic (stT (st ++ [(p, [n])]))), .sh (.int (n : Int)), a3, .sh (.int (p : Int))] := by
      simp only [sPutN, L3.evs, Nat.reduceAdd, Nat.reduceSub, Nat.reduceLeDiff, ↓reduceIte, reduceCtorEq, Option.bind_some, Sl.tree, hk, e2, e6, e7, e8, e5, Sl.mk]
    have t0 : sIf [1, 4] (eTest (eOp (inK true) (eVar 4) (eVar 1))) (sPutE 1 (eVar 4)) sNil [a0, a1, .sh (.int (n : Int)), a3, .sh (.int (p : Int))] = .nx [a0, .tr (.dic (stT (st ++ [(p, [])]))), .sh (.int (n : Int)), a3, .sh (.int (p : Int))] := by
      rw [← t1]
      simp only [sIf, vall, List.map_cons, List.map_nil, any_sh, h.any, eTest, eOp, eVar, List.getElem?_cons_succ, List.getElem?_cons_zero, R.bind_ok, W.d_sh, e1, boolD, if_true]
    unfold b_standing_at_1
    rw [L3.seq_nx t0, t2]
end My

namespace My
open PySem L2 L3
theorem few {l : List Nat} {n : Nat} (h : l.Nodup) (hb : ∀ x ∈ l, x < n) : l.length ≤ n := by
  have := List.Nodup.length_le_of_subset (l₂ := List.range n) h fun x hx => List.mem_range.mpr (hb x hx)
  rwa [List.length_range] at this
noncomputable def tot (E : List (List Nat)) : Nat := (E.map List.length).sum
theorem tot_take {E : List (List Nat)} {k : Nat} {ps : List Nat} (h : E[k]? = some ps) : tot (E.take (k + 1)) = tot (E.take k) + ps.length := by
  unfold tot
  rw [List.take_add_one, h, List.map_append, List.sum_append]
  simp
theorem sum_take_le : ∀ (l : List Nat) (k : Nat), (l.take k).sum ≤ l.sum
  | [], k => by simp
  | a :: l, 0 => by simp
  | a :: l, k + 1 => by
    have := sum_take_le l k
    simp only [List.take_succ_cons, List.sum_cons]
    omega
theorem tot_le (E : List (List Nat)) (k : Nat) : tot (E.take k) ≤ tot E := by
  unfold tot
  rw [List.map_take]
  exact sum_take_le _ k
noncomputable def RE (E : List (List Nat)) (n p : Nat) : Prop := ∃ e, E[n]? = some e ∧ p ∈ e
theorem Rep.imp {st : St1} {R R' : Nat → Nat → Prop} (h : Rep st R) (i : ∀ n p, R n p ↔ R' n p) : Rep st R' :=
  ⟨fun p ns e => ⟨(h.at_ p ns e).1, fun n => ((h.at_ p ns e).2 n).trans (i n p)⟩, fun n p z => h.all n p ((i n p).mpr z)⟩
theorem Rep.small {st : St1} {R : Nat → Nat → Prop} (h : Rep st R) {N : Nat} (hb : ∀ n p, R n p → n < N) {q : Nat} {ns : List Nat} (e : lkS st q = some ns) : ns.length ≤ N := by
  obtain ⟨h1, h2⟩ := h.at_ q ns e
  exact few h1 fun x hx => hb x q ((h2 x).mp hx)
theorem stand_edge {st : St1} {a1 : Sl} (h : stSl st a1) (a0 : Sl) (n : Nat) (ps : List Nat) (a4 : Sl) {R : Nat → Nat → Prop} (hR : Rep st R) {N : Nat} (hb : ∀ m p, R m p → m < N) (hn : n < N) (hN : N ≤ 900) (hl : st.length + ps.length ≤ 900) :
    ∃ st' a1' a4', Rep st' (fun m p => R m p ∨ (m = n ∧ p ∈ ps)) ∧ stSl st' a1' ∧ st'.length ≤ st.length + ps.length ∧ b_standing_at_2 [a0, a1, .sh (.int (n : Int)), .sh (eT ps), a4] = .nx [a0, a1', .sh (.int (n : Int)), .sh (eT ps), a4'] := by
  obtain ⟨Δ', e, st', a1', a4', r', s', l', rfl⟩ := loop_list (gV 4) b_standing_at_1 (fun k Δ => ∃ st' a1' a4', Rep st' (fun m p => R m p ∨ (m = n ∧ p ∈ ps.take k)) ∧ stSl st' a1' ∧ st'.length ≤ st.length + k ∧ Δ = [a0, a1', .sh (.int (n : Int)), .sh (eT ps), a4']) (ds := zi ps) (Δ := [a0, a1, .sh (.int (n : Int)), .sh (eT ps), a4])
    ⟨st, a1, a4, hR.imp fun m p => by simp, h, by omega, rfl⟩ (fun k d Δ hd hI => by
      obtain ⟨st', a1', a4', r', s', l', rfl⟩ := hI
      obtain ⟨p, hp, rfl⟩ := zi_get hd
      have hk : k < ps.length := (List.getElem?_eq_some_iff.mp hp).1
      have bd : ∀ m q, (R m q ∨ (m = n ∧ q ∈ ps.take k)) → m < N := fun m q z => by
        rcases z with z | ⟨z, _⟩
        · exact hb m q z
        · omega
      refine ⟨_, rfl, _, .inl (stand_one s' a0 n p (.sh (eT ps)) (by omega) fun q ns e => ?_), addS st' p n, _, _, (r'.add p n).imp fun m q => ?_, .inl rfl, ?_, rfl⟩
      · have := r'.small bd e; omega
      · rw [List.take_add_one, hp]
        simp only [Option.toList_some, List.mem_append, List.mem_singleton]
        constructor
        · rintro ((z | ⟨z1, z2⟩) | ⟨z1, z2⟩)
          · exact .inl z
          · exact .inr ⟨z1, .inl z2⟩
          · exact .inr ⟨z1, .inr z2⟩
        · rintro (z | ⟨z1, z2 | z2⟩)
          · exact .inl (.inl z)
          · exact .inl (.inr ⟨z1, z2⟩)
          · exact .inr ⟨z1, z2⟩
      · have := add_len st' p n; omega)
  rw [zi_len, List.take_length] at r'
  rw [zi_len] at l'
  refine ⟨st', a1', a4', r', s', l', ?_⟩
  have hi : ∀ δ : List (Option D), iOf (eVar 3) (some (D.non) :: none :: none :: some (eT ps) :: δ) = .ok (zi ps) := fun _ => rfl
  simp only [b_standing_at_2, sFor]
  have e1 : iOf (eVar 3) (vsh [a0, a1, .sh (.int (n : Int)), .sh (eT ps), a4]) = .ok (zi ps) := rfl
  rw [e1]
  exact e
theorem stand_all (E : List (List Nat)) (hE : E.length ≤ 900) (hT : tot E ≤ 900) : ∃ st a1, Rep st (RE E) ∧ stSl st a1 ∧ st.length ≤ tot E ∧ ∃ w, F_standing_at [.lst (eL E)] = .ok w ∧ ((a1 = .tr (.dic (stT st)) ∧ w = .tr (.dic (stT st))) ∨ (st = [] ∧ a1 = .ow (.dic []) ∧ w = .ow (.dic []))) := by
  obtain ⟨Δ', e, st, a1, a2, a3, a4, r, s, l, rfl⟩ := loop_list (gV2 2 3) b_standing_at_2 (fun k Δ => ∃ st a1 a2 a3 a4, Rep st (fun n p => RE E n p ∧ n < k) ∧ stSl st a1 ∧ st.length ≤ tot (E.take k) ∧ Δ = [.sh (.lst (eL E)), a1, a2, a3, a4]) (ds := enumD 0 (eL E)) (Δ := [.sh (.lst (eL E)), .ow (.dic []), .no, .no, .no])
    ⟨[], _, _, _, _, ⟨fun p ns e => (by cases e), fun n p z => (by omega)⟩, .inr ⟨rfl, rfl⟩, Nat.zero_le _, rfl⟩ (fun k d Δ hd hI => by
      obtain ⟨st, a1, a2, a3, a4, r, s, l, rfl⟩ := hI
      obtain ⟨d', e1, rfl⟩ := enumD_get hd
      obtain ⟨ps, e2, rfl⟩ := eL_get e1
      have hk : k < E.length := (List.getElem?_eq_some_iff.mp e2).1
      have t1 := tot_take e2
      have t2 := tot_le E (k + 1)
      rw [Nat.zero_add]
      obtain ⟨st', a1', a4', r', s', l', e3⟩ := stand_edge s (.sh (.lst (eL E))) k ps a4 r (N := E.length) (fun m p z => by omega) hk hE (by omega)
      refine ⟨_, rfl, _, .inl e3, st', a1', _, _, a4', r'.imp fun m p => ?_, s', by omega, rfl⟩
      constructor
      · rintro (⟨z1, z2⟩ | ⟨rfl, z⟩)
        · exact ⟨z1, by omega⟩
        · exact ⟨⟨ps, e2, z⟩, by omega⟩
      · rintro ⟨⟨e, z1, z2⟩, z3⟩
        by_cases h : m = k
        · subst h
          rw [e2] at z1
          cases z1
          exact .inr ⟨rfl, z2⟩
        · exact .inl ⟨⟨e, z1, z2⟩, by omega⟩)
  have hle : (enumD 0 (eL E)).length = E.length := by
    have : ∀ (l : List D) (k : Nat), (enumD k l).length = l.length := fun l => by
      induction l with
      | nil => intro k; rfl
      | cons d l ih => intro k; show (enumD (k + 1) l).length + 1 = l.length + 1; rw [ih]
    rw [this]; unfold eL; rw [List.length_map]
  rw [hle] at r l
  rw [List.take_length] at l
  refine ⟨st, a1, r.imp fun n p => ⟨fun z => z.1, fun z => ⟨z, ?_⟩⟩, s, l, ?_⟩
  · obtain ⟨e, z1, _⟩ := z
    exact (List.getElem?_eq_some_iff.mp z1).1
  · have e1 : iEnum (eVar 0) (vsh [.sh (.lst (eL E)), .ow (.dic []), .no, .no, .no]) = .ok (enumD 0 (eL E)) := rfl
    have t1 : sFor [0] (iEnum (eVar 0)) (gV2 2 3) b_standing_at_2 [.sh (.lst (eL E)), .ow (.dic []), .no, .no, .no] = .nx [.sh (.lst (eL E)), a1, a2, a3, a4] := by
      simp only [sFor]
      rw [e1]
      exact e
    have t0 : sSet 1 [] eDic0 (start3 5 [.lst (eL E)]) = .nx [.sh (.lst (eL E)), .ow (.dic []), .no, .no, .no] := rfl
    rcases s with rfl | ⟨rfl, rfl⟩
    · refine ⟨_, body_rt ?_, .inl ⟨rfl, rfl⟩⟩
      unfold g_standing_at
      rw [L3.seq_nx t0, L3.seq_nx t1]
      rfl
    · refine ⟨_, body_rt ?_, .inr ⟨rfl, rfl, rfl⟩⟩
      unfold g_standing_at
      rw [L3.seq_nx t0, L3.seq_nx t1]
      rfl
end My

namespace My
open PySem L2 L3
theorem away_snoc (st : St1) (n : Nat) {ps : List Nat} {k p : Nat} (h : ps[k]? = some p) : awayS st n (ps.take (k + 1)) = rpS (awayS st n (ps.take k)) p (((lkS (awayS st n (ps.take k)) p).getD []).filter fun m => decide (m ≠ n)) := by
  unfold awayS
  rw [List.take_add_one, h, List.foldl_append]
  rfl
theorem take_eq (st : St1) (n : Nat) (ps : List Nat) (hp : ∀ p ∈ ps, (lkS st p).isSome = true) : M_take_away [.int (n : Int), eT ps] (.dic (stT st)) = some (.dic (stT (awayS st n ps))) := by
  obtain ⟨Δ', e, a3, rfl⟩ := loop_list (gV 3) b_take_away_1 (fun k Δ => ∃ a3, Δ = [.sh (.int (n : Int)), .sh (eT ps), .lt (.dic (stT (awayS st n (ps.take k)))), a3]) (ds := zi ps) (Δ := [.sh (.int (n : Int)), .sh (eT ps), .lt (.dic (stT st)), .no])
    ⟨_, rfl⟩ (fun k d Δ hd hI => by
      obtain ⟨a3, rfl⟩ := hI
      obtain ⟨p, hk, rfl⟩ := zi_get hd
      have hs : (lkS (awayS st n (ps.take k)) p).isSome = true := by
        rw [← lk_mem, away_keys, lk_mem]
        exact hp p (List.mem_of_getElem? hk)
      cases e1 : lkS (awayS st n (ps.take k)) p with
      | none => rw [e1] at hs; cases hs
      | some ns =>
        have kk : ∀ k : Nat, keyD (.int (k : Int)) = some (kp k) := fun _ => rfl
        have e2 : valA (stT (awayS st n (ps.take k))) (kp p) = some (.dic ((inner ns).map fun p => (p.1, Tn.sh p.2))) := by rw [valA_stT, e1]; rfl
        have e3 := unS_sh (inner ns)
        have e5 := repA_stT (ns.filter fun m => decide (m ≠ n)) (awayS st n (ps.take k)) p
        unfold inT at e5
        refine ⟨_, rfl, [.sh (.int (n : Int)), .sh (eT ps), .lt (.dic (stT (awayS st n (ps.take (k + 1))))), .sh (.int (p : Int))], .inl ?_, _, rfl⟩
        rw [away_snoc st n hk, e1, Option.getD_some]
        simp only [b_take_away_1, sPopN, L3.evs, Nat.reduceAdd, Nat.reduceSub, Nat.reduceLeDiff, ↓reduceIte, reduceCtorEq, Option.bind_some, Sl.tree, any_tr, kk, e2, e3, drop_inner, e5, Sl.mk])
  rw [zi_len, List.take_length] at e
  unfold M_take_away bodyM
  have e1 : g_take_away (startM 4 [.int (n : Int), eT ps] (.dic (stT st))) = .nx [.sh (.int (n : Int)), .sh (eT ps), .lt (.dic (stT (awayS st n ps))), a3] := e
  rw [e1]
  rfl
noncomputable def ordT (ord : List (Nat × Nat)) : List D := ord.map fun x => .tup [.int (x.1 : Int), .int (x.2 : Int)]
noncomputable def rest (E : List (List Nat)) (T : List Nat) : Nat := (((List.range E.length).filter fun n => decide (n ∉ T)).map fun n => (E.getD n []).length).sum
structure Peel (E : List (List Nat)) (st : St1) (ord : List (Nat × Nat)) : Prop where
  rep : Rep st (fun n p => RE E n p ∧ n ∉ ord.map (·.1))
  nd : (ord.map (·.1)).Nodup
  ok : ∀ x ∈ ord, RE E x.1 x.2
  alone : ∀ x ∈ ord, ∀ m, m ∉ ord.map (·.1) → ¬ RE E m x.2
  pw : ord.Pairwise fun x y => ¬ RE E y.1 x.2
  keys : ∀ n p, RE E n p → (lkS st p).isSome = true
theorem RE.lt {E : List (List Nat)} {n p : Nat} (h : RE E n p) : n < E.length := by
  obtain ⟨e, h1, _⟩ := h
  exact (List.getElem?_eq_some_iff.mp h1).1
theorem Peel.next {E : List (List Nat)} {st : St1} {ord : List (Nat × Nat)} (h : Peel E st ord) {p n : Nat} {ps : List Nat} (hl : lkS st p = some [n]) (he : E[n]? = some ps) : Peel E (awayS st n ps) (ord ++ [(n, p)]) ∧ n ∉ ord.map (·.1) := by
  obtain ⟨_, h2⟩ := h.rep.at_ p [n] hl
  have hn := (h2 n).mp (by simp)
  have only : ∀ m, RE E m p → m ∉ ord.map (·.1) → m = n := fun m z1 z2 => by
    have := (h2 m).mpr ⟨z1, z2⟩
    simpa using this
  refine ⟨⟨?_, ?_, ?_, ?_, ?_, ?_⟩, hn.2⟩
  · refine (h.rep.away n ps fun q z => ?_).imp fun m q => ?_
    · obtain ⟨⟨e, z1, z2⟩, _⟩ := z
      rw [he] at z1
      cases z1
      exact z2
    · simp only [List.map_append, List.map_cons, List.map_nil, List.mem_append, List.mem_singleton]
      constructor
      · rintro ⟨⟨z1, z2⟩, z3⟩
        exact ⟨z1, fun z => z.elim z2 z3⟩
      · rintro ⟨z1, z2⟩
        exact ⟨⟨z1, fun z => z2 (.inl z)⟩, fun z => z2 (.inr z)⟩
  · rw [List.map_append]
    refine List.nodup_append.mpr ⟨h.nd, by simp, fun a ha b hb => ?_⟩
    have : b = n := by simpa using hb
    rintro rfl
    exact hn.2 (this ▸ ha)
  · intro x hx
    rcases List.mem_append.mp hx with hx | hx
    · exact h.ok x hx
    · have : x = (n, p) := by simpa using hx
      rw [this]; exact hn.1
  · intro x hx m hm
    have hm' : m ∉ ord.map (·.1) := fun z => hm (by rw [List.map_append]; exact List.mem_append_left _ z)
    rcases List.mem_append.mp hx with hx | hx
    · exact h.alone x hx m hm'
    · have : x = (n, p) := by simpa using hx
      subst this
      intro z
      have := only m z hm'
      exact hm (by rw [this]; simp)
  · refine List.pairwise_append.mpr ⟨h.pw, by simp, fun x hx y hy => ?_⟩
    have : y = (n, p) := by simpa using hy
    subst this
    exact h.alone x hx n hn.2
  · intro m q z
    rw [← lk_mem, away_keys, lk_mem]
    exact h.keys m q z
theorem sum_filter_drop {f : Nat → Nat} {n : Nat} : ∀ {l : List Nat} {P Q : Nat → Bool}, l.Nodup → n ∈ l → P n = true → Q n = false → (∀ m, m ≠ n → Q m = P m) → ((l.filter P).map f).sum = ((l.filter Q).map f).sum + f n
  | [], _, _, _, h, _, _, _ => by cases h
  | a :: l, P, Q, nd, h, h1, h2, h3 => by
    rw [List.nodup_cons] at nd
    by_cases ha : a = n
    · subst ha
      have : l.filter P = l.filter Q := List.filter_congr fun m hm => (h3 m fun z => nd.1 (z ▸ hm)).symm
      rw [List.filter_cons_of_pos h1, List.filter_cons_of_neg (by rw [h2]; decide), this, List.map_cons, List.sum_cons]
      omega
    · have hm : n ∈ l := by
        rcases List.mem_cons.mp h with z | z
        · exact absurd z.symm ha
        · exact z
      have ih := sum_filter_drop (f := f) nd.2 hm h1 h2 h3
      have e := h3 a ha
      cases hp : P a with
      | true =>
        rw [List.filter_cons_of_pos hp, List.filter_cons_of_pos (by rw [e]; exact hp), List.map_cons, List.sum_cons, List.map_cons, List.sum_cons, ih]
        omega
      | false => rw [List.filter_cons_of_neg (by rw [hp]; decide), List.filter_cons_of_neg (by rw [e, hp]; decide), ih]
theorem rest_next {E : List (List Nat)} {T : List Nat} {n : Nat} {ps : List Nat} (he : E[n]? = some ps) (hn : n ∉ T) : rest E T = rest E (T ++ [n]) + ps.length := by
  have hlt : n < E.length := (List.getElem?_eq_some_iff.mp he).1
  unfold rest
  rw [sum_filter_drop (f := fun n => (E.getD n []).length) (n := n) (Q := fun m => decide (m ∉ T ++ [n])) List.nodup_range (List.mem_range.mpr hlt) (by simpa using hn) (by simp) fun m hm => by simp [hm]]
  simp only [List.getD_eq_getElem?_getD, he, Option.getD_some]
theorem rest_le (E : List (List Nat)) : rest E [] = tot E := by
  unfold rest tot
  have : (List.range E.length).filter (fun n => decide (n ∉ ([] : List Nat))) = List.range E.length := by
    rw [List.filter_eq_self]; simp
  rw [this]
  congr 1
  apply List.ext_getElem
  · simp
  · intro i h1 h2
    simp only [List.getElem_map, List.getElem_range]
    have hi : i < E.length := by simpa using h2
    rw [List.getD_eq_getElem?_getD, List.getElem?_eq_getElem hi, Option.getD_some]
theorem le_sum : ∀ {l : List Nat} {x : Nat}, x ∈ l → x ≤ l.sum
  | a :: l, x, h => by
    rw [List.sum_cons]
    rcases List.mem_cons.mp h with z | z
    · omega
    · have := le_sum z; omega
theorem turn {E : List (List Nat)} {st : St1} {ord : List (Nat × Nat)} (h : Peel E st ord) (hE : E.length ≤ 900) (a1 a6 a7 a8 : Sl) {s2 : Sl} (hs : stSl st s2) {w : List Nat} {p : Nat} (hp : (lkS st p).isSome = true) (hW : w.length + tot E ≤ 100000) (ho : ord.length ≤ 900) :
    ∃ st' ord' w' s2' a8', Peel E st' ord' ∧ stSl st' s2' ∧ (∀ q ∈ w', q ∈ w ∨ ∃ m, RE E m q) ∧ ord'.length ≤ ord.length + 1 ∧ w'.length + rest E (ord'.map (·.1)) = w.length + rest E (ord.map (·.1)) ∧ st'.map (·.1) = st.map (·.1) ∧ ((∀ q m, lkS st q = some [m] → q ∈ w ++ [p]) → ∀ q m, lkS st' q = some [m] → q ∈ w') ∧
      b_peeled_1 [.sh (.lst (eL E)), a1, s2, .ow (.lst (zi (w ++ [p]))), .ow (.lst (ordT ord)), .ow (.dic (inner (ord.map (·.1)))), a6, a7, a8] = .nx [.sh (.lst (eL E)), a1, s2', .ow (.lst (zi w')), .ow (.lst (ordT ord')), .ow (.dic (inner (ord'.map (·.1)))), a6, .sh (.int (p : Int)), a8'] := by
  have kk : ∀ k : Nat, keyD (.int (k : Int)) = some (kp k) := fun _ => rfl
  have z1 : (zi (w ++ [p]))[(zi (w ++ [p])).length - 1]? = some (.int (p : Int)) := by
    rw [zi_len]; unfold zi; rw [List.getElem?_map, List.length_append]; simp
  have z2 : (zi (w ++ [p])).dropLast = zi w := by unfold zi; rw [List.map_append]; simp
  have t1 : sPopL 7 3 [.sh (.lst (eL E)), a1, s2, .ow (.lst (zi (w ++ [p]))), .ow (.lst (ordT ord)), .ow (.dic (inner (ord.map (·.1)))), a6, a7, a8] = .nx [.sh (.lst (eL E)), a1, s2, .ow (.lst (zi w)), .ow (.lst (ordT ord)), .ow (.dic (inner (ord.map (·.1)))), a6, .sh (.int (p : Int)), a8] := by
    simp only [sPopL, List.getElem?_cons_succ, List.getElem?_cons_zero, z1, z2, List.set_cons_succ, List.set_cons_zero]
  cases e : lkS st p with
  | none => rw [e] at hp; cases hp
  | some ns =>
    have g1 : getK (.dic (Tn.ks (stT st))) (.int (p : Int)) = .ok (.sh (.dic (inner ns))) := by
      simp only [getK, kk, valA_ks, e, Option.map_some]
    have g2 : lenK [.dic (inner ns)] = .ok (.sh (.int (ns.length : Int))) := by simp only [lenK, inner_len]
    have an := hs.any
    by_cases hl : (ns.length : Int) = 1
    · obtain ⟨n, rfl⟩ := List.length_eq_one_iff.mp (show ns.length = 1 by omega)
      obtain ⟨⟨ps, he, hpp⟩, _⟩ := ((h.rep.at_ p [n] e).2 n).mp (by simp)
      obtain ⟨h', hn⟩ := h.next e he
      have m1 : minK [.dic (inner [n])] = .ok (.sh (.int (n : Int))) := rfl
      have hT := take_eq st n ps fun q hq => h.keys n q ⟨ps, he, hq⟩
      have hI : ixD (.lst (eL E)) (.int (n : Int)) = .ok (.sh (eT ps)) := ix_lst (atI_n (eL_at he))
      have hput : putA (inner (ord.map (·.1))) (kp n) (.bl true) = inner ((ord ++ [(n, p)]).map (·.1)) := by
        rw [put_inner, if_neg hn, List.map_append]; rfl
      have hlo : (ordT ord).length < 16777216 := by unfold ordT; rw [List.length_map]; omega
      have hli : (inner (ord.map (·.1))).length < 16777216 := by rw [inner_len, List.length_map]; omega
      have hps : ps.length ≤ tot E := by
        unfold tot
        have hm : ps.length ∈ E.map List.length := List.mem_map.mpr ⟨ps, List.mem_of_getElem? he, rfl⟩
        exact le_sum hm
      have hlw : (zi w).length + (zi ps).length ≤ 16777216 := by rw [zi_len, zi_len]; omega
      refine ⟨awayS st n ps, ord ++ [(n, p)], w ++ ps, .tr (.dic (stT (awayS st n ps))), .sh (.int (n : Int)), h', .inl rfl, fun q hq => ?_, by simp, ?_, away_keys n ps st, fun hc q m eq => ?_, ?_⟩
      · rcases List.mem_append.mp hq with z | z
        · exact .inl z
        · exact .inr ⟨n, ps, he, z⟩
      · rw [List.length_append, rest_next he hn, List.map_append]
        show w.length + ps.length + rest E (ord.map (·.1) ++ [n]) = _
        omega
      · rw [away_lk] at eq
        by_cases hq : q ∈ ps
        · exact List.mem_append_right _ hq
        · rw [if_neg hq] at eq
          rcases List.mem_append.mp (hc q m eq) with z | z
          · exact List.mem_append_left _ z
          · have : q = p := by simpa using z
            subst this
            exact absurd hpp hq
      · unfold b_peeled_1
        rw [L3.seq_nx t1]
        have hz : zi w ++ zi ps = zi (w ++ ps) := by unfold zi; rw [List.map_append]
        have ho2 : ordT ord ++ [.tup [.int (n : Int), .int (p : Int)]] = ordT (ord ++ [(n, p)]) := by unfold ordT; rw [List.map_append]; rfl
        have ht := hs.tree
        have u1 : sSet 8 [2, 7] (eCall minK (aCons (eOp getK (eVar 2) (eVar 7)) aNil)) [.sh (.lst (eL E)), a1, s2, .ow (.lst (zi w)), .ow (.lst (ordT ord)), .ow (.dic (inner (ord.map (·.1)))), a6, .sh (.int (p : Int)), a8] = .nx [.sh (.lst (eL E)), a1, s2, .ow (.lst (zi w)), .ow (.lst (ordT ord)), .ow (.dic (inner (ord.map (·.1)))), a6, .sh (.int (p : Int)), .sh (.int (n : Int))] := by
          have v1 : eCall minK (aCons (eOp getK (eVar 2) (eVar 7)) aNil) (vsh [.sh (.lst (eL E)), a1, s2, .ow (.lst (zi w)), .ow (.lst (ordT ord)), .ow (.dic (inner (ord.map (·.1)))), a6, .sh (.int (p : Int)), a8]) = .no := by
            rcases hs with rfl | ⟨_, rfl⟩ <;> rfl
          have v2 : eCall minK (aCons (eOp getK (eVar 2) (eVar 7)) aNil) (vall [.sh (.lst (eL E)), a1, s2, .ow (.lst (zi w)), .ow (.lst (ordT ord)), .ow (.dic (inner (ord.map (·.1)))), a6, .sh (.int (p : Int)), a8]) = .ok (.sh (.int (n : Int))) := by
            simp only [L3.evs, Nat.reduceAdd, Nat.reduceSub, Nat.reduceLeDiff, ↓reduceIte, reduceCtorEq, an, g1, m1]
          unfold sSet
          rw [v1, v2]
          rfl
        have u5 : sCallM 2 M_take_away (eVar 8) (eOp ixD (eVar 0) (eVar 8)) [.sh (.lst (eL E)), a1, s2, .ow (.lst (zi w)), .ow (.lst (ordT (ord ++ [(n, p)]))), .ow (.dic (inner ((ord ++ [(n, p)]).map (·.1)))), a6, .sh (.int (p : Int)), .sh (.int (n : Int))] = .nx [.sh (.lst (eL E)), a1, .tr (.dic (stT (awayS st n ps))), .ow (.lst (zi w)), .ow (.lst (ordT (ord ++ [(n, p)]))), .ow (.dic (inner ((ord ++ [(n, p)]).map (·.1)))), a6, .sh (.int (p : Int)), .sh (.int (n : Int))] := by
          simp only [sCallM, L3.evs, Nat.reduceAdd, Nat.reduceSub, Nat.reduceLeDiff, ↓reduceIte, reduceCtorEq, Option.bind_some, ht, hI, hT, Sl.mk]
        have test : eTest (eOp eqD (eCall lenK (aCons (eOp getK (eVar 2) (eVar 7)) aNil)) (eC (.int 1))) (vall [.sh (.lst (eL E)), a1, s2, .ow (.lst (zi w)), .ow (.lst (ordT ord)), .ow (.dic (inner (ord.map (·.1)))), a6, .sh (.int (p : Int)), a8]) = .ok true := by
          have g3 : lenK [.dic (inner [n])] = .ok (.sh (.int 1)) := rfl
          simp only [L3.evs, Nat.reduceAdd, Nat.reduceSub, Nat.reduceLeDiff, ↓reduceIte, reduceCtorEq, an, g1, g3, eqD_int]
        unfold sIf
        rw [test]
        show sSeq _ _ _ = _
        rw [L3.seq_nx u1]
        have u2 : ∀ g : FS, sSeq (sApp 4 (eTup (aCons (eVar 8) (aCons (eVar 7) aNil)))) g [.sh (.lst (eL E)), a1, s2, .ow (.lst (zi w)), .ow (.lst (ordT ord)), .ow (.dic (inner (ord.map (·.1)))), a6, .sh (.int (p : Int)), .sh (.int (n : Int))] = g [.sh (.lst (eL E)), a1, s2, .ow (.lst (zi w)), .ow (.lst (ordT (ord ++ [(n, p)]))), .ow (.dic (inner (ord.map (·.1)))), a6, .sh (.int (p : Int)), .sh (.int (n : Int))] := fun g => L3.seq_nx (by simp only [sApp, L3.evs, Nat.reduceAdd, Nat.reduceSub, Nat.reduceLeDiff, ↓reduceIte, reduceCtorEq, hlo, ho2])
        have u3 : ∀ g : FS, sSeq (sPutK 5 [] (eVar 8) (eC (.bl true))) g [.sh (.lst (eL E)), a1, s2, .ow (.lst (zi w)), .ow (.lst (ordT (ord ++ [(n, p)]))), .ow (.dic (inner (ord.map (·.1)))), a6, .sh (.int (p : Int)), .sh (.int (n : Int))] = g [.sh (.lst (eL E)), a1, s2, .ow (.lst (zi w)), .ow (.lst (ordT (ord ++ [(n, p)]))), .ow (.dic (inner ((ord ++ [(n, p)]).map (·.1)))), a6, .sh (.int (p : Int)), .sh (.int (n : Int))] := fun g => L3.seq_nx (by simp only [sPutK, L3.evs, Nat.reduceAdd, Nat.reduceSub, Nat.reduceLeDiff, ↓reduceIte, reduceCtorEq, kk, hli, hput])
        rw [u2, u3, L3.seq_nx u5]
        simp only [sExt, L3.evs, Nat.reduceAdd, Nat.reduceSub, Nat.reduceLeDiff, ↓reduceIte, reduceCtorEq, hI, eT, hlw, hz]
    · refine ⟨st, ord, w, s2, a8, h, hs, fun q hq => .inl hq, by omega, rfl, rfl, fun hc q m eq => ?_, ?_⟩
      · rcases List.mem_append.mp (hc q m eq) with z | z
        · exact z
        · have : q = p := by simpa using z
          subst this
          rw [e] at eq
          cases eq
          exact absurd rfl hl
      unfold b_peeled_1
      rw [L3.seq_nx t1]
      have test : eTest (eOp eqD (eCall lenK (aCons (eOp getK (eVar 2) (eVar 7)) aNil)) (eC (.int 1))) (vall [.sh (.lst (eL E)), a1, s2, .ow (.lst (zi w)), .ow (.lst (ordT ord)), .ow (.dic (inner (ord.map (·.1)))), a6, .sh (.int (p : Int)), a8]) = .ok false := by
        simp only [L3.evs, Nat.reduceAdd, Nat.reduceSub, Nat.reduceLeDiff, ↓reduceIte, reduceCtorEq, an, g1, g2, eqD_int, hl]
      unfold sIf
      rw [test]
      rfl
end My

namespace My
open PySem L2 L3
theorem peel_loop (E : List (List Nat)) (hE : E.length ≤ 900) (hT : tot E ≤ 900) (a1 a6 : Sl) : ∀ (k : Nat) (st : St1) (ord : List (Nat × Nat)) (w : List Nat) (s2 a7 a8 : Sl) (fuel : Nat), Peel E st ord → stSl st s2 → (∀ q ∈ w, (lkS st q).isSome = true) → w.length + rest E (ord.map (·.1)) = k → k < fuel → k ≤ 1800 → (∀ q m, lkS st q = some [m] → q ∈ w) →
    ∃ st' ord' s2' a7' a8', Peel E st' ord' ∧ stSl st' s2' ∧ (∀ q m, lkS st' q ≠ some [m]) ∧
      sWhile [3] t_peeled_1 b_peeled_1 fuel [.sh (.lst (eL E)), a1, s2, .ow (.lst (zi w)), .ow (.lst (ordT ord)), .ow (.dic (inner (ord.map (·.1)))), a6, a7, a8] = .nx [.sh (.lst (eL E)), a1, s2', .ow (.lst []), .ow (.lst (ordT ord')), .ow (.dic (inner (ord'.map (·.1)))), a6, a7', a8'] := by
  intro k
  induction k with
  | zero =>
    intro st ord w s2 a7 a8 fuel h hs hw hk hf _ hc
    have hw0 : w = [] := List.eq_nil_of_length_eq_zero (by omega)
    subst hw0
    obtain ⟨f, rfl⟩ : ∃ f, fuel = f + 1 := ⟨fuel - 1, by omega⟩
    refine ⟨st, ord, s2, a7, a8, h, hs, fun q m eq => ?_, while_end ?_⟩
    · have := hc q m eq; simp at this
    · rcases hs with rfl | ⟨_, rfl⟩ <;> rfl
  | succ k ih =>
    intro st ord w s2 a7 a8 fuel h hs hw hk hf hb hc
    obtain ⟨f, rfl⟩ : ∃ f, fuel = f + 1 := ⟨fuel - 1, by omega⟩
    rcases List.eq_nil_or_concat w with rfl | ⟨w0, p, rfl⟩
    · refine ⟨st, ord, s2, a7, a8, h, hs, fun q m eq => ?_, while_end ?_⟩
      · have := hc q m eq; simp at this
      · rcases hs with rfl | ⟨_, rfl⟩ <;> rfl
    · have ho : ord.length ≤ 900 := by
        have := few h.nd (n := E.length) fun x hx => by
          obtain ⟨y, hy, rfl⟩ := List.mem_map.mp hx
          exact (h.ok y hy).lt
        rw [List.length_map] at this
        omega
      rw [List.concat_eq_append] at *
      obtain ⟨st', ord', w', s2', a8', h', hs', hw', _, hm', hk', hc', e⟩ := turn h hE a1 a6 a7 a8 hs (w := w0) (p := p) (hw p (by simp)) (by rw [List.length_append] at hk; simp at hk; omega) ho
      have some' : ∀ q, (lkS st q).isSome = true → (lkS st' q).isSome = true := fun q z => by
        rw [← lk_mem, hk', lk_mem]; exact z
      obtain ⟨st2, ord2, s3, a7', a8'', h2, hs2, hc2, e2⟩ := ih st' ord' w' s2' (.sh (.int (p : Int))) a8' f h' hs' (fun q hq => by
        rcases hw' q hq with z | ⟨m, z⟩
        · exact some' q (hw q (by simp [z]))
        · exact h'.keys m q z) (by rw [hm']; rw [List.length_append] at hk; simp at hk; omega) (by omega) (by omega) (hc' hc)
      refine ⟨st2, ord2, s3, a7', a8'', h2, hs2, hc2, ?_⟩
      rw [while_go (Δ' := [.sh (.lst (eL E)), a1, s2', .ow (.lst (zi w')), .ow (.lst (ordT ord')), .ow (.dic (inner (ord'.map (·.1)))), a6, .sh (.int (p : Int)), a8']) ?_ e]
      · exact e2
      · have hz : (0 : Int) < ((zi (w0 ++ [p])).length : Int) := by rw [zi_len, List.length_append]; simp
        simp only [t_peeled_1, L3.evs, Nat.reduceAdd, Nat.reduceSub, Nat.reduceLeDiff, ↓reduceIte, reduceCtorEq, any_sh, len_lst, gt_ok, hz]
noncomputable def leftN (E : List (List Nat)) (ord : List (Nat × Nat)) : List Nat := (List.range E.length).filter fun n => decide (n ∉ ord.map (·.1))
theorem nat_range (n : Nat) : zints 0 n = zi (List.range n) := by
  unfold zints zi
  apply List.map_congr_left
  intro k _
  rw [Int.zero_add]
theorem peeled_eq (E : List (List Nat)) (size : Int) (hE : E.length ≤ 900) (hT : tot E ≤ 900) : ∃ (st : St1) (ord : List (Nat × Nat)), Peel E st ord ∧ (∀ q m, lkS st q ≠ some [m]) ∧
    F_peeled [.lst (eL E), .int size] = .ok (.tr (.tup [Tn.of (.lst (ordT ord)), Tn.of (.lst (zi (leftN E ord)))])) := by
  obtain ⟨st, s2, r, hs, hl, w, ew, hw⟩ := stand_all E hE hT
  have P0 : Peel E st [] := ⟨r.imp fun n p => by simp, by simp, fun x h => by simp at h, fun x h => by simp at h, by simp, fun n p z => r.all n p z⟩
  have hkeys : (Tn.ks (stT st)).map (fun p => kD p.1) = zi (st.map (·.1)) := by
    rw [ks_stT, List.map_map]
    unfold zi
    rw [List.map_map]
    rfl
  obtain ⟨st', ord, s2', a7, a8, h', hs', hc', e⟩ := peel_loop E hE hT (.sh (.int size)) .no (st.length + tot E) st [] (st.map (·.1)) s2 .no .no 3000 P0 hs (fun q hq => lk_mem.mp hq) (by rw [List.length_map, List.map_nil, rest_le]) (by omega) (by omega) (fun q m eq => lk_mem.mpr (by rw [eq]; rfl))
  refine ⟨st', ord, h', hc', ?_⟩
  have t1 : sSet 2 [0] (eFn 1 F_standing_at (aCons (eVar 0) aNil)) (start3 9 [.lst (eL E), .int size]) = .nx [.sh (.lst (eL E)), .sh (.int size), s2, .no, .no, .no, .no, .no, .no] := by
    rcases hw with ⟨rfl, rfl⟩ | ⟨_, rfl, rfl⟩
    · simp only [L3.evs, Nat.reduceAdd, Nat.reduceSub, Nat.reduceLeDiff, ↓reduceIte, reduceCtorEq, ew]
    · simp only [L3.evs, Nat.reduceAdd, Nat.reduceSub, Nat.reduceLeDiff, ↓reduceIte, reduceCtorEq, ew]
  have t2 : sSetF 3 (eCall listK (aCons (eVar 2) aNil)) [.sh (.lst (eL E)), .sh (.int size), s2, .no, .no, .no, .no, .no, .no] = .nx [.sh (.lst (eL E)), .sh (.int size), s2, .ow (.lst (zi (st.map (·.1)))), .no, .no, .no, .no, .no] := by
    have hf : (zi (st.map (·.1))).all flatD = true := by
      unfold zi; rw [List.all_map, List.all_eq_true]; intro x _; rfl
    simp only [sSetF, L3.evs, Nat.reduceAdd, Nat.reduceSub, Nat.reduceLeDiff, ↓reduceIte, reduceCtorEq, hs.any, listK, hkeys, hf]
  have ef : ∀ b2 b3 b4 b7 b8 : Option D, eComp 1 (iArgs rng1 (aCons (eCall lenD (aCons (eVar 0) aNil)) aNil)) (gC 9) p_peeled_1 (eVar 9) [some (.lst (eL E)), some (.int size), b2, b3, b4, some (.dic (inner (ord.map (·.1)))), none, b7, b8] = .ok (.ow (.lst (zi (leftN E ord)))) := fun b2 b3 b4 b7 b8 => by
    have hr : iArgs rng1 (aCons (eCall lenD (aCons (eVar 0) aNil)) aNil) [some (.lst (eL E)), some (.int size), b2, b3, b4, some (.dic (inner (ord.map (·.1)))), none, b7, b8] = .ok (zi (List.range E.length)) := by
      have hlen : (eL E).length = E.length := by unfold eL; rw [List.length_map]
      simp only [L3.evs, Nat.reduceAdd, Nat.reduceSub, Nat.reduceLeDiff, ↓reduceIte, reduceCtorEq, len_lst, hlen, rng1_ok (show -4611686018427387903 ≤ (E.length : Int) by omega) (by omega), Int.toNat_natCast, nat_range]
    refine eComp_ok (m := 1) hr (by rw [zi_len, List.length_range]; omega) ?_
    have hc := comp_list (fg := gC 9) (p := p_peeled_1) (f := eVar 9) (δ := [some (.lst (eL E)), some (.int size), b2, b3, b4, some (.dic (inner (ord.map (·.1)))), none, b7, b8, none]) (fun d => match d with | .int i => decide (i.toNat ∉ ord.map (·.1)) | _ => false) (fun d => d) (zi (List.range E.length)) (fun d hd => by
      obtain ⟨n, hn, rfl⟩ := List.mem_map.mp hd
      refine ⟨[some (.lst (eL E)), some (.int size), b2, b3, b4, some (.dic (inner (ord.map (·.1)))), none, b7, b8, some (.int (n : Int))], rfl, ?_, fun _ => ⟨.sh (.int (n : Int)), rfl, rfl⟩⟩
      have hk : keyD (.int (n : Int)) = some (kp n) := rfl
      simp only [p_peeled_1, L3.evs, Nat.reduceAdd, Nat.reduceSub, Nat.reduceLeDiff, ↓reduceIte, reduceCtorEq, inK, hk, valA_inner, Int.toNat_natCast]
      by_cases h : n ∈ ord.map (·.1)
      · simp only [h, decide_true, Bool.not_true, not_true, decide_false]
      · simp only [h, decide_false, Bool.not_false, not_false_eq_true, decide_true])
    rw [List.map_id'] at hc
    show compD _ _ _ _ _ = _
    refine hc.trans ?_
    unfold zi leftN
    rw [List.filter_map]
    congr 1
  obtain ⟨a5, t6⟩ : ∃ a5, sSet 6 [0, 5] (eComp 1 (iArgs rng1 (aCons (eCall lenD (aCons (eVar 0) aNil)) aNil)) (gC 9) p_peeled_1 (eVar 9)) [.sh (.lst (eL E)), .sh (.int size), s2', .ow (.lst []), .ow (.lst (ordT ord)), .ow (.dic (inner (ord.map (·.1)))), .no, a7, a8] = .nx [.sh (.lst (eL E)), .sh (.int size), s2', .ow (.lst []), .ow (.lst (ordT ord)), a5, .ow (.lst (zi (leftN E ord))), a7, a8] := by
    cases hn : E.length with
    | zero =>
      have e0 : E = [] := List.eq_nil_of_length_eq_zero hn
      subst e0
      refine ⟨.ow (.dic (inner (ord.map (·.1)))), ?_⟩
      have v1 : eComp 1 (iArgs rng1 (aCons (eCall lenD (aCons (eVar 0) aNil)) aNil)) (gC 9) p_peeled_1 (eVar 9) (vsh [.sh (.lst (eL [])), .sh (.int size), s2', .ow (.lst []), .ow (.lst (ordT ord)), .ow (.dic (inner (ord.map (·.1)))), .no, a7, a8]) = .ok (.ow (.lst [])) := rfl
      unfold sSet
      rw [v1]
      rfl
    | succ n =>
      refine ⟨.sh (.dic (inner (ord.map (·.1)))), ?_⟩
      have v1 : eComp 1 (iArgs rng1 (aCons (eCall lenD (aCons (eVar 0) aNil)) aNil)) (gC 9) p_peeled_1 (eVar 9) (vsh [.sh (.lst (eL E)), .sh (.int size), s2', .ow (.lst []), .ow (.lst (ordT ord)), .ow (.dic (inner (ord.map (·.1)))), .no, a7, a8]) = .no := by
        have hr : iArgs rng1 (aCons (eCall lenD (aCons (eVar 0) aNil)) aNil) (vsh [.sh (.lst (eL E)), .sh (.int size), s2', .ow (.lst []), .ow (.lst (ordT ord)), .ow (.dic (inner (ord.map (·.1)))), .no, a7, a8]) = .ok (zi (List.range (n + 1))) := by
          have hlen : (eL E).length = n + 1 := by unfold eL; rw [List.length_map, hn]
          simp only [L3.evs, Nat.reduceAdd, Nat.reduceSub, Nat.reduceLeDiff, ↓reduceIte, reduceCtorEq, len_lst, hlen, rng1_ok (show -4611686018427387903 ≤ ((n + 1 : Nat) : Int) by omega) (by omega), Int.toNat_natCast, nat_range]
        have hz : zi (List.range (n + 1)) = .int 0 :: zi ((List.range n).map Nat.succ) := by rw [List.range_succ_eq_map]; rfl
        unfold eComp
        rw [hr, R.bind_ok, if_pos (by rw [zi_len, List.length_range]; omega), hz]
        rfl
      have v2 := ef (Sl.any s2') (some (.lst [])) (some (.lst (ordT ord))) (Sl.any a7) (Sl.any a8)
      have v3 := ef (Sl.pub s2') none none (Sl.pub a7) (Sl.pub a8)
      unfold sSet
      rw [v1]
      have v2' : eComp 1 (iArgs rng1 (aCons (eCall lenD (aCons (eVar 0) aNil)) aNil)) (gC 9) p_peeled_1 (eVar 9) (vall [.sh (.lst (eL E)), .sh (.int size), s2', .ow (.lst []), .ow (.lst (ordT ord)), .ow (.dic (inner (ord.map (·.1)))), .no, a7, a8]) = .ok (.ow (.lst (zi (leftN E ord)))) := v2
      have g1 : gsome [0, 5] [.sh (.lst (eL E)), .sh (.int size), s2', .ow (.lst []), .ow (.lst (ordT ord)), .ow (.dic (inner (ord.map (·.1)))), .no, a7, a8] = [.sh (.lst (eL E)), .sh (.int size), s2', .ow (.lst []), .ow (.lst (ordT ord)), .sh (.dic (inner (ord.map (·.1)))), .no, a7, a8] := rfl
      have v3' : eComp 1 (iArgs rng1 (aCons (eCall lenD (aCons (eVar 0) aNil)) aNil)) (gC 9) p_peeled_1 (eVar 9) (vsh [.sh (.lst (eL E)), .sh (.int size), s2', .ow (.lst []), .ow (.lst (ordT ord)), .sh (.dic (inner (ord.map (·.1)))), .no, a7, a8]) = .ok (.ow (.lst (zi (leftN E ord)))) := v3
      simp only [v2', W.d_ow, flatD, Bool.false_eq_true, if_false, g1, v3', sPut, List.set_cons_succ, List.set_cons_zero]
  refine body_rt ?_
  unfold g_peeled
  rw [L3.seq_nx t1, L3.seq_nx t2]
  have t3 : sSet 4 [] (eLst aNil) [.sh (.lst (eL E)), .sh (.int size), s2, .ow (.lst (zi (st.map (·.1)))), .no, .no, .no, .no, .no] = .nx [.sh (.lst (eL E)), .sh (.int size), s2, .ow (.lst (zi (st.map (·.1)))), .ow (.lst []), .no, .no, .no, .no] := rfl
  have t4 : sSet 5 [] eDic0 [.sh (.lst (eL E)), .sh (.int size), s2, .ow (.lst (zi (st.map (·.1)))), .ow (.lst []), .no, .no, .no, .no] = .nx [.sh (.lst (eL E)), .sh (.int size), s2, .ow (.lst (zi (st.map (·.1)))), .ow (.lst []), .ow (.dic []), .no, .no, .no] := rfl
  rw [L3.seq_nx t3, L3.seq_nx t4]
  have e' : sWhile [3] t_peeled_1 b_peeled_1 3000 [.sh (.lst (eL E)), .sh (.int size), s2, .ow (.lst (zi (st.map (·.1)))), .ow (.lst []), .ow (.dic []), .no, .no, .no] = _ := e
  rw [L3.seq_nx e', L3.seq_nx t6]
  rfl
end My

namespace My
noncomputable def Stays (E : List (List Nat)) (S : Nat → Prop) : Prop := ∀ n, S n → n < E.length ∧ ∀ p, RE E n p → ∃ m, m ≠ n ∧ S m ∧ RE E m p
noncomputable def Core (E : List (List Nat)) (n : Nat) : Prop := ∃ S, Stays E S ∧ S n
theorem core_stays (E : List (List Nat)) : Stays E (Core E) := fun n ⟨S, h, hn⟩ => ⟨(h n hn).1, fun p hp => by
  obtain ⟨m, h1, h2, h3⟩ := (h n hn).2 p hp
  exact ⟨m, h1, ⟨S, h, h2⟩, h3⟩⟩
noncomputable def coreL (E : List (List Nat)) : List Nat := (List.range E.length).filter fun n => @decide (Core E n) (Classical.propDecidable _)
theorem mem_coreL {E : List (List Nat)} {n : Nat} : n ∈ coreL E ↔ Core E n := by
  unfold coreL
  rw [List.mem_filter, List.mem_range]
  exact ⟨fun h => @of_decide_eq_true _ (Classical.propDecidable _) h.2, fun h => ⟨(core_stays E n h).1, @decide_eq_true _ (Classical.propDecidable _) h⟩⟩
theorem coreL_pw (E : List (List Nat)) : (coreL E).Pairwise (· < ·) := List.Pairwise.filter _ List.pairwise_lt_range
theorem rising_eq : ∀ {a b : List Nat}, a.Pairwise (· < ·) → b.Pairwise (· < ·) → (∀ x, x ∈ a ↔ x ∈ b) → a = b
  | [], [], _, _, _ => rfl
  | [], y :: b, _, _, h => by have := (h y).mpr List.mem_cons_self; simp at this
  | x :: a, [], _, _, h => by have := (h x).mp List.mem_cons_self; simp at this
  | x :: a, y :: b, ha, hb, h => by
    rw [List.pairwise_cons] at ha hb
    have e : x = y := by
      have h1 := (h x).mp List.mem_cons_self
      have h2 := (h y).mpr List.mem_cons_self
      rcases List.mem_cons.mp h1 with e | h1
      · exact e
      · rcases List.mem_cons.mp h2 with e | h2
        · exact e.symm
        · have := ha.1 y h2; have := hb.1 x h1; omega
    subst e
    rw [rising_eq ha.2 hb.2 fun z => ?_]
    constructor
    · intro hz
      rcases List.mem_cons.mp ((h z).mp (List.mem_cons_of_mem _ hz)) with e | hz'
      · subst e; exact absurd (ha.1 z hz) (Nat.lt_irrefl _)
      · exact hz'
    · intro hz
      rcases List.mem_cons.mp ((h z).mpr (List.mem_cons_of_mem _ hz)) with e | hz'
      · subst e; exact absurd (hb.1 z hz) (Nat.lt_irrefl _)
      · exact hz'
theorem two_in {ns : List Nat} (h : ns.Nodup) {n : Nat} (hn : n ∈ ns) (hne : ns ≠ [n]) : ∃ m, m ≠ n ∧ m ∈ ns := by
  match ns, h, hn, hne with
  | [a], _, hn, hne =>
    have : n = a := by simpa using hn
    subst this
    exact absurd rfl hne
  | a :: b :: l, h, hn, _ =>
    by_cases e : a = n
    · refine ⟨b, fun z => ?_, by simp⟩
      rw [List.nodup_cons] at h
      exact h.1 (by rw [e, ← z]; simp)
    · exact ⟨a, e, by simp⟩
theorem ord_out {E : List (List Nat)} {S : Nat → Prop} (hS : Stays E S) (out : Nat → Prop) : ∀ (ord : List (Nat × Nat)), (∀ x ∈ ord, RE E x.1 x.2) → (∀ x ∈ ord, ∀ m, (∀ y ∈ ord, y.1 ≠ m) → S m → ¬ RE E m x.2) → ord.Pairwise (fun x y => ¬ RE E y.1 x.2) → ∀ x ∈ ord, ¬ S x.1
  | [], _, _, _ => fun x hx => by simp at hx
  | z :: ord, ok, al, pw => by
    rw [List.pairwise_cons] at pw
    have hz : ¬ S z.1 := fun h => by
      obtain ⟨m, h1, h2, h3⟩ := (hS _ h).2 z.2 (ok z List.mem_cons_self)
      by_cases hm : ∀ y ∈ z :: ord, y.1 ≠ m
      · exact al z List.mem_cons_self m hm h2 h3
      · apply hm
        intro y hy e
        rcases List.mem_cons.mp hy with rfl | hy
        · exact h1 e.symm
        · exact pw.1 y hy (e ▸ h3)
    intro x hx
    rcases List.mem_cons.mp hx with rfl | hx
    · exact hz
    · refine ord_out hS out ord (fun y hy => ok y (List.mem_cons_of_mem _ hy)) (fun y hy m hm hs => al y (List.mem_cons_of_mem _ hy) m (fun w hw e => ?_) hs) pw.2 x hx
      rcases List.mem_cons.mp hw with rfl | hw
      · exact hz (e ▸ hs)
      · exact hm w hw e
theorem left_core {E : List (List Nat)} {st : St1} {ord : List (Nat × Nat)} (h : Peel E st ord) (hc : ∀ q m, lkS st q ≠ some [m]) : leftN E ord = coreL E := by
  refine rising_eq (List.Pairwise.filter _ List.pairwise_lt_range) (coreL_pw E) fun n => ?_
  rw [mem_coreL]
  unfold leftN
  rw [List.mem_filter, List.mem_range, decide_eq_true_iff]
  constructor
  · intro hn
    refine ⟨fun n => n < E.length ∧ n ∉ ord.map (·.1), fun n hn => ⟨hn.1, fun p hp => ?_⟩, hn⟩
    obtain ⟨ns, e⟩ := Option.isSome_iff_exists.mp (h.keys n p hp)
    obtain ⟨h1, h2⟩ := h.rep.at_ p ns e
    obtain ⟨m, m1, m2⟩ := two_in h1 ((h2 n).mpr ⟨hp, hn.2⟩) fun z => hc p n (z ▸ e)
    have := (h2 m).mp m2
    exact ⟨m, m1, ⟨this.1.lt, this.2⟩, this.1⟩
  · rintro ⟨S, hS, hn⟩
    refine ⟨(hS n hn).1, fun hm => ?_⟩
    obtain ⟨x, hx, rfl⟩ := List.mem_map.mp hm
    refine ord_out hS (fun _ => True) ord h.ok (fun x hx m hm _ => h.alone x hx m fun z => ?_) h.pw x hx hn
    obtain ⟨y, hy, e⟩ := List.mem_map.mp z
    exact hm y hy e
structure Some1 (E E' : List (List Nat)) (O : List Nat) : Prop where
  nd : O.Nodup
  len : E'.length = O.length
  re : ∀ i p, RE E' i p ↔ ∃ n, O[i]? = some n ∧ RE E n p
theorem Some1.inj {E E' : List (List Nat)} {O : List Nat} (h : Some1 E E' O) {i j n : Nat} (hi : O[i]? = some n) (hj : O[j]? = some n) : i = j := by
  obtain ⟨h1, h2⟩ := List.getElem?_eq_some_iff.mp hi
  obtain ⟨h3, h4⟩ := List.getElem?_eq_some_iff.mp hj
  refine Decidable.byContradiction fun z => ?_
  have := List.pairwise_iff_getElem.mp h.nd
  rcases Nat.lt_or_gt_of_ne z with z | z
  · exact this i j h1 h3 z (h2.trans h4.symm)
  · exact this j i h3 h1 z (h4.trans h2.symm)
end My

namespace My
theorem RE_getD {E : List (List Nat)} {n p : Nat} : RE E n p ↔ p ∈ E.getD n [] := by
  unfold RE
  rw [List.getD_eq_getElem?_getD]
  cases h : E[n]? with
  | none => simp
  | some e => simp
theorem getD_some {O : List Nat} {i : Nat} (h : i < O.length) : O[i]? = some (O.getD i 0) := by
  rw [List.getD_eq_getElem?_getD, List.getElem?_eq_getElem h]; rfl
noncomputable def cntAt (E : List (List Nat)) (L : List Nat) (p : Nat) : Nat := (L.filter fun m => decide (p ∈ E.getD m [])).length
theorem cnt_two {L : List Nat} {q : Nat → Bool} {n m : Nat} (hn : n ∈ L) (qn : q n = true) (hm : m ∈ L) (qm : q m = true) (hne : m ≠ n) : 1 < (L.filter q).length := by
  have h1 : n ∈ L.filter q := List.mem_filter.mpr ⟨hn, qn⟩
  have h2 : m ∈ L.filter q := List.mem_filter.mpr ⟨hm, qm⟩
  match e : L.filter q, h1, h2 with
  | [a], h1, h2 =>
    have e1 : n = a := by simpa using h1
    have e2 : m = a := by simpa using h2
    exact absurd (e2.trans e1.symm) hne
  | _ :: _ :: _, _, _ => simp
end My

namespace My
open PySem L2 L3
theorem erase_map {α β : Type} (f : α → β) : ∀ (l : List α) (j : Nat), (l.map f).eraseIdx j = (l.eraseIdx j).map f
  | [], j => by simp
  | a :: l, 0 => by simp
  | a :: l, j + 1 => by simp [erase_map f l j]
theorem erase_perm {α : Type} : ∀ (l : List α) (j : Nat) (h : j < l.length), (l[j] :: l.eraseIdx j).Perm l
  | [], j, h => absurd h (Nat.not_lt_zero _)
  | a :: l, 0, h => by simp
  | a :: l, j + 1, h => by
    have := erase_perm l j (by simpa using h)
    simp only [List.getElem_cons_succ, List.eraseIdx_cons_succ]
    exact (List.Perm.swap _ _ _).trans (List.Perm.cons a this)
theorem edge_eq (c size : Int) (h1 : 1 ≤ size) (h2 : size ≤ 40) : ∃ ps : List Nat, F_law_edge [.int c, .int size] = .ok (.sh (eT ps)) ∧ ps.Nodup ∧ ps ≠ [] ∧ ps.length ≤ 4 := by
  obtain ⟨S, rfl⟩ : ∃ S : Nat, size = (S : Int) := ⟨size.toNat, by omega⟩
  have hm : 0 < min (4 : Int) (S : Int) := by omega
  have b0 := Int.emod_nonneg c (show min (4 : Int) (S : Int) ≠ 0 by omega)
  have b1 := Int.emod_lt_of_pos c hm
  obtain ⟨M, hM⟩ : ∃ M : Nat, 1 + c % min (4 : Int) (S : Int) = (M : Int) := ⟨(1 + c % min (4 : Int) (S : Int)).toNat, by omega⟩
  have m1 : 1 ≤ M := by omega
  have m4 : M ≤ 4 := by omega
  have mS : M ≤ S := by omega
  have t1 : sSet 2 [1] (eRng rng1 (aCons (eVar 1) aNil)) (start3 6 [.int c, .int (S : Int)]) = .nx [.sh (.int c), .sh (.int (S : Int)), .ow (.lst (zi (List.range S))), .no, .no, .no] := by
    simp only [L3.evs, Nat.reduceAdd, Nat.reduceSub, Nat.reduceLeDiff, ↓reduceIte, reduceCtorEq, eRng, rng1_ok (show -4611686018427387903 ≤ (S : Int) by omega) (by omega), Int.toNat_natCast, nat_range, zi_len, List.length_range, show S ≤ 16777216 by omega]
  have t2 : sSet 3 [0, 1] (eOp addD (eC (.int 1)) (eOp modD (eVar 0) (eCall minD (aCons (eC (.int 4)) (aCons (eVar 1) aNil))))) [.sh (.int c), .sh (.int (S : Int)), .ow (.lst (zi (List.range S))), .no, .no, .no] = .nx [.sh (.int c), .sh (.int (S : Int)), .ow (.lst (zi (List.range S))), .sh (.int (M : Int)), .no, .no] := by
    simp only [L3.evs, Nat.reduceAdd, Nat.reduceSub, Nat.reduceLeDiff, ↓reduceIte, reduceCtorEq, min_ok, mod_ok hm, add_ok, hM]
  have t3 : sSet 0 [0] (eOp divD (eVar 0) (eC (.int 4))) [.sh (.int c), .sh (.int (S : Int)), .ow (.lst (zi (List.range S))), .sh (.int (M : Int)), .no, .no] = .nx [.sh (.int (c / 4)), .sh (.int (S : Int)), .ow (.lst (zi (List.range S))), .sh (.int (M : Int)), .no, .no] := by
    simp only [L3.evs, Nat.reduceAdd, Nat.reduceSub, Nat.reduceLeDiff, ↓reduceIte, reduceCtorEq, div_ok (show (0 : Int) < 4 by decide) (by decide)]
  have t4 : sSet 4 [] (eLst aNil) [.sh (.int (c / 4)), .sh (.int (S : Int)), .ow (.lst (zi (List.range S))), .sh (.int (M : Int)), .no, .no] = .nx [.sh (.int (c / 4)), .sh (.int (S : Int)), .ow (.lst (zi (List.range S))), .sh (.int (M : Int)), .ow (.lst []), .no] := rfl
  obtain ⟨Δ', e, c', ps, L, a5, p1, p2, p3, rfl⟩ := loop_ints (gV 5) b_law_edge_1 (fun k Δ => ∃ (c' : Int) (ps L : List Nat) (a5 : Sl), ps.length = k ∧ k + L.length = S ∧ (ps ++ L).Nodup ∧ Δ = [.sh (.int c'), .sh (.int (S : Int)), .ow (.lst (zi L)), .sh (.int (M : Int)), .ow (.lst (zi ps)), a5]) (n := M) (lo := 0) (Δ := [.sh (.int (c / 4)), .sh (.int (S : Int)), .ow (.lst (zi (List.range S))), .sh (.int (M : Int)), .ow (.lst []), .no])
    ⟨_, [], List.range S, _, rfl, by rw [List.length_range]; omega, by rw [List.nil_append]; exact List.nodup_range, rfl⟩ (fun k Δ hk hI => by
      obtain ⟨c', ps, L, a5, p1, p2, p3, rfl⟩ := hI
      have hL : 0 < (L.length : Int) := by omega
      have j0 := Int.emod_nonneg c' (show (L.length : Int) ≠ 0 by omega)
      have j1 := Int.emod_lt_of_pos c' hL
      obtain ⟨j, hj⟩ : ∃ j : Nat, c' % (L.length : Int) = (j : Int) := ⟨(c' % (L.length : Int)).toNat, by omega⟩
      have hjl : j < L.length := by omega
      have s1 : sAppPop 4 2 (eOp modD (eVar 0) (eCall lenD (aCons (eVar 2) aNil))) [.sh (.int c'), .sh (.int (S : Int)), .ow (.lst (zi L)), .sh (.int (M : Int)), .ow (.lst (zi ps)), .sh (.int (0 + (k : Int)))] = .nx [.sh (.int c'), .sh (.int (S : Int)), .ow (.lst (zi (L.eraseIdx j))), .sh (.int (M : Int)), .ow (.lst (zi (ps ++ [L[j]]))), .sh (.int (0 + (k : Int)))] := by
        have g1 : (zi L)[j]? = some (.int ((L[j] : Nat) : Int)) := by unfold zi; rw [List.getElem?_map, List.getElem?_eq_getElem hjl]; rfl
        have g2 : (zi L).eraseIdx j = zi (L.eraseIdx j) := by unfold zi; rw [erase_map]
        have g3 : zi ps ++ [.int ((L[j] : Nat) : Int)] = zi (ps ++ [L[j]]) := by unfold zi; rw [List.map_append]; rfl
        have g4 : (0 : Int) ≤ (j : Int) ∧ (j : Int) < (L.length : Int) ∧ L.length ≤ 16777216 := by omega
        simp only [sAppPop, L3.evs, Nat.reduceAdd, Nat.reduceSub, Nat.reduceLeDiff, ↓reduceIte, reduceCtorEq, len_lst, zi_len, mod_ok hL, hj, show ps.length < 16777216 by omega, g4, Int.toNat_natCast, g1, g2, g3, and_self, show (4 : Nat) ≠ 2 by decide]
      have s2 : sSet 0 [0] (eOp divD (eVar 0) (eC (.int 40))) [.sh (.int c'), .sh (.int (S : Int)), .ow (.lst (zi (L.eraseIdx j))), .sh (.int (M : Int)), .ow (.lst (zi (ps ++ [L[j]]))), .sh (.int (0 + (k : Int)))] = .nx [.sh (.int (c' / 40)), .sh (.int (S : Int)), .ow (.lst (zi (L.eraseIdx j))), .sh (.int (M : Int)), .ow (.lst (zi (ps ++ [L[j]]))), .sh (.int (0 + (k : Int)))] := by
        simp only [L3.evs, Nat.reduceAdd, Nat.reduceSub, Nat.reduceLeDiff, ↓reduceIte, reduceCtorEq, div_ok (show (0 : Int) < 40 by decide) (by decide)]
      refine ⟨_, rfl, _, .inl ((L3.seq_nx s1).trans s2), _, _, _, _, by rw [List.length_append, p1]; rfl, by rw [List.length_eraseIdx_of_lt hjl]; omega, ?_, rfl⟩
      have hp : (ps ++ [L[j]] ++ L.eraseIdx j).Perm (ps ++ L) := by
        rw [List.append_assoc]
        refine List.Perm.append_left ps ?_
        exact erase_perm L j hjl
      exact hp.nodup_iff.mpr p3)
  refine ⟨ps, ?_, (List.nodup_append.mp p3).1, fun z => by rw [z] at p1; simp at p1; omega, by omega⟩
  have t5 : sFor [3] (iArgs rng1 (aCons (eVar 3) aNil)) (gV 5) b_law_edge_1 [.sh (.int (c / 4)), .sh (.int (S : Int)), .ow (.lst (zi (List.range S))), .sh (.int (M : Int)), .ow (.lst []), .no] = .nx [.sh (.int c'), .sh (.int (S : Int)), .ow (.lst (zi L)), .sh (.int (M : Int)), .ow (.lst (zi ps)), a5] := by
    have e1 : iArgs rng1 (aCons (eVar 3) aNil) (vsh [.sh (.int (c / 4)), .sh (.int (S : Int)), .ow (.lst (zi (List.range S))), .sh (.int (M : Int)), .ow (.lst []), .no]) = .ok (zints 0 M) := by
      simp only [L3.evs, Nat.reduceAdd, Nat.reduceSub, Nat.reduceLeDiff, ↓reduceIte, reduceCtorEq, rng1_ok (show -4611686018427387903 ≤ (M : Int) by omega) (by omega), Int.toNat_natCast]
    unfold sFor
    rw [e1]
    exact e
  refine body_rt ?_
  unfold g_law_edge
  rw [L3.seq_nx t1, L3.seq_nx t2, L3.seq_nx t3, L3.seq_nx t4, L3.seq_nx t5]
  rfl
theorem size_eq (c : Int) : ∃ z : Int, F_law_size [.int c] = .ok (.sh (.int z)) ∧ 1 ≤ z ∧ z ≤ 40 := by
  have h3 := Int.emod_nonneg c (show (3 : Int) ≠ 0 by decide)
  have h4 := Int.emod_lt_of_pos c (show (0 : Int) < 3 by decide)
  have b8 := Int.emod_nonneg (c / 3) (show (8 : Int) ≠ 0 by decide)
  have b8' := Int.emod_lt_of_pos (c / 3) (show (0 : Int) < 8 by decide)
  have b40 := Int.emod_nonneg (c / 3) (show (40 : Int) ≠ 0 by decide)
  have b40' := Int.emod_lt_of_pos (c / 3) (show (0 : Int) < 40 by decide)
  have b20 := Int.emod_nonneg (c / 3) (show (20 : Int) ≠ 0 by decide)
  have b20' := Int.emod_lt_of_pos (c / 3) (show (0 : Int) < 20 by decide)
  have ev : ∀ z : Int, ixD (.lst [.int (1 + c / 3 % 8), .int (1 + c / 3 % 40), .int (1 + c / 3 % 20)]) (.int (c % 3)) = .ok (.sh (.int z)) → F_law_size [.int c] = .ok (.sh (.int z)) := fun z hz => by
    simp only [F_law_size, g_law_size, L3.evs, Nat.reduceAdd, Nat.reduceSub, Nat.reduceLeDiff, ↓reduceIte, reduceCtorEq, div_ok (show (0 : Int) < 3 by decide) (by decide), mod_ok (show (0 : Int) < 8 by decide), mod_ok (show (0 : Int) < 40 by decide), mod_ok (show (0 : Int) < 20 by decide), mod_ok (show (0 : Int) < 3 by decide), add_ok, hz]
  have cs : c % 3 = 0 ∨ c % 3 = 1 ∨ c % 3 = 2 := by omega
  rcases cs with h | h | h
  · exact ⟨1 + c / 3 % 8, ev _ (by rw [h]; rfl), by omega, by omega⟩
  · exact ⟨1 + c / 3 % 40, ev _ (by rw [h]; rfl), by omega, by omega⟩
  · exact ⟨1 + c / 3 % 20, ev _ (by rw [h]; rfl), by omega, by omega⟩
end My

namespace My
open PySem L2 L3
theorem find_map_put {α : Type} (k k' : Key) (v : α) : ∀ (kvs : List (Key × α)), ((kvs.map fun kv => if kv.1 = k then (kv.1, v) else kv).find? fun kv => decide (kv.1 = k')).map (·.2) = if k' = k then (kvs.find? fun kv => decide (kv.1 = k')).map (fun _ => v) else (kvs.find? fun kv => decide (kv.1 = k')).map (·.2)
  | [] => by simp
  | x :: r => by
    have ih := find_map_put k k' v r
    rw [List.map_cons]
    by_cases hx : x.1 = k
    · by_cases hk : k' = k
      · subst hk; simp [hx]
      · have n1 : ¬ x.1 = k' := fun z => hk (z.symm.trans hx)
        rw [if_pos hx, List.find?_cons_of_neg (by simpa using n1), List.find?_cons_of_neg (by simpa using n1)]
        exact ih
    · rw [if_neg hx]
      by_cases h2 : x.1 = k'
      · have : ¬ k' = k := fun z => hx (h2.trans z)
        rw [if_neg this, List.find?_cons_of_pos (by simpa using h2), List.find?_cons_of_pos (by simpa using h2)]
      · rw [List.find?_cons_of_neg (by simpa using h2), List.find?_cons_of_neg (by simpa using h2)]
        exact ih
theorem valA_put {α : Type} (kvs : List (Key × α)) (k : Key) (v : α) (k' : Key) : valA (putA kvs k v) k' = if k' = k then some v else valA kvs k' := by
  unfold putA valA
  by_cases h : (kvs.any fun kv => decide (kv.1 = k)) = true
  · rw [if_pos h, find_map_put]
    by_cases hk : k' = k
    · subst hk
      rw [if_pos rfl, if_pos rfl]
      obtain ⟨x, hx, h1⟩ := List.any_eq_true.mp h
      cases e : kvs.find? fun kv => decide (kv.1 = k') with
      | none => exact absurd h1 (List.find?_eq_none.mp e x hx)
      | some y => rfl
    · rw [if_neg hk, if_neg hk]
  · rw [if_neg h, List.find?_append]
    have hn : kvs.find? (fun kv => decide (kv.1 = k)) = none := by
      refine List.find?_eq_none.mpr fun x hx z => h (List.any_eq_true.mpr ⟨x, hx, z⟩)
    by_cases hk : k' = k
    · subst hk
      rw [hn, if_pos rfl]
      simp
    · rw [if_neg hk]
      have hk2 : ¬ k = k' := fun z => hk z.symm
      have : ([(k, v)] : List (Key × α)).find? (fun kv => decide (kv.1 = k')) = none := by simp [hk2]
      rw [this, Option.or_none]
theorem put_len {α : Type} (kvs : List (Key × α)) (k : Key) (v : α) : (putA kvs k v).length ≤ kvs.length + 1 := by
  unfold putA
  split
  · rw [List.length_map]; omega
  · rw [List.length_append]; simp
noncomputable def cv (c : Nat) : Option D := if c = 0 then none else some (.int (c : Int))
noncomputable def CD (kvs : List (Key × D)) (C : Nat → Nat) : Prop := (∀ p : Nat, valA kvs (kp p) = cv (C p)) ∧ ∀ x ∈ kvs, ∃ p : Nat, x.1 = kp p
theorem put_kp {kvs : List (Key × D)} (h : ∀ x ∈ kvs, ∃ p : Nat, x.1 = kp p) (p : Nat) (v : D) : ∀ x ∈ putA kvs (kp p) v, ∃ p : Nat, x.1 = kp p := fun x hx => by
  unfold putA at hx
  split at hx
  · obtain ⟨y, hy, rfl⟩ := List.mem_map.mp hx
    split
    · exact h y hy
    · exact h y hy
  · rcases List.mem_append.mp hx with hx | hx
    · exact h x hx
    · rw [show x = (kp p, v) by simpa using hx]; exact ⟨p, rfl⟩
theorem count_one {kvs : List (Key × D)} {C : Nat → Nat} (h : CD kvs C) (hl : kvs.length < 1000) (a0 a1 a3 : Sl) (p : Nat) : b_law_counts_1 [a0, a1, .ow (.dic kvs), a3, .sh (.int (p : Int))] = .nx [a0, a1, .ow (.dic (putA kvs (kp p) (.int ((C p + 1 : Nat) : Int)))), a3, .sh (.int (p : Int))] := by
  have hk : keyD (.int (p : Int)) = some (kp p) := rfl
  have hg : get2D kvs (.int (p : Int)) (.int 0) = .ok (.sh (.int (C p : Int))) := by
    unfold get2D
    rw [hk]
    show (match valA kvs (kp p) with | some x => R.ok (W.sh x) | none => R.ok (W.sh (.int 0))) = _
    rw [h.1 p]
    unfold cv
    by_cases hc : C p = 0
    · rw [if_pos hc, hc]; rfl
    · rw [if_neg hc]
  simp only [b_law_counts_1, sPutG, L3.evs, Nat.reduceAdd, Nat.reduceSub, Nat.reduceLeDiff, ↓reduceIte, reduceCtorEq, eGet2, hg, add_ok, hk, show kvs.length < 16777216 by omega, Int.natCast_add, Int.cast_ofNat_Int]
theorem count_edge {kvs : List (Key × D)} {C : Nat → Nat} (h : CD kvs C) (E : List (List Nat)) (a1 a4 : Sl) (n : Nat) (ps : List Nat) (he : E[n]? = some ps) (hl : kvs.length + ps.length < 1000) :
    ∃ kvs' a4', CD kvs' (fun p => C p + ps.count p) ∧ kvs'.length ≤ kvs.length + ps.length ∧ b_law_counts_2 [.sh (.lst (eL E)), a1, .ow (.dic kvs), .sh (.int (n : Int)), a4] = .nx [.sh (.lst (eL E)), a1, .ow (.dic kvs'), .sh (.int (n : Int)), a4'] := by
  obtain ⟨Δ', e, kvs', a4', r, l, rfl⟩ := loop_list (gV 4) b_law_counts_1 (fun k Δ => ∃ kvs' a4', CD kvs' (fun p => C p + (ps.take k).count p) ∧ kvs'.length ≤ kvs.length + k ∧ Δ = [.sh (.lst (eL E)), a1, .ow (.dic kvs'), .sh (.int (n : Int)), a4']) (ds := zi ps) (Δ := [.sh (.lst (eL E)), a1, .ow (.dic kvs), .sh (.int (n : Int)), a4])
    ⟨kvs, a4, ⟨fun p => by simpa using h.1 p, h.2⟩, by omega, rfl⟩ (fun k d Δ hd hI => by
      obtain ⟨kvs', a4', r, l, rfl⟩ := hI
      obtain ⟨p, hp, rfl⟩ := zi_get hd
      have hk : k < ps.length := (List.getElem?_eq_some_iff.mp hp).1
      refine ⟨_, rfl, _, .inl (count_one r (by omega) _ _ _ p), _, _, ⟨fun q => ?_, put_kp r.2 _ _⟩, ?_, rfl⟩
      · rw [valA_put, List.take_add_one, hp]
        simp only [Option.toList_some, List.count_append]
        by_cases hq : q = p
        · subst hq
          rw [if_pos rfl]
          have : List.count q [q] = 1 := by simp
          unfold cv
          rw [this, if_neg (by omega), Nat.add_assoc]
        · rw [if_neg fun z => hq (kp_inj.mp z), r.1 q]
          have : List.count q [p] = 0 := by
            rw [List.count_eq_zero]
            simpa using hq
          rw [this, Nat.add_zero]
      · have := put_len kvs' (kp p) (.int ((C p + (ps.take k).count p + 1 : Nat) : Int)); omega)
  rw [zi_len] at r l
  rw [List.take_length] at r
  refine ⟨kvs', a4', r, l, ?_⟩
  have e1 : iOf (eOp ixD (eVar 0) (eVar 3)) (vsh [.sh (.lst (eL E)), a1, .ow (.dic kvs), .sh (.int (n : Int)), a4]) = .ok (zi ps) := by
    have : atI (eL E) (n : Int) = some (eT ps) := atI_n (eL_at he)
    simp only [L3.evs, Nat.reduceAdd, Nat.reduceSub, Nat.reduceLeDiff, ↓reduceIte, reduceCtorEq, ix_lst this]
    rfl
  unfold b_law_counts_2 sFor
  rw [e1]
  exact e
noncomputable def cntC (E : List (List Nat)) (L : List Nat) (p : Nat) : Nat := (L.map fun n => (E.getD n []).count p).sum
theorem counts_eq (E : List (List Nat)) (L : List Nat) (hL : ∀ n ∈ L, n < E.length) (h4 : ∀ e ∈ E, e.length ≤ 4) (hb : L.length ≤ 60) : ∃ kvs, CD kvs (cntC E L) ∧ kvs.length ≤ 240 ∧ F_law_counts [.lst (eL E), .lst (zi L)] = .ok (.ow (.dic kvs)) := by
  obtain ⟨Δ', e, kvs, a3, a4, r, l, rfl⟩ := loop_list (gV 3) b_law_counts_2 (fun k Δ => ∃ kvs a3 a4, CD kvs (cntC E (L.take k)) ∧ kvs.length ≤ 4 * k ∧ Δ = [.sh (.lst (eL E)), .sh (.lst (zi L)), .ow (.dic kvs), a3, a4]) (ds := zi L) (Δ := [.sh (.lst (eL E)), .sh (.lst (zi L)), .ow (.dic []), .no, .no])
    ⟨[], _, _, ⟨fun p => by simp [cntC, cv, valA], fun x hx => by simp at hx⟩, by simp, rfl⟩ (fun k d Δ hd hI => by
      obtain ⟨kvs, a3, a4, r, l, rfl⟩ := hI
      obtain ⟨n, hn, rfl⟩ := zi_get hd
      have hk : k < L.length := (List.getElem?_eq_some_iff.mp hn).1
      have hnE := hL n (List.mem_of_getElem? hn)
      have he : E[n]? = some (E.getD n []) := by rw [List.getD_eq_getElem?_getD, List.getElem?_eq_getElem hnE]; rfl
      have h5 := h4 _ (List.mem_of_getElem? he)
      obtain ⟨kvs', a4', r', l', e'⟩ := count_edge r E (.sh (.lst (zi L))) a4 n _ he (by omega)
      refine ⟨_, rfl, _, .inl e', kvs', _, a4', ⟨fun p => ?_, r'.2⟩, by omega, rfl⟩
      rw [r'.1 p]
      unfold cntC
      rw [List.take_add_one, hn]
      simp [List.sum_append])
  rw [zi_len] at r
  rw [List.take_length] at r
  refine ⟨kvs, r, by rw [zi_len] at l; omega, body_rt ?_⟩
  have t0 : sSet 2 [] eDic0 (start3 5 [.lst (eL E), .lst (zi L)]) = .nx [.sh (.lst (eL E)), .sh (.lst (zi L)), .ow (.dic []), .no, .no] := rfl
  have t1 : sFor [1] (iOf (eVar 1)) (gV 3) b_law_counts_2 [.sh (.lst (eL E)), .sh (.lst (zi L)), .ow (.dic []), .no, .no] = .nx [.sh (.lst (eL E)), .sh (.lst (zi L)), .ow (.dic kvs), a3, a4] := by
    have e1 : iOf (eVar 1) (vsh [.sh (.lst (eL E)), .sh (.lst (zi L)), .ow (.dic []), .no, .no]) = .ok (zi L) := rfl
    unfold sFor
    rw [e1]
    exact e
  unfold g_law_counts
  rw [L3.seq_nx t0, L3.seq_nx t1]
  rfl
theorem cntC_eq {E : List (List Nat)} (hd : ∀ e ∈ E, e.Nodup) (p : Nat) : ∀ L : List Nat, cntC E L p = cntAt E L p
  | [] => rfl
  | n :: L => by
    have ih := cntC_eq hd p L
    have hn : (E.getD n []).Nodup := by
      rw [List.getD_eq_getElem?_getD]
      cases h : E[n]? with
      | none => simp
      | some e => exact hd e (List.mem_of_getElem? h)
    have : cntC E (n :: L) p = (E.getD n []).count p + cntC E L p := by simp [cntC]
    rw [this, ih, hn.count]
    unfold cntAt
    by_cases h : p ∈ E.getD n []
    · rw [if_pos h, List.filter_cons_of_pos (by simpa using h), List.length_cons]; omega
    · rw [if_neg h, List.filter_cons_of_neg (by simpa using h)]; omega
end My

namespace My
open PySem L2 L3
theorem zi_ints (l : List Nat) : zi l = (l.map fun (i : Nat) => (i : Int)).map .int := by unfold zi; rw [List.map_map]; rfl
theorem ok_zi (l : List Nat) : okD 1 (.lst (zi l)) = true := by
  show (zi l).all (okD 0) = true
  unfold zi
  exact okD_ints 0 (fun (p : Nat) => (p : Int)) l
theorem eq_zi (l : List Nat) : eqD (.lst (zi l)) (.lst (zi l)) = .ok (.sh (.bl true)) := eqD_self 1 (ok_zi l)
theorem mem_zi (n : Nat) (l : List Nat) : memD (.int (n : Int)) (zi l) = decide (n ∈ l) := by
  unfold memD zi
  rw [List.any_map, Bool.eq_iff_iff, List.any_eq_true, decide_eq_true_iff]
  constructor
  · rintro ⟨m, hm, h⟩
    have : ((m : Nat) : Int) = (n : Int) := by
      have h' : ((m : Int) == (n : Int)) = true := h
      exact eq_of_beq h'
    have : m = n := by omega
    exact this ▸ hm
  · intro h
    exact ⟨n, h, show ((n : Int) == (n : Int)) = true from beq_self_eq_true _⟩
theorem flat_zi (l : List Nat) : (zi l).all flatD = true := by
  unfold zi
  rw [List.all_map, List.all_eq_true]
  intro x _
  rfl
theorem in_zi (n : Nat) (l : List Nat) : inD false (.int (n : Int)) (.lst (zi l)) = .ok (.sh (.bl (decide (n ∈ l)))) := by
  have h : inD false (.int (n : Int)) (.lst (zi l)) = if (flatD (.int (n : Int)) && (zi l).all flatD) = true then .ok (.sh (.bl (memD (.int (n : Int)) (zi l)))) else .no := rfl
  rw [h, flat_zi, if_pos (show (flatD (.int (n : Int)) && true) = true from rfl), mem_zi]
theorem notin_eT (n : Nat) (l : List Nat) : inD true (.int (n : Int)) (eT l) = .ok (.sh (.bl (!decide (n ∈ l)))) := by
  have h : inD true (.int (n : Int)) (eT l) = if (flatD (.int (n : Int)) && (zi l).all flatD) = true then .ok (.sh (.bl (!memD (.int (n : Int)) (zi l)))) else .no := rfl
  rw [h, flat_zi, if_pos (show (flatD (.int (n : Int)) && true) = true from rfl), mem_zi]
theorem eL_ix {E : List (List Nat)} {n : Nat} (h : n < E.length) : ixD (.lst (eL E)) (.int (n : Int)) = .ok (.sh (eT (E.getD n []))) := by
  have he : E[n]? = some (E.getD n []) := by rw [List.getD_eq_getElem?_getD, List.getElem?_eq_getElem h]; rfl
  exact ix_lst (atI_n (eL_at he))
theorem sort_zi {l r : List Nat} (hp : l.Perm r) (hr : r.Pairwise (· < ·)) (hl : l.length < 64) : sortL [.lst (zi l)] = .ok (.ow (.lst (zi r))) := by
  have h1 : intsD (zi l) = some (l.map fun (p : Nat) => (p : Int)) := intsD_map (fun (p : Nat) => (p : Int)) l
  have h2 : sortZ (l.map fun (p : Nat) => (p : Int)) = r.map fun (p : Nat) => (p : Int) := by
    refine sortZ_eq (hp.map _).symm ?_
    rw [List.pairwise_map]
    exact hr.imp fun h => by omega
  simp only [sortL, h1, List.length_map, hl, if_true, h2]
  unfold zi
  rw [List.map_map]
  rfl
theorem sortset_zi {l : List Nat} (hr : l.Pairwise (· < ·)) (hl : l.length < 64) : sortSetD (.lst (zi l)) = .ok (.ow (.lst (zi l))) := by
  have h1 : intsD (zi l) = some (l.map fun (p : Nat) => (p : Int)) := intsD_map (fun (p : Nat) => (p : Int)) l
  have h2 : (l.map fun (p : Nat) => (p : Int)).Pairwise (· < ·) := by
    rw [List.pairwise_map]
    exact hr.imp fun h => by omega
  unfold sortSetD
  simp only [h1]
  rw [if_pos ⟨by rw [List.length_map]; exact hl, h2⟩, ← zi_ints]
theorem whole_z (i : Int) : F_law_whole [.int i] = .ok (.sh (.bl true)) := by
  simp only [F_law_whole, g_law_whole, L3.evs, Nat.reduceAdd, Nat.reduceSub, Nat.reduceLeDiff, ↓reduceIte, reduceCtorEq]
structure Edges (E : List (List Nat)) : Prop where
  nd : ∀ e ∈ E, e.Nodup
  four : ∀ e ∈ E, e.length ≤ 4
  len : E.length ≤ 60
theorem Edges.nodup {E : List (List Nat)} (h : Edges E) (n : Nat) : (E.getD n []).Nodup := by
  rw [List.getD_eq_getElem?_getD]
  cases q : E[n]? with
  | none => simp
  | some e => exact h.nd e (List.mem_of_getElem? q)
theorem find_key {kvs : List (Key × D)} {x : Key × D} (h : x ∈ kvs) : ∃ d, valA kvs x.1 = some d := by
  unfold valA
  cases e : kvs.find? fun kv => decide (kv.1 = x.1) with
  | none => exact absurd (List.find?_eq_none.mp e x h) (by simp)
  | some y => exact ⟨y.2, rfl⟩
theorem core_ok {E : List (List Nat)} (hE : Edges E) {L : List Nat} (hr : L.Pairwise (· < ·)) (hL : ∀ n ∈ L, n < E.length) (h2 : ∀ p, cntC E L p ≠ 1) : F_law_core [.lst (zi L), .lst (eL E)] = .ok (.sh (.bl true)) := by
  have h60 := hE.len
  have hl : L.length ≤ 60 := Nat.le_trans (few (hr.imp fun h => Nat.ne_of_lt h) hL) h60
  obtain ⟨kvs, ⟨cd1, cd2⟩, hk, ec⟩ := counts_eq E L hL hE.four hl
  obtain ⟨Δ', e, a2, rfl⟩ := loop_list (gV 2) b_law_core_1 (fun k Δ => ∃ a2, Δ = [.sh (.lst (zi L)), .sh (.lst (eL E)), a2, .no]) (ds := zi L) (Δ := [.sh (.lst (zi L)), .sh (.lst (eL E)), .no, .no]) ⟨_, rfl⟩ (fun k d Δ hd hI => by
    obtain ⟨a2, rfl⟩ := hI
    obtain ⟨n, hn, rfl⟩ := zi_get hd
    have hlt := hL n (List.mem_of_getElem? hn)
    have c1 : ¬ (n : Int) < 0 := by omega
    have c2 : ¬ ((E.length : Nat) : Int) ≤ (n : Int) := by omega
    refine ⟨_, rfl, [.sh (.lst (zi L)), .sh (.lst (eL E)), .sh (.int (n : Int)), .no], .inl ?_, _, rfl⟩
    have hel : (eL E).length = E.length := by unfold eL; rw [List.length_map]
    simp only [b_law_core_1, L3.evs, Nat.reduceAdd, Nat.reduceSub, Nat.reduceLeDiff, ↓reduceIte, reduceCtorEq, whole_z, lt_ok, c1, ge_ok, len_lst, hel, c2])
  have v1 : sFor [0] (iOf (eVar 0)) (gV 2) b_law_core_1 (start3 4 [.lst (zi L), .lst (eL E)]) = .nx [.sh (.lst (zi L)), .sh (.lst (eL E)), a2, .no] := by
    show sFor [0] (iOf (eVar 0)) (gV 2) b_law_core_1 [.sh (.lst (zi L)), .sh (.lst (eL E)), .no, .no] = _
    have e1 : iOf (eVar 0) (vsh [.sh (.lst (zi L)), .sh (.lst (eL E)), .no, .no]) = .ok (zi L) := rfl
    unfold sFor
    rw [e1]
    exact e
  have v2 : sSet 3 [0, 1] (eFn 2 F_law_counts (aCons (eVar 1) (aCons (eVar 0) aNil))) [.sh (.lst (zi L)), .sh (.lst (eL E)), a2, .no] = .nx [.sh (.lst (zi L)), .sh (.lst (eL E)), a2, .ow (.dic kvs)] := by
    have : eFn 2 F_law_counts (aCons (eVar 1) (aCons (eVar 0) aNil)) (vsh [.sh (.lst (zi L)), .sh (.lst (eL E)), a2, .no]) = .ok (.ow (.dic kvs)) := ec
    unfold sSet
    rw [this]
    rfl
  have hcomp := comp_list (fg := gC 4) (p := p_law_core_1) (f := eVar 4) (δ := [some (.lst (zi L)), some (.lst (eL E)), a2.any, some (.dic kvs), none]) (fun _ => false) (fun d => d) (kvs.map fun x => kD x.1) (fun d hd => by
    obtain ⟨x, hx, rfl⟩ := List.mem_map.mp hd
    obtain ⟨p, hp⟩ := cd2 x hx
    obtain ⟨v, hv⟩ := find_key hx
    have c1 := cd1 p
    rw [hp] at hv
    rw [hv] at c1
    unfold cv at c1
    by_cases hz : cntC E L p = 0
    · rw [if_pos hz] at c1; cases c1
    · rw [if_neg hz] at c1
      cases c1
      have hne := h2 p
      have hk : kD x.1 = .int (p : Int) := by rw [hp]; rfl
      rw [hk]
      refine ⟨_, rfl, ?_, fun z => absurd z Bool.false_ne_true⟩
      have hg : getK (.dic kvs) (.int (p : Int)) = .ok (.sh (.int ((cntC E L p : Nat) : Int))) := by
        show (match valA kvs (kp p) with | some x => R.ok (W.sh x) | none => R.no) = _
        rw [hv]
      have hlt : ¬ ((cntC E L p : Nat) : Int) < 2 := by omega
      simp only [p_law_core_1, L3.evs, Nat.reduceAdd, Nat.reduceSub, Nat.reduceLeDiff, ↓reduceIte, reduceCtorEq, hg, lt_ok, hlt])
  rw [List.filter_eq_nil_iff.mpr (fun _ _ => by simp)] at hcomp
  have ek : iKeys (eVar 3) [some (.lst (zi L)), some (.lst (eL E)), a2.any, some (.dic kvs)] = .ok (kvs.map fun x => kD x.1) := rfl
  have ecm := eComp_ok (m := 1) (fi := iKeys (eVar 3)) (fg := gC 4) (p := p_law_core_1) (f := eVar 4) (δ := [some (.lst (zi L)), some (.lst (eL E)), a2.any, some (.dic kvs)]) ek (by rw [List.length_map]; omega) hcomp
  have en : eqD (.lst []) (.lst []) = .ok (.sh (.bl true)) := rfl
  refine body_rt ?_
  unfold g_law_core
  rw [L3.seq_nx v1, L3.seq_nx v2]
  simp only [L3.evs, Nat.reduceAdd, Nat.reduceSub, Nat.reduceLeDiff, ↓reduceIte, reduceCtorEq, eSortSet, sortset_zi hr (by omega), eq_zi, ecm, en]
noncomputable def un (E : List (List Nat)) (T : List Nat) : List Nat := (List.range E.length).filter fun n => decide (n ∉ T)
theorem un_next {E : List (List Nat)} {T : List Nat} {n : Nat} (hlt : n < E.length) (hn : n ∉ T) (p : Nat) : cntC E (un E T) p = cntC E (un E (T ++ [n])) p + (E.getD n []).count p := by
  unfold cntC un
  rw [sum_filter_drop (f := fun n => (E.getD n []).count p) (n := n) (Q := fun m => decide (m ∉ T ++ [n])) List.nodup_range (List.mem_range.mpr hlt) (by simpa using hn) (by simp) fun m hm => by simp [hm]]
theorem sum_zero : ∀ {l : List Nat} {f : Nat → Nat}, (∀ m ∈ l, f m = 0) → (l.map f).sum = 0
  | [], _, _ => rfl
  | a :: l, f, h => by
    rw [List.map_cons, List.sum_cons, h a (by simp), sum_zero fun m hm => h m (List.mem_cons_of_mem _ hm)]
noncomputable def CZ (kvs : List (Key × D)) (P : Nat → Prop) (C : Nat → Int) : Prop := ∀ p, P p → valA kvs (kp p) = some (.int (C p))
theorem dec_one {kvs : List (Key × D)} {z : Int} (a0 a1 a3 a4 a6 a7 : Sl) (p : Nat) (h : valA kvs (kp p) = some (.int z)) (hl : kvs.length < 1000) : b_law_order_1 [a0, a1, .ow (.dic kvs), a3, a4, .sh (.int (p : Int)), a6, a7] = .nx [a0, a1, .ow (.dic (putA kvs (kp p) (.int (z - 1)))), a3, a4, .sh (.int (p : Int)), a6, a7] := by
  have hk : keyD (.int (p : Int)) = some (kp p) := rfl
  have hg : getK (.dic kvs) (.int (p : Int)) = .ok (.sh (.int z)) := by
    show (match valA kvs (kp p) with | some x => R.ok (W.sh x) | none => R.no) = _
    rw [h]
  simp only [b_law_order_1, sPutG, L3.evs, Nat.reduceAdd, Nat.reduceSub, Nat.reduceLeDiff, ↓reduceIte, reduceCtorEq, hg, sub_ok, hk, show kvs.length < 16777216 by omega]
theorem dec_edge {kvs : List (Key × D)} {P : Nat → Prop} {C : Nat → Int} (h : CZ kvs P C) (E : List (List Nat)) (a0 a3 a4 a5 a7 : Sl) (n : Nat) (hn : n < E.length) (hP : ∀ p ∈ E.getD n [], P p) (hl : kvs.length + (E.getD n []).length < 1000) :
    ∃ kvs' a5', CZ kvs' P (fun p => C p - ((E.getD n []).count p : Int)) ∧ kvs'.length ≤ kvs.length + (E.getD n []).length ∧
      sFor [1, 6] (iOf (eOp ixD (eVar 1) (eVar 6))) (gV 5) b_law_order_1 [a0, .sh (.lst (eL E)), .ow (.dic kvs), a3, a4, a5, .sh (.int (n : Int)), a7] = .nx [a0, .sh (.lst (eL E)), .ow (.dic kvs'), a3, a4, a5', .sh (.int (n : Int)), a7] := by
  generalize hps : E.getD n [] = ps at *
  obtain ⟨Δ', e, kvs', a5', r, l, rfl⟩ := loop_list (gV 5) b_law_order_1 (fun k Δ => ∃ kvs' a5', CZ kvs' P (fun p => C p - ((ps.take k).count p : Int)) ∧ kvs'.length ≤ kvs.length + k ∧ Δ = [a0, .sh (.lst (eL E)), .ow (.dic kvs'), a3, a4, a5', .sh (.int (n : Int)), a7]) (ds := zi ps) (Δ := [a0, .sh (.lst (eL E)), .ow (.dic kvs), a3, a4, a5, .sh (.int (n : Int)), a7])
    ⟨kvs, a5, fun p hp => by simpa using h p hp, by omega, rfl⟩ (fun k d Δ hd hI => by
      obtain ⟨kvs', a5', r, l, rfl⟩ := hI
      obtain ⟨p, hp, rfl⟩ := zi_get hd
      have hk : k < ps.length := (List.getElem?_eq_some_iff.mp hp).1
      refine ⟨_, rfl, _, .inl (dec_one _ _ _ _ _ _ p (r p (hP p (List.mem_of_getElem? hp))) (by omega)), _, _, fun q hq => ?_, ?_, rfl⟩
      · rw [valA_put, List.take_add_one, hp]
        simp only [Option.toList_some, List.count_append]
        by_cases hqp : q = p
        · subst hqp
          rw [if_pos rfl]
          have : List.count q [q] = 1 := by simp
          rw [this]
          congr 2
          omega
        · rw [if_neg fun z => hqp (kp_inj.mp z), r q hq]
          have : List.count q [p] = 0 := by
            rw [List.count_eq_zero]
            simpa using hqp
          rw [this, Nat.add_zero]
      · exact Nat.le_trans (put_len _ _ _) (by omega))
  rw [zi_len] at r l
  rw [List.take_length] at r
  refine ⟨kvs', a5', r, l, ?_⟩
  have e1 : iOf (eOp ixD (eVar 1) (eVar 6)) (vsh [a0, .sh (.lst (eL E)), .ow (.dic kvs), a3, a4, a5, .sh (.int (n : Int)), a7]) = .ok (zi ps) := by
    have := eL_ix hn
    rw [hps] at this
    simp only [L3.evs, Nat.reduceAdd, Nat.reduceSub, Nat.reduceLeDiff, ↓reduceIte, reduceCtorEq, this]
    rfl
  unfold sFor
  rw [e1]
  exact e
theorem order_ok {E : List (List Nat)} (hE : Edges E) {st : St1} {ord : List (Nat × Nat)} (h : Peel E st ord) : F_law_order [.lst (ordT ord), .lst (eL E)] = .ok (.ow (.lst (zi (ord.map (·.1))))) := by
  have h60 := hE.len
  have hol : ord.length ≤ 60 := by
    have := few h.nd (fun x hx => by
      obtain ⟨y, hy, rfl⟩ := List.mem_map.mp hx
      exact (h.ok y hy).lt)
    rw [List.length_map] at this
    omega
  obtain ⟨kvs0, ⟨cd1, _⟩, hk0, ec⟩ := counts_eq E (List.range E.length) (fun n hn => List.mem_range.mp hn) hE.four (by rw [List.length_range]; exact h60)
  have cnt0 : ∀ p, (∃ n, RE E n p) → cntC E (List.range E.length) p ≠ 0 := fun p ⟨n, e, h1, h2⟩ hz => by
    have hlt := (List.getElem?_eq_some_iff.mp h1).1
    have h3 : (E.getD n []).count p ≤ cntC E (List.range E.length) p := le_sum (List.mem_map.mpr ⟨n, List.mem_range.mpr hlt, rfl⟩)
    have h4 : E.getD n [] = e := by rw [List.getD_eq_getElem?_getD, h1]; rfl
    rw [h4] at h3
    have h5 := List.count_pos_iff.mpr h2
    omega
  have cz0 : CZ kvs0 (fun p => ∃ n, RE E n p) (fun p => (cntC E (un E []) p : Int)) := fun p hp => by
    have hu : un E [] = List.range E.length := by unfold un; exact List.filter_eq_self.mpr fun _ _ => by simp
    rw [cd1 p, hu]
    unfold cv
    rw [if_neg (cnt0 p hp)]
  have hel : (eL E).length = E.length := by unfold eL; rw [List.length_map]
  obtain ⟨Δ', e, kvs, a4, a5, a6, a7, r, l, rfl⟩ := loop_list (gV 4) b_law_order_2 (fun k Δ => ∃ kvs a4 a5 a6 a7, CZ kvs (fun p => ∃ n, RE E n p) (fun p => (cntC E (un E ((ord.take k).map (·.1))) p : Int)) ∧ kvs.length ≤ 240 + 4 * k ∧ Δ = [.sh (.lst (ordT ord)), .sh (.lst (eL E)), .ow (.dic kvs), .ow (.lst (zi ((ord.take k).map (·.1)))), a4, a5, a6, a7]) (ds := ordT ord)
    (Δ := [.sh (.lst (ordT ord)), .sh (.lst (eL E)), .ow (.dic kvs0), .ow (.lst []), .no, .no, .no, .no]) ⟨kvs0, _, _, _, _, cz0, by omega, rfl⟩ (fun k d Δ hd hI => by
      obtain ⟨kvs, a4, a5, a6, a7, r, l, rfl⟩ := hI
      unfold ordT at hd
      rw [List.getElem?_map] at hd
      obtain ⟨⟨n, p⟩, hx, rfl⟩ := Option.map_eq_some_iff.mp hd
      have hk : k < ord.length := (List.getElem?_eq_some_iff.mp hx).1
      have hmem : (n, p) ∈ ord := List.mem_of_getElem? hx
      have hre := h.ok _ hmem
      have hlt : n < E.length := hre.lt
      have hpn : p ∈ E.getD n [] := by
        obtain ⟨e', h1, h2⟩ := hre
        rw [List.getD_eq_getElem?_getD, h1]
        exact h2
      generalize hT : (ord.take k).map (·.1) = T at *
      have hordk : ord = ord.take k ++ (n, p) :: ord.drop (k + 1) := by
        have := List.getElem_cons_drop hk
        have hg : ord[k] = (n, p) := by rw [List.getElem?_eq_getElem hk] at hx; exact Option.some.inj hx
        rw [hg] at this
        rw [this, List.take_append_drop]
      have hnT : n ∉ T := fun z => by
        have nd := h.nd
        rw [hordk, List.map_append, List.map_cons, hT] at nd
        exact (List.nodup_append.mp nd).2.2 n z n (by simp) rfl
      
      have hone : cntC E (un E T) p = 1 := by
        rw [un_next hlt hnT p, (hE.nodup n).count, if_pos hpn]
        have : cntC E (un E (T ++ [n])) p = 0 := sum_zero fun m hm => by
          unfold un at hm
          rw [List.mem_filter, List.mem_range, decide_eq_true_iff] at hm
          rw [List.count_eq_zero]
          intro hpm
          have hrm : RE E m p := ⟨E.getD m [], by rw [List.getD_eq_getElem?_getD, List.getElem?_eq_getElem hm.1]; rfl, hpm⟩
          have hm2 : m ∉ T ∧ m ≠ n := by
            have := hm.2
            rw [List.mem_append] at this
            exact ⟨fun z => this (.inl z), fun z => this (.inr (by simp [z]))⟩
          by_cases hmo : m ∈ ord.map (·.1)
          · obtain ⟨y, hy, rfl⟩ := List.mem_map.mp hmo
            have hy2 : y ∈ ord.drop (k + 1) := by
              rw [hordk] at hy
              rcases List.mem_append.mp hy with z | z
              · exact absurd (hT ▸ List.mem_map.mpr ⟨y, z, rfl⟩) hm2.1
              · rcases List.mem_cons.mp z with z | z
                · exact absurd (by rw [z]) hm2.2
                · exact z
            have pw := h.pw
            rw [hordk] at pw
            exact (List.pairwise_cons.mp (List.pairwise_append.mp pw).2.1).1 y hy2 hrm
          · exact h.alone _ hmem m hmo hrm
        rw [this]
      have hv : valA kvs (kp p) = some (.int ((cntC E (un E T) p : Nat) : Int)) := r p ⟨n, hre⟩
      rw [hone] at hv
      have hg : getK (.dic kvs) (.int (p : Int)) = .ok (.sh (.int 1)) := by
        show (match valA kvs (kp p) with | some x => R.ok (W.sh x) | none => R.no) = _
        rw [hv]
        rfl
      have h4 : (E.getD n []).length ≤ 4 := by
        rw [List.getD_eq_getElem?_getD, List.getElem?_eq_getElem hlt]
        exact hE.four _ (List.getElem_mem hlt)
      have c1 : ¬ (n : Int) < 0 := by omega
      have c2 : ¬ ((E.length : Nat) : Int) ≤ (n : Int) := by omega
      have i1 := in_zi n T
      rw [decide_eq_false hnT] at i1
      have i2 := notin_eT p (E.getD n [])
      rw [decide_eq_true hpn] at i2
      have x0 : ixD (.tup [.int (n : Int), .int (p : Int)]) (.int 0) = .ok (.sh (.int (n : Int))) := rfl
      have x1 : ixD (.tup [.int (n : Int), .int (p : Int)]) (.int 1) = .ok (.sh (.int (p : Int))) := rfl
      have ln : lenD [.tup [.int (n : Int), .int (p : Int)]] = .ok (.sh (.int 2)) := rfl
      obtain ⟨kvs', a5', r', l', e'⟩ := dec_edge r E (.sh (.lst (ordT ord))) (.ow (.lst (zi T))) (.sh (.tup [.int (n : Int), .int (p : Int)])) a5 (.sh (.int (p : Int))) n hlt (fun q hq => ⟨n, E.getD n [], by rw [List.getD_eq_getElem?_getD, List.getElem?_eq_getElem hlt]; rfl, hq⟩) (by omega)
      let Δ1 : SE := [.sh (.lst (ordT ord)), .sh (.lst (eL E)), .ow (.dic kvs), .ow (.lst (zi T)), .sh (.tup [.int (n : Int), .int (p : Int)]), a5, a6, a7]
      let Δ2 : SE := [.sh (.lst (ordT ord)), .sh (.lst (eL E)), .ow (.dic kvs), .ow (.lst (zi T)), .sh (.tup [.int (n : Int), .int (p : Int)]), a5, .sh (.int (n : Int)), .sh (.int (p : Int))]
      have hTl : (zi T).length < 16777216 := by
        rw [zi_len, ← hT, List.length_map, List.length_take]; omega
      have hT1 : (ord.take (k + 1)).map (·.1) = T ++ [n] := by
        rw [List.take_add_one, hx, List.map_append, hT]
        rfl
      refine ⟨Δ1, rfl, [.sh (.lst (ordT ord)), .sh (.lst (eL E)), .ow (.dic kvs'), .ow (.lst (zi (T ++ [n]))), .sh (.tup [.int (n : Int), .int (p : Int)]), a5', .sh (.int (n : Int)), .sh (.int (p : Int))], .inl ?_, kvs', _, a5', _, _, fun q hq => ?_, ?_, by rw [hT1]⟩
      · unfold b_law_order_2
        have s1 : sIf [4] (tOrF (tNotF (eTruth (eIs "tuple" (eVar 4)))) (tOrF (eTest (eOp neD (eCall lenD (aCons (eVar 4) aNil)) (eC (.int 2)))) (tOrF (tNotF (eTruth (eFn 1 F_law_whole (aCons (eOp ixD (eVar 4) (eC (.int 0))) aNil)))) (tNotF (eTruth (eFn 1 F_law_whole (aCons (eOp ixD (eVar 4) (eC (.int 1))) aNil))))))) (sRet [] (eC .non)) sNil Δ1 = .nx Δ1 := by
          simp only [Δ1, L3.evs, Nat.reduceAdd, Nat.reduceSub, Nat.reduceLeDiff, ↓reduceIte, reduceCtorEq, ln, neD_int, x0, x1, whole_z]
        have s2 : sUnp (gP 6 7) [4] (eVar 4) Δ1 = .nx Δ2 := by
          simp only [Δ1, Δ2, sUnp, gP, L3.evs, Nat.reduceAdd, Nat.reduceSub, Nat.reduceLeDiff, ↓reduceIte, reduceCtorEq]
        have s3 : sIf [1, 3, 6, 7] (tOrF (eTest (eOp ltD (eVar 6) (eC (.int 0)))) (tOrF (eTest (eOp geD (eVar 6) (eCall lenD (aCons (eVar 1) aNil)))) (tOrF (eTest (eOp (inD false) (eVar 6) (eVar 3))) (eTest (eOp (inD true) (eVar 7) (eOp ixD (eVar 1) (eVar 6))))))) (sRet [] (eC .non)) sNil Δ2 = .nx Δ2 := by
          simp only [Δ2, L3.evs, Nat.reduceAdd, Nat.reduceSub, Nat.reduceLeDiff, ↓reduceIte, reduceCtorEq, lt_ok, c1, ge_ok, len_lst, hel, c2, i1, eL_ix hlt, i2]
        have s4 : sIf [2, 7] (eTest (eOp neD (eOp getK (eVar 2) (eVar 7)) (eC (.int 1)))) (sRet [] (eC .non)) sNil Δ2 = .nx Δ2 := by
          simp only [Δ2, L3.evs, Nat.reduceAdd, Nat.reduceSub, Nat.reduceLeDiff, ↓reduceIte, reduceCtorEq, hg, neD_int]
        rw [L3.seq_nx s1, L3.seq_nx s2, L3.seq_nx s3, L3.seq_nx s4, L3.seq_nx e']
        have hz : zi (T ++ [n]) = zi T ++ [.int (n : Int)] := by unfold zi; rw [List.map_append]; rfl
        simp only [sApp, L3.evs, Nat.reduceAdd, Nat.reduceSub, Nat.reduceLeDiff, ↓reduceIte, reduceCtorEq, hTl, hz]
      · rw [hT1, r' q hq]
        have := un_next hlt hnT q
        show some (D.int (((cntC E (un E T) q : Nat) : Int) - (((E.getD n []).count q : Nat) : Int))) = some (D.int ((cntC E (un E (T ++ [n])) q : Nat) : Int))
        congr 2
        omega
      · omega)
  have hol2 : (ordT ord).length = ord.length := by unfold ordT; rw [List.length_map]
  rw [hol2, List.take_length] at e
  have v1 : sSet 2 [1] (eFn 2 F_law_counts (aCons (eVar 1) (aCons (eRng rng1 (aCons (eCall lenD (aCons (eVar 1) aNil)) aNil)) aNil))) (start3 8 [.lst (ordT ord), .lst (eL E)]) = .nx [.sh (.lst (ordT ord)), .sh (.lst (eL E)), .ow (.dic kvs0), .no, .no, .no, .no, .no] := by
    have hr : rng1 [.int ((E.length : Nat) : Int)] = .ok (zi (List.range E.length)) := by
      rw [rng1_ok (by omega) (by omega), Int.toNat_natCast, nat_range]
    simp only [L3.evs, Nat.reduceAdd, Nat.reduceSub, Nat.reduceLeDiff, ↓reduceIte, reduceCtorEq, eRng, len_lst, hel, hr, zi_len, List.length_range, show E.length ≤ 16777216 by omega, ec]
  have v2 : sSet 3 [] (eLst aNil) [.sh (.lst (ordT ord)), .sh (.lst (eL E)), .ow (.dic kvs0), .no, .no, .no, .no, .no] = .nx [.sh (.lst (ordT ord)), .sh (.lst (eL E)), .ow (.dic kvs0), .ow (.lst []), .no, .no, .no, .no] := rfl
  have v3 : sFor [0] (iOf (eVar 0)) (gV 4) b_law_order_2 [.sh (.lst (ordT ord)), .sh (.lst (eL E)), .ow (.dic kvs0), .ow (.lst []), .no, .no, .no, .no] = .nx [.sh (.lst (ordT ord)), .sh (.lst (eL E)), .ow (.dic kvs), .ow (.lst (zi (ord.map (·.1)))), a4, a5, a6, a7] := by
    have e1 : iOf (eVar 0) (vsh [.sh (.lst (ordT ord)), .sh (.lst (eL E)), .ow (.dic kvs0), .ow (.lst []), .no, .no, .no, .no]) = .ok (ordT ord) := rfl
    unfold sFor
    rw [e1]
    exact e
  refine body_rt ?_
  unfold g_law_order
  rw [L3.seq_nx v1, L3.seq_nx v2, L3.seq_nx v3]
  rfl
theorem left_two {E : List (List Nat)} (hE : Edges E) {st : St1} {ord : List (Nat × Nat)} (h : Peel E st ord) (hc : ∀ q m, lkS st q ≠ some [m]) (p : Nat) : cntC E (leftN E ord) p ≠ 1 := by
  rw [left_core h hc]
  intro h1
  have hz : ¬ ∀ m ∈ coreL E, (E.getD m []).count p = 0 := fun z => by
    have : cntC E (coreL E) p = 0 := sum_zero z
    omega
  obtain ⟨n, hn⟩ := Classical.not_forall.mp hz
  obtain ⟨hn, hp⟩ := Classical.not_imp.mp hn
  have hpn : p ∈ E.getD n [] := List.count_pos_iff.mp (by omega)
  obtain ⟨m, m1, m2, m3⟩ := (core_stays E n (mem_coreL.mp hn)).2 p (RE_getD.mpr hpn)
  have := cnt_two (q := fun m => decide (p ∈ E.getD m [])) hn (by simpa using hpn) (mem_coreL.mpr m2) (by simpa using RE_getD.mp m3) m1
  rw [cntC_eq hE.nd] at h1
  unfold cntAt at h1
  omega
theorem fate_ok {E : List (List Nat)} (hE : Edges E) {st : St1} {ord : List (Nat × Nat)} (h : Peel E st ord) (hc : ∀ q m, lkS st q ≠ some [m]) : F_law_fate [.tup [.lst (ordT ord), .lst (zi (leftN E ord))], .lst (eL E)] = .ok (.sh (.bl true)) := by
  have h60 := hE.len
  have pwl : (leftN E ord).Pairwise (· < ·) := List.Pairwise.filter _ List.pairwise_lt_range
  have hll : ∀ n ∈ leftN E ord, n < E.length := fun n hn => List.mem_range.mp (List.mem_filter.mp hn).1
  have k1 := core_ok hE pwl hll (left_two hE h hc)
  have k2 := order_ok hE h
  have hperm : (ord.map (·.1) ++ leftN E ord).Perm (List.range E.length) := by
    refine (List.perm_ext_iff_of_nodup ?_ List.nodup_range).mpr fun n => ?_
    · refine List.nodup_append.mpr ⟨h.nd, pwl.imp fun h => Nat.ne_of_lt h, fun a ha b hb e => ?_⟩
      subst e
      have := (List.mem_filter.mp hb).2
      exact (of_decide_eq_true this) ha
    · rw [List.mem_append, List.mem_range]
      constructor
      · rintro (z | z)
        · obtain ⟨y, hy, rfl⟩ := List.mem_map.mp z
          exact (h.ok y hy).lt
        · exact hll n z
      · intro z
        by_cases hm : n ∈ ord.map (·.1)
        · exact .inl hm
        · exact .inr (List.mem_filter.mpr ⟨List.mem_range.mpr z, decide_eq_true hm⟩)
  have hsz : (ord.map (·.1) ++ leftN E ord).length = E.length := by rw [hperm.length_eq, List.length_range]
  have k3 := sort_zi hperm List.pairwise_lt_range (by omega)
  have x0 : ixD (.tup [.lst (ordT ord), .lst (zi (leftN E ord))]) (.int 0) = .ok (.sh (.lst (ordT ord))) := rfl
  have x1 : ixD (.tup [.lst (ordT ord), .lst (zi (leftN E ord))]) (.int 1) = .ok (.sh (.lst (zi (leftN E ord)))) := rfl
  have ln : lenD [.tup [.lst (ordT ord), .lst (zi (leftN E ord))]] = .ok (.sh (.int 2)) := rfl
  have hel : (eL E).length = E.length := by unfold eL; rw [List.length_map]
  have hr : rng1 [.int ((E.length : Nat) : Int)] = .ok (zi (List.range E.length)) := by
    rw [rng1_ok (by omega) (by omega), Int.toNat_natCast, nat_range]
  have hz : zi (ord.map (·.1)) ++ zi (leftN E ord) = zi (ord.map (·.1) ++ leftN E ord) := by unfold zi; rw [List.map_append]
  have had : addD (.lst (zi (ord.map (·.1)))) (.lst (zi (leftN E ord))) = .ok (.ow (.lst (zi (ord.map (·.1) ++ leftN E ord)))) := by
    rw [← hz]
    refine catL_ok ?_
    rw [zi_len, zi_len]
    rw [List.length_append] at hsz
    omega
  simp only [F_law_fate, g_law_fate, L3.evs, Nat.reduceAdd, Nat.reduceSub, Nat.reduceLeDiff, ↓reduceIte, reduceCtorEq, ln, neD_int, x0, x1, k1, k2, had, k3, eRng, len_lst, hel, hr, zi_len, List.length_range, show E.length ≤ 16777216 by omega, eq_zi]
end My

namespace My
open PySem L2 L3
theorem Edges.tot {E : List (List Nat)} (h : Edges E) : tot E ≤ 900 := by
  have key : ∀ l : List (List Nat), (∀ e ∈ l, e.length ≤ 4) → My.tot l ≤ 4 * l.length := fun l => by
    induction l with
    | nil => intro _; exact Nat.zero_le _
    | cons e l ih =>
      intro hl
      have h1 := hl e (by simp)
      have h2 := ih fun e he => hl e (List.mem_cons_of_mem _ he)
      have : My.tot (e :: l) = e.length + My.tot l := by unfold My.tot; rw [List.map_cons, List.sum_cons]
      rw [this, List.length_cons]
      omega
  have h1 := key E h.four
  have h2 := h.len
  omega
theorem tup2_d (a b : D) : (Tn.tup [Tn.of a, Tn.of b]).d = .tup [a, b] := by
  show D.tup [(Tn.of a).d, (Tn.of b).d] = _
  rw [Tn.of_d, Tn.of_d]
theorem unT_sh : ∀ l : List D, unT (l.map .sh) = some l
  | [] => rfl
  | x :: l => by show (unT (l.map .sh)).map (x :: ·) = _; rw [unT_sh l]; rfl
theorem of_flat (l : List D) : (Tn.of (.lst l)).flat = some l := unT_sh l
theorem ne_eL (E : List (List Nat)) : neD (.lst (eL E)) (.lst (eL E)) = .ok (.sh (.bl false)) := neD_self 2 (by
  show (eL E).all (okD 1) = true
  unfold eL
  rw [List.all_map, List.all_eq_true]
  intro e _
  show (zi e).all (okD 0) = true
  unfold zi
  exact okD_ints 0 (fun (p : Nat) => (p : Int)) e)
end My

namespace My
open PySem L2 L3
theorem law_true (ns : List Int) (hn : ns.length ≤ 63) : ∃ v, F_law [.lst (ns.map .int)] = .ok v ∧ v.d = .bl true := by
  obtain ⟨c, hc⟩ : ∃ c : Int, F_law_raw [.lst (ns.map .int), .int 1] = .ok (.sh (.int c)) := ⟨_, raw_eq ns 1 (by decide)⟩
  obtain ⟨z, hz, z1, z2⟩ := size_eq c
  obtain ⟨cs, hl, hcs⟩ := cells_eq ns 2 60 hn (by decide) (by decide) (by decide) (by decide)
  have hcl : cs.length ≤ 60 := by omega
  generalize hS : D.lst (ns.map D.int) = S at hc hcs
  obtain ⟨E, hE, eE⟩ : ∃ E, Edges E ∧ eComp 1 (iOf (eFn 3 F_law_cells (aCons (eVar 0) (aCons (eC (.int 2)) (aCons (eC (.int 60)) aNil))))) (gC 7) (fun _ => .ok true) e_law_1 [some S, some (.int z), none, none, none, none, none] = .ok (.ow (.lst (eL E))) := by
    have : ∀ x : Int, ∃ ps : List Nat, F_law_edge [.int x, .int z] = .ok (.sh (eT ps)) ∧ ps.Nodup ∧ ps ≠ [] ∧ ps.length ≤ 4 := fun x => edge_eq x z z1 z2
    obtain ⟨g, hg⟩ := Classical.skolem.mp this
    refine ⟨cs.map g, ⟨fun e he => ?_, fun e he => ?_, by rw [List.length_map]; exact hcl⟩, ?_⟩
    · obtain ⟨x, _, rfl⟩ := List.mem_map.mp he; exact (hg x).2.1
    · obtain ⟨x, _, rfl⟩ := List.mem_map.mp he; exact (hg x).2.2.2
    · refine eComp_ok (m := 1) (ds := cs.map .int) (by simp only [L3.evs, Nat.reduceAdd, Nat.reduceSub, Nat.reduceLeDiff, ↓reduceIte, reduceCtorEq, hcs]) (by rw [List.length_map]; omega) ?_
      have := comp_map (fg := gC 7) (f := e_law_1) (δ := [some S, some (.int z), none, none, none, none, none, none]) (fun d => match d with | .int i => eT (g i) | d => d) (cs.map .int) (fun d hd => by
        obtain ⟨x, hx, rfl⟩ := List.mem_map.mp hd
        refine ⟨_, .sh (eT (g x)), rfl, ?_, rfl⟩
        simp only [e_law_1, L3.evs, Nat.reduceAdd, Nat.reduceSub, Nat.reduceLeDiff, ↓reduceIte, reduceCtorEq, (hg x).1])
      refine this.trans ?_
      unfold eL
      rw [List.map_map, List.map_map]
      rfl
  have h60 := hE.len
  have hT := hE.tot
  obtain ⟨st, ord, hP, hC, ep⟩ := peeled_eq E z (by omega) hT
  have fk := fate_ok hE hP hC
  generalize hL : leftN E ord = L at *
  let t0 : Tn := .tup [Tn.of (.lst (ordT ord)), Tn.of (.lst (zi L))]
  have t0d : t0.d = .tup [.lst (ordT ord), .lst (zi L)] := tup2_d _ _
  obtain ⟨st0, ord0, hP0, hC0, ep0⟩ := peeled_eq [] 0 (by decide) (by decide)
  have ho0 : ord0 = [] := by
    cases ord0 with
    | nil => rfl
    | cons x r => exact absurd (hP0.ok x (by simp)).lt (by simp)
  subst ho0
  have ep0' : F_peeled [.lst [], .int 0] = .ok (.tr (.tup [Tn.of (.lst []), Tn.of (.lst [])])) := ep0
  have d0 : (W.tr (.tup [Tn.of (.lst []), Tn.of (.lst [])])).d = .tup [.lst [], .lst []] := tup2_d _ _
  have e0 : eqD (.tup [.lst [], .lst []]) (.tup [.lst [], .lst []]) = .ok (.sh (.bl true)) := eqD_self 2 rfl
  have x1 : ixD (.tup [.lst (ordT ord), .lst (zi L)]) (.int 1) = .ok (.sh (.lst (zi L))) := rfl
  have q1 : q_law_1 (start3 7 [S]) = .nx [.sh S, .sh (.int z), .no, .no, .no, .no, .no] := by
    simp only [q_law_1, L3.evs, Nat.reduceAdd, Nat.reduceSub, Nat.reduceLeDiff, ↓reduceIte, reduceCtorEq, hc, hz]
  have q2 : q_law_2 [.sh S, .sh (.int z), .no, .no, .no, .no, .no] = .nx [.sh S, .sh (.int z), .ow (.lst (eL E)), .no, .no, .no, .no] := by
    simp only [q_law_2, L3.evs, Nat.reduceAdd, Nat.reduceSub, Nat.reduceLeDiff, ↓reduceIte, reduceCtorEq, eE]
  have q3 : q_law_3 [.sh S, .sh (.int z), .ow (.lst (eL E)), .no, .no, .no, .no] = .nx [.sh S, .sh (.int z), .sh (.lst (eL E)), .ow (.lst (eL E)), .no, .no, .no] := by
    have hf : flatD (.lst (eL E)) = false := rfl
    simp only [q_law_3, L3.evs, Nat.reduceAdd, Nat.reduceSub, Nat.reduceLeDiff, ↓reduceIte, reduceCtorEq, L3.listOf]
  have q4 : q_law_4 [.sh S, .sh (.int z), .sh (.lst (eL E)), .ow (.lst (eL E)), .no, .no, .no] = .nx [.sh S, .sh (.int z), .sh (.lst (eL E)), .sh (.lst (eL E)), .tr t0, .no, .no] := by
    simp only [q_law_4, L3.evs, Nat.reduceAdd, Nat.reduceSub, Nat.reduceLeDiff, ↓reduceIte, reduceCtorEq, ep]
    rfl
  have q5 : q_law_5 [.sh S, .sh (.int z), .sh (.lst (eL E)), .sh (.lst (eL E)), .tr t0, .no, .no] = .nx [.sh S, .sh (.int z), .sh (.lst (eL E)), .sh (.lst (eL E)), .tr t0, .no, .no] := by
    simp only [q_law_5, L3.evs, Nat.reduceAdd, Nat.reduceSub, Nat.reduceLeDiff, ↓reduceIte, reduceCtorEq, any_tr, t0d, fk, ne_eL]
  have q6 : q_law_6 [.sh S, .sh (.int z), .sh (.lst (eL E)), .sh (.lst (eL E)), .tr t0, .no, .no] = .nx [.sh S, .sh (.int z), .sh (.lst (eL E)), .sh (.lst (eL E)), .tr t0, .ow (.lst (zi L)), .no] := by
    simp only [q_law_6, sSetF, L3.evs, Nat.reduceAdd, Nat.reduceSub, Nat.reduceLeDiff, ↓reduceIte, reduceCtorEq, any_tr, t0d, x1, L3.listOf, flat_zi]
  have kid0 : t0.kid 0 = some (ordT ord) := of_flat _
  have hol : ord.length ≤ 60 := by
    have := few hP.nd (fun x hx => by
      obtain ⟨y, hy, rfl⟩ := List.mem_map.mp hx
      exact (hP.ok y hy).lt)
    rw [List.length_map] at this
    omega
  have q7 : ∃ t1 : Tn, t1.kid 1 = some (zi L) ∧ q_law_7 [.sh S, .sh (.int z), .sh (.lst (eL E)), .sh (.lst (eL E)), .tr t0, .ow (.lst (zi L)), .no] = .nx [.sh S, .sh (.int z), .sh (.lst (eL E)), .sh (.lst (eL E)), .tr t1, .ow (.lst (zi L)), .no] := by
    refine ⟨t0.setKid 0 (ordT ord ++ [.tup [.int 0, .int 0]]), of_flat _, ?_⟩
    have hlo : (ordT ord).length < 16777216 := by unfold ordT; rw [List.length_map]; omega
    simp only [q_law_7, sAppN, L3.evs, Nat.reduceAdd, Nat.reduceSub, Nat.reduceLeDiff, ↓reduceIte, reduceCtorEq, Option.bind_some, Sl.tree, kid0, hlo, Sl.mk]
  obtain ⟨t1, kid1, q7⟩ := q7
  have hLl : L.length ≤ 60 := by
    rw [← hL]
    exact Nat.le_trans (List.length_filter_le _ _) (by rw [List.length_range]; exact h60)
  have q8 : ∃ t2 : Tn, q_law_8 [.sh S, .sh (.int z), .sh (.lst (eL E)), .sh (.lst (eL E)), .tr t1, .ow (.lst (zi L)), .no] = .nx [.sh S, .sh (.int z), .sh (.lst (eL E)), .sh (.lst (eL E)), .tr t2, .ow (.lst (zi L)), .no] := by
    refine ⟨t1.setKid 1 (zi L ++ [.int 0]), ?_⟩
    have hlo : (zi L).length < 16777216 := by rw [zi_len]; omega
    simp only [q_law_8, sAppN, L3.evs, Nat.reduceAdd, Nat.reduceSub, Nat.reduceLeDiff, ↓reduceIte, reduceCtorEq, Option.bind_some, Sl.tree, kid1, hlo, Sl.mk]
  obtain ⟨t2, q8⟩ := q8
  have q9 : q_law_9 [.sh S, .sh (.int z), .sh (.lst (eL E)), .sh (.lst (eL E)), .tr t2, .ow (.lst (zi L)), .no] = .nx [.sh S, .sh (.int z), .sh (.lst (eL E)), .sh (.lst (eL E)), .tr t2, .ow (.lst (zi L)), .tr t0] := by
    simp only [q_law_9, L3.evs, Nat.reduceAdd, Nat.reduceSub, Nat.reduceLeDiff, ↓reduceIte, reduceCtorEq, ep]
    rfl
  refine ⟨.sh (.bl true), ?_, rfl⟩
  unfold F_law
  refine body_rt ?_
  unfold g_law
  rw [L3.seq_nx q1, L3.seq_nx q2, L3.seq_nx q3, L3.seq_nx q4, L3.seq_nx q5, L3.seq_nx q6, L3.seq_nx q7, L3.seq_nx q8, L3.seq_nx q9]
  simp only [q_law_10, L3.evs, Nat.reduceAdd, Nat.reduceSub, Nat.reduceLeDiff, ↓reduceIte, reduceCtorEq, any_tr, t0d, fk, x1, eq_zi, ep0', d0, e0]
end My

set_option maxHeartbeats 20000000
namespace My
open PySem PyProof.Rows L2 L3
noncomputable def top (i : Nat) : Stmt := PySem.Challenge.pw_lodge_k22_orders_walked.main.body.getD i (.Pass ⟨0, 0, 0, 0⟩)
section
variable {P : Program} {w : World} {K : PySem.W.Frag} {mg : Str → Option Value} {base : Heap} {f : Addr} {fd : FuncData}
noncomputable abbrev s_law_size : Stmt := top 11
theorem sc_law_size : FnScope ["_law_cell_here"] ["_law_cell_here"] (defScope s_law_size) := ⟨rfl, rfl, rfl, by decide +kernel, rfl, by decide +kernel, by decide +kernel⟩
theorem ok_law_size {f : Addr} {fd : FuncData} (F : Fun K "_law_size" "_law_size" s_law_size f fd) : FnX P w K mg base true 1 f fd ["_law_cell_here"] (spX K 1 F_law_size) :=
  fn_D (c := true) (k := 0) F sc_law_size fun cdv A outer s H E hr => by
    have nd := sc_law_size.nd
    have hcalm : (cxN true P w K mg base ["_law_cell_here"] "_law_size" (defScope s_law_size) f cdv A outer s H E).calm = true := rfl
    have hrX : RoomC true 0 (Cx.A (cxN true P w K mg base ["_law_cell_here"] "_law_size" (defScope s_law_size) f cdv A outer s H E)) := hr
    have hu := RoomC.units hrX
    have lkX := lk_def (c := true) (P := P) (w := w) (K := K) (mg := mg) (base := base) (N := ["_law_cell_here"]) (qual := "_law_size") (scope := defScope s_law_size) (f := f) (cd := cdv) (A := A) (outer := outer) (s := s) (H := H) (E := E)
    exact (bd_one (sd_ret [0] (ed_ix (ed_lst (ad_cons (ed_bin op_addD ed_int (ed_bin op_modD (ed_bin op_divD (ed_var 0) ed_int) ed_int)) (ad_cons (ed_bin op_addD ed_int (ed_bin op_modD (ed_bin op_divD (ed_var 0) ed_int) ed_int)) (ad_cons (ed_bin op_addD ed_int (ed_bin op_modD (ed_bin op_divD (ed_var 0) ed_int) ed_int)) ad_nil)))) (ed_bin op_modD (ed_var 0) ed_int))))
noncomputable abbrev s_law_raw : Stmt := top 6
theorem sc_law_raw : FnScope ["_law_script", "_law_k"] ["_law_script", "_law_k"] (defScope s_law_raw) := ⟨rfl, rfl, rfl, by decide +kernel, rfl, by decide +kernel, by decide +kernel⟩
theorem ok_law_raw {f : Addr} {fd : FuncData} (F : Fun K "_law_raw" "_law_raw" s_law_raw f fd) (m_len : mg "len" = none) : FnX P w K mg base true 1 f fd ["_law_script", "_law_k"] (spX K 2 F_law_raw) :=
  fn_D (c := true) (k := 0) F sc_law_raw fun cdv A outer s H E hr => by
    have nd := sc_law_raw.nd
    have hcalm : (cxN true P w K mg base ["_law_script", "_law_k"] "_law_raw" (defScope s_law_raw) f cdv A outer s H E).calm = true := rfl
    have hrX : RoomC true 0 (Cx.A (cxN true P w K mg base ["_law_script", "_law_k"] "_law_raw" (defScope s_law_raw) f cdv A outer s H E)) := hr
    have hu := RoomC.units hrX
    have lkX := lk_def (c := true) (P := P) (w := w) (K := K) (mg := mg) (base := base) (N := ["_law_script", "_law_k"]) (qual := "_law_raw") (scope := defScope s_law_raw) (f := f) (cd := cdv) (A := A) (outer := outer) (s := s) (H := H) (E := E)
    exact (bd_cons (sd_if [0, 1] (td_cmp op_ltD (ed_var 1) (ed_callB call_lenD3 rfl m_len PySem.boot_len (ad_cons (ed_var 0) ad_nil)) (nomark _))
      (bd_one (sd_ret [0, 1] (ed_ix (ed_var 0) (ed_var 1))))
      bd_nil)
    (bd_one (sd_ret [] ed_int)))
noncomputable abbrev s_law_mix : Stmt := top 5
theorem sc_law_mix : FnScope ["_law_cell_here", "_law_k", "_law_first"] ["_law_cell_here", "_law_k"] (defScope s_law_mix) := ⟨rfl, rfl, rfl, by decide +kernel, rfl, by decide +kernel, by decide +kernel⟩
theorem ok_law_mix {f : Addr} {fd : FuncData} (F : Fun K "_law_mix" "_law_mix" s_law_mix f fd) : FnX P w K mg base true 1 f fd ["_law_cell_here", "_law_k"] (spX K 2 F_law_mix) :=
  fn_D (c := true) (k := 0) F sc_law_mix fun cdv A outer s H E hr => by
    have nd := sc_law_mix.nd
    have hcalm : (cxN true P w K mg base ["_law_cell_here", "_law_k", "_law_first"] "_law_mix" (defScope s_law_mix) f cdv A outer s H E).calm = true := rfl
    have hrX : RoomC true 0 (Cx.A (cxN true P w K mg base ["_law_cell_here", "_law_k", "_law_first"] "_law_mix" (defScope s_law_mix) f cdv A outer s H E)) := hr
    have hu := RoomC.units hrX
    have lkX := lk_def (c := true) (P := P) (w := w) (K := K) (mg := mg) (base := base) (N := ["_law_cell_here", "_law_k", "_law_first"]) (qual := "_law_mix") (scope := defScope s_law_mix) (f := f) (cd := cdv) (A := A) (outer := outer) (s := s) (H := H) (E := E)
    exact (bd_cons (sd_set (i := 2) [0, 1] (ed_bin op_modD (ed_bin op_mulI (ed_bin op_addD (ed_var 0) ed_int) (ed_bin op_addD ed_int (ed_bin op_mulI ed_int (ed_var 1)))) ed_int) nd)
    (bd_one (sd_ret [1, 2] (ed_bin op_modD (ed_bin op_addD (ed_bin op_addD (ed_bin op_mulI (ed_bin op_divD (ed_var 2) ed_int) ed_int) (ed_bin op_mulI (ed_var 2) (ed_bin op_addD (ed_bin op_mulI (ed_var 1) (ed_var 1)) ed_int))) (ed_var 1)) ed_int))))
noncomputable abbrev s_law_cell : Stmt := top 7
theorem sc_law_cell : FnScope ["_law_script", "_law_k"] ["_law_script", "_law_k"] (defScope s_law_cell) := ⟨rfl, rfl, rfl, by decide +kernel, rfl, by decide +kernel, by decide +kernel⟩
theorem ok_law_cell {f : Addr} {fd : FuncData} (F : Fun K "_law_cell" "_law_cell" s_law_cell f fd) (c_law_mix : FnD P w K mg base true "_law_mix" 1 ["_law_cell_here", "_law_k"] F_law_mix) (c_law_raw : FnD P w K mg base true "_law_raw" 1 ["_law_script", "_law_k"] F_law_raw) : FnX P w K mg base true 2 f fd ["_law_script", "_law_k"] (spX K 2 F_law_cell) :=
  fn_D (c := true) (k := 1) F sc_law_cell fun cdv A outer s H E hr => by
    have nd := sc_law_cell.nd
    have hcalm : (cxN true P w K mg base ["_law_script", "_law_k"] "_law_cell" (defScope s_law_cell) f cdv A outer s H E).calm = true := rfl
    have hrX : RoomC true 1 (Cx.A (cxN true P w K mg base ["_law_script", "_law_k"] "_law_cell" (defScope s_law_cell) f cdv A outer s H E)) := hr
    have hu := RoomC.units hrX
    have lkX := lk_def (c := true) (P := P) (w := w) (K := K) (mg := mg) (base := base) (N := ["_law_script", "_law_k"]) (qual := "_law_cell") (scope := defScope s_law_cell) (f := f) (cd := cdv) (A := A) (outer := outer) (s := s) (H := H) (E := E)
    exact (bd_one (sd_ret [0, 1] (ed_call hrX lkX c_law_mix (ad_cons (ed_bin op_modD (ed_call hrX lkX c_law_raw (ad_cons (ed_var 0) (ad_cons (ed_var 1) ad_nil))) ed_int) (ad_cons (ed_bin op_addD (ed_var 1) ed_int) ad_nil)))))
noncomputable abbrev s_law_great : Stmt := top 8
theorem sc_law_great : FnScope ["_law_cell_here"] ["_law_cell_here"] (defScope s_law_great) := ⟨rfl, rfl, rfl, by decide +kernel, rfl, by decide +kernel, by decide +kernel⟩
theorem ok_law_great {f : Addr} {fd : FuncData} (F : Fun K "_law_great" "_law_great" s_law_great f fd) (c_law_mix : FnD P w K mg base true "_law_mix" 1 ["_law_cell_here", "_law_k"] F_law_mix) : FnX P w K mg base true 2 f fd ["_law_cell_here"] (spX K 1 F_law_great) :=
  fn_D (c := true) (k := 1) F sc_law_great fun cdv A outer s H E hr => by
    have nd := sc_law_great.nd
    have hcalm : (cxN true P w K mg base ["_law_cell_here"] "_law_great" (defScope s_law_great) f cdv A outer s H E).calm = true := rfl
    have hrX : RoomC true 1 (Cx.A (cxN true P w K mg base ["_law_cell_here"] "_law_great" (defScope s_law_great) f cdv A outer s H E)) := hr
    have hu := RoomC.units hrX
    have lkX := lk_def (c := true) (P := P) (w := w) (K := K) (mg := mg) (base := base) (N := ["_law_cell_here"]) (qual := "_law_great") (scope := defScope s_law_great) (f := f) (cd := cdv) (A := A) (outer := outer) (s := s) (H := H) (E := E)
    exact (bd_one (sd_ret [0] (ed_bin op_addD (ed_bin op_mulI (ed_bin op_addD (ed_bin op_mulI (ed_call hrX lkX c_law_mix (ad_cons (ed_var 0) (ad_cons ed_int ad_nil))) ed_int) (ed_call hrX lkX c_law_mix (ad_cons (ed_var 0) (ad_cons ed_int ad_nil)))) ed_int) (ed_call hrX lkX c_law_mix (ad_cons (ed_var 0) (ad_cons ed_int ad_nil))))))
noncomputable abbrev s_law_cells : Stmt := top 9
theorem sc_law_cells : FnScope ["_law_script", "_law_start", "_law_most", "_law_cells_here", "_law_many"] ["_law_script", "_law_start", "_law_most"] (defScope s_law_cells) := ⟨rfl, rfl, rfl, by decide +kernel, rfl, by decide +kernel, by decide +kernel⟩
theorem ok_law_cells {f : Addr} {fd : FuncData} (F : Fun K "_law_cells" "_law_cells" s_law_cells f fd) (c_law_raw : FnD P w K mg base true "_law_raw" 1 ["_law_script", "_law_k"] F_law_raw) (c_law_cell : FnD P w K mg base true "_law_cell" 2 ["_law_script", "_law_k"] F_law_cell) (c_law_great : FnD P w K mg base true "_law_great" 2 ["_law_cell_here"] F_law_great) (c_law_mix : FnD P w K mg base true "_law_mix" 1 ["_law_cell_here", "_law_k"] F_law_mix) (m_max : mg "max" = none) (m_len : mg "len" = none) (m_range : mg "range" = none) (m_min : mg "min" = none) : FnX P w K mg base true 3 f fd ["_law_script", "_law_start", "_law_most"] (spX K 3 F_law_cells) :=
  fn_D (c := true) (k := 2) F sc_law_cells fun cdv A outer s H E hr => by
    have nd := sc_law_cells.nd
    have hcalm : (cxN true P w K mg base ["_law_script", "_law_start", "_law_most", "_law_cells_here", "_law_many"] "_law_cells" (defScope s_law_cells) f cdv A outer s H E).calm = true := rfl
    have hrX : RoomC true 2 (Cx.A (cxN true P w K mg base ["_law_script", "_law_start", "_law_most", "_law_cells_here", "_law_many"] "_law_cells" (defScope s_law_cells) f cdv A outer s H E)) := hr
    have hu := RoomC.units hrX
    have lkX := lk_def (c := true) (P := P) (w := w) (K := K) (mg := mg) (base := base) (N := ["_law_script", "_law_start", "_law_most", "_law_cells_here", "_law_many"]) (qual := "_law_cells") (scope := defScope s_law_cells) (f := f) (cd := cdv) (A := A) (outer := outer) (s := s) (H := H) (E := E)
    exact (bd_cons (sd_set (i := 3) [0, 1] (ed_callB (call_maxD hcalm) rfl m_max PyProof.Rows.boot_max (ad_cons ed_int (ad_cons (ed_bin op_subD (ed_callB call_lenD3 rfl m_len PySem.boot_len (ad_cons (ed_var 0) ad_nil)) (ed_var 1)) ad_nil))) nd)
    (bd_cons (sd_if [0] (td_cmp (op_eqD hu) (ed_bin op_modD (ed_call hrX lkX c_law_raw (ad_cons (ed_var 0) (ad_cons ed_int ad_nil))) ed_int) ed_int (nomark _))
      (bd_one (sd_ret [0, 1, 2, 3] (ed_comp (N' := ["_law_script", "_law_start", "_law_most", "_law_cells_here", "_law_many", "_law_k"]) hcalm (id_range1 m_range (ad_cons (ed_callB (call_minD (calm_nox hcalm)) rfl m_min PyProof.Rows.boot_min (ad_cons (ed_var 2) (ad_cons (ed_var 3) ad_nil))) ad_nil)) rfl (by kernel_rfl) rfl (fun C s0 H0 fp pn => ⟨(gc_name (i := 5) (show List.Nodup [("_law_script" : Str), ("_law_start" : Str), ("_law_most" : Str), ("_law_cells_here" : Str), ("_law_many" : Str), ("_law_k" : Str)] from by decide +kernel)), ct_nil, (ed_call (room_comp hrX) lk_none c_law_raw (ad_cons (ed_var 0) (ad_cons (ed_bin op_addD (ed_var 1) (ed_var 5)) ad_nil)))⟩))))
      bd_nil)
    (bd_cons (sd_set (i := 4) [0, 2, 3] (ed_callB (call_minD hcalm) rfl m_min PyProof.Rows.boot_min (ad_cons (ed_var 2) (ad_cons (ed_callB (call_maxD hcalm) rfl m_max PyProof.Rows.boot_max (ad_cons (ed_var 3) (ad_cons (ed_bin op_addD ed_int (ed_bin op_modD (ed_call hrX lkX c_law_cell (ad_cons (ed_var 0) (ad_cons ed_int ad_nil))) (ed_var 2))) ad_nil))) ad_nil))) nd)
    (bd_one (sd_ret [0, 1, 3, 4] (ed_comp (N' := ["_law_script", "_law_start", "_law_most", "_law_cells_here", "_law_many", "_law_k"]) hcalm (id_range1 m_range (ad_cons (ed_var 4) ad_nil)) rfl (by kernel_rfl) rfl (fun C s0 H0 fp pn => ⟨(gc_name (i := 5) (show List.Nodup [("_law_script" : Str), ("_law_start" : Str), ("_law_most" : Str), ("_law_cells_here" : Str), ("_law_many" : Str), ("_law_k" : Str)] from by decide +kernel)), ct_nil, (ed_call (room_comp hrX) lk_none c_law_great (ad_cons (ed_call (room_comp hrX) lk_none c_law_mix (ad_cons (ed_call (room_comp hrX) lk_none c_law_cell (ad_cons (ed_var 0) (ad_cons (ed_bin op_addD (ed_var 1) (ed_bin op_modD (ed_var 5) (ed_callB (call_maxD (calm_comp hcalm)) rfl m_max PyProof.Rows.boot_max (ad_cons ed_int (ad_cons (ed_var 3) ad_nil))))) ad_nil))) (ad_cons (ed_var 5) ad_nil))) ad_nil))⟩)))))))
noncomputable abbrev s_law_edge : Stmt := top 12
theorem sc_law_edge : FnScope ["_law_cell_here", "_law_size_here", "_law_left", "_law_many", "_law_edge_here", "_law_k"] ["_law_cell_here", "_law_size_here"] (defScope s_law_edge) := ⟨rfl, rfl, rfl, by decide +kernel, rfl, by decide +kernel, by decide +kernel⟩
theorem ok_law_edge {f : Addr} {fd : FuncData} (F : Fun K "_law_edge" "_law_edge" s_law_edge f fd) (m_list : mg "list" = none) (m_range : mg "range" = none) (m_min : mg "min" = none) (m_len : mg "len" = none) (m_tuple : mg "tuple" = none) : FnX P w K mg base true 1 f fd ["_law_cell_here", "_law_size_here"] (spX K 2 F_law_edge) :=
  fn_D (c := true) (k := 0) F sc_law_edge fun cdv A outer s H E hr => by
    have nd := sc_law_edge.nd
    have hcalm : (cxN true P w K mg base ["_law_cell_here", "_law_size_here", "_law_left", "_law_many", "_law_edge_here", "_law_k"] "_law_edge" (defScope s_law_edge) f cdv A outer s H E).calm = true := rfl
    have hrX : RoomC true 0 (Cx.A (cxN true P w K mg base ["_law_cell_here", "_law_size_here", "_law_left", "_law_many", "_law_edge_here", "_law_k"] "_law_edge" (defScope s_law_edge) f cdv A outer s H E)) := hr
    have hu := RoomC.units hrX
    have lkX := lk_def (c := true) (P := P) (w := w) (K := K) (mg := mg) (base := base) (N := ["_law_cell_here", "_law_size_here", "_law_left", "_law_many", "_law_edge_here", "_law_k"]) (qual := "_law_edge") (scope := defScope s_law_edge) (f := f) (cd := cdv) (A := A) (outer := outer) (s := s) (H := H) (E := E)
    exact (bd_cons (sd_set (i := 2) [1] (ed_listRange1 hcalm m_list m_range (ad_cons (ed_var 1) ad_nil)) nd)
    (bd_cons (sd_set (i := 3) [0, 1] (ed_bin op_addD ed_int (ed_bin op_modD (ed_var 0) (ed_callB (call_minD hcalm) rfl m_min PyProof.Rows.boot_min (ad_cons ed_int (ad_cons (ed_var 1) ad_nil))))) nd)
    (bd_cons (sd_set (i := 0) [0] (ed_bin op_divD (ed_var 0) ed_int) nd)
    (bd_cons (sd_set (i := 4) [] (ed_lst ad_nil) nd)
    (bd_cons (sd_for [3] passes_def hcalm (id_range1 m_range (ad_cons (ed_var 3) ad_nil)) (gd_name (i := 5) nd)
      (bd_cons (sd_appPop (i := 4) (j := 2) (ed_bin op_modD (ed_var 0) (ed_callB call_lenD3 rfl m_len PySem.boot_len (ad_cons (ed_var 2) ad_nil))))
    (bd_one (sd_set (i := 0) [0] (ed_bin op_divD (ed_var 0) ed_int) nd))))
    (bd_one (sd_ret [4] (ed_callTy call_tupOf rfl m_tuple PyProof.Rows.boot_tuple (ad_cons (ed_var 4) ad_nil)))))))))
noncomputable abbrev s_standing_at : Stmt := top 1
theorem sc_standing_at : FnScope ["edges", "standing", "number", "edge", "place"] ["edges"] (defScope s_standing_at) := ⟨rfl, rfl, rfl, by decide +kernel, rfl, by decide +kernel, by decide +kernel⟩
theorem ok_standing_at {f : Addr} {fd : FuncData} (F : Fun K "standing_at" "standing_at" s_standing_at f fd) (m_enumerate : mg "enumerate" = none) : FnX P w K mg base true 1 f fd ["edges"] (spX K 1 F_standing_at) :=
  fn_D (c := true) (k := 0) F sc_standing_at fun cdv A outer s H E hr => by
    have nd := sc_standing_at.nd
    have hcalm : (cxN true P w K mg base ["edges", "standing", "number", "edge", "place"] "standing_at" (defScope s_standing_at) f cdv A outer s H E).calm = true := rfl
    have hrX : RoomC true 0 (Cx.A (cxN true P w K mg base ["edges", "standing", "number", "edge", "place"] "standing_at" (defScope s_standing_at) f cdv A outer s H E)) := hr
    have hu := RoomC.units hrX
    have lkX := lk_def (c := true) (P := P) (w := w) (K := K) (mg := mg) (base := base) (N := ["edges", "standing", "number", "edge", "place"]) (qual := "standing_at") (scope := defScope s_standing_at) (f := f) (cd := cdv) (A := A) (outer := outer) (s := s) (H := H) (E := E)
    exact (bd_cons (sd_set (i := 1) [] ed_dic0 nd)
    (bd_cons (sd_for [0] passes_def hcalm (id_enum m_enumerate (ed_var 0)) (gd_two (i := 2) (j := 3) hcalm nd)
      (bd_one (sd_for [3] passes_def hcalm (id_of (ed_var 3)) (gd_name (i := 4) nd)
      (bd_cons (sd_if [1, 4] (td_cmp (op_notInK hu) (ed_var 4) (ed_var 1) (by with_unfolding_all rfl))
      (bd_one (sd_putE (i := 1) hu (ed_var 4)))
      bd_nil)
    (bd_one (sd_putN (i := 1) hu ed_bl (ed_var 4) (ed_var 2)))))))
    (bd_one (sd_retV 1))))
noncomputable abbrev s_take_away : Stmt := top 2
theorem sc_take_away : FnScope ["number", "edge", "standing", "place"] ["number", "edge", "standing"] (defScope s_take_away) := ⟨rfl, rfl, rfl, by decide +kernel, rfl, by decide +kernel, by decide +kernel⟩
theorem ok_take_away {f : Addr} {fd : FuncData} (F : Fun K "take_away" "take_away" s_take_away f fd) : FnX P w K mg base true 1 f fd ["number", "edge", "standing"] (spM K 2 M_take_away) :=
  fn_M (n := 2) (c := true) (k := 0) F sc_take_away (by decide) (by decide) fun cdv A outer s H E hr => by
    have nd := sc_take_away.nd
    have hcalm : (cxN true P w K mg base ["number", "edge", "standing", "place"] "take_away" (defScope s_take_away) f cdv A outer s H E).calm = true := rfl
    have hrX : RoomC true 0 (Cx.A (cxN true P w K mg base ["number", "edge", "standing", "place"] "take_away" (defScope s_take_away) f cdv A outer s H E)) := hr
    have hu := RoomC.units hrX
    have lkX := lk_def (c := true) (P := P) (w := w) (K := K) (mg := mg) (base := base) (N := ["number", "edge", "standing", "place"]) (qual := "take_away") (scope := defScope s_take_away) (f := f) (cd := cdv) (A := A) (outer := outer) (s := s) (H := H) (E := E)
    exact (bd_one (sd_for [1] passes_def hcalm (id_of (ed_var 1)) (gd_name (i := 3) nd)
      (bd_one (sd_popN (i := 2) hu (ed_var 3) (ed_var 0)))))
noncomputable abbrev s_peeled : Stmt := top 3
theorem sc_peeled : FnScope ["edges", "size", "standing", "waiting", "order", "taken", "left", "place", "number"] ["edges", "size"] (defScope s_peeled) := ⟨rfl, rfl, rfl, by decide +kernel, rfl, by decide +kernel, by decide +kernel⟩
theorem ok_peeled {f : Addr} {fd : FuncData} (F : Fun K "peeled" "peeled" s_peeled f fd) (c_standing_at : FnD P w K mg base true "standing_at" 1 ["edges"] F_standing_at) (c_take_away : FnMd P w K mg base true "take_away" 1 2 ["number", "edge", "standing"] M_take_away) (m_list : mg "list" = none) (m_len : mg "len" = none) (m_min : mg "min" = none) (m_range : mg "range" = none) : FnX P w K mg base true 2 f fd ["edges", "size"] (spX K 2 F_peeled) :=
  fn_D (c := true) (k := 1) F sc_peeled fun cdv A outer s H E hr => by
    have nd := sc_peeled.nd
    have hcalm : (cxN true P w K mg base ["edges", "size", "standing", "waiting", "order", "taken", "left", "place", "number"] "peeled" (defScope s_peeled) f cdv A outer s H E).calm = true := rfl
    have hrX : RoomC true 1 (Cx.A (cxN true P w K mg base ["edges", "size", "standing", "waiting", "order", "taken", "left", "place", "number"] "peeled" (defScope s_peeled) f cdv A outer s H E)) := hr
    have hu := RoomC.units hrX
    have lkX := lk_def (c := true) (P := P) (w := w) (K := K) (mg := mg) (base := base) (N := ["edges", "size", "standing", "waiting", "order", "taken", "left", "place", "number"]) (qual := "peeled") (scope := defScope s_peeled) (f := f) (cd := cdv) (A := A) (outer := outer) (s := s) (H := H) (E := E)
    exact (bd_cons (sd_set (i := 2) [0] (ed_call hrX lkX c_standing_at (ad_cons (ed_var 0) ad_nil)) nd)
    (bd_cons (sd_setF (i := 3) (ed_callTy (call_listK hcalm) rfl m_list PyProof.Rows.boot_list (ad_cons (ed_var 2) ad_nil)) nd)
    (bd_cons (sd_set (i := 4) [] (ed_lst ad_nil) nd)
    (bd_cons (sd_set (i := 5) [] ed_dic0 nd)
    (bd_cons (sd_while [3] 3000 passes_def (td_cmp op_gtD (ed_callB call_lenD3 rfl m_len PySem.boot_len (ad_cons (ed_var 3) ad_nil)) ed_int (nomark _))
      (bd_cons (sd_popL (i := 7) (j := 3) nd)
    (bd_one (sd_if [2, 7] (td_cmp (op_eqD hu) (ed_callB call_lenK rfl m_len PySem.boot_len (ad_cons (ed_getK hu (ed_var 2) (ed_var 7)) ad_nil)) ed_int (nomark _))
      (bd_cons (sd_set (i := 8) [2, 7] (ed_callB (call_minK hcalm) rfl m_min PyProof.Rows.boot_min (ad_cons (ed_getK hu (ed_var 2) (ed_var 7)) ad_nil)) nd)
    (bd_cons (sd_app (i := 4) (ed_tup (ad_cons (ed_var 8) (ad_cons (ed_var 7) ad_nil))))
    (bd_cons (sd_putK (i := 5) [] hu ed_bl (ed_var 8))
    (bd_cons (sd_callM (i := 2) hrX lkX c_take_away (ed_var 8) (ed_ix (ed_var 0) (ed_var 8)))
    (bd_one (sd_ext (i := 3) (ed_ix (ed_var 0) (ed_var 8))))))))
      bd_nil))))
    (bd_cons (sd_setC (i := 6) [0, 5] (N' := ["edges", "size", "standing", "waiting", "order", "taken", "left", "place", "?8", "number"]) hcalm (id_range1 m_range (ad_cons (ed_callB call_lenD3 rfl m_len PySem.boot_len (ad_cons (ed_var 0) ad_nil)) ad_nil)) rfl (by kernel_rfl) rfl (fun C s0 H0 fp pn => ⟨(gc_name (i := 9) (show List.Nodup [("edges" : Str), ("size" : Str), ("standing" : Str), ("waiting" : Str), ("order" : Str), ("taken" : Str), ("left" : Str), ("place" : Str), ("?8" : Str), ("number" : Str)] from by decide +kernel)), (ct_one (td_cmp (op_notInK hu) (ed_var 9) (ed_var 5) (by with_unfolding_all rfl))), (ed_var 9)⟩) nd)
    (bd_one (sd_ret2 (i := 4) (j := 6)))))))))
noncomputable abbrev s_law_whole : Stmt := top 10
theorem sc_law_whole : FnScope ["_law_found"] ["_law_found"] (defScope s_law_whole) := ⟨rfl, rfl, rfl, by decide +kernel, rfl, by decide +kernel, by decide +kernel⟩
theorem ok_law_whole {f : Addr} {fd : FuncData} (F : Fun K "_law_whole" "_law_whole" s_law_whole f fd) (m_isinstance : mg "isinstance" = none) (m_int : mg "int" = none) (m_bool : mg "bool" = none) (kit_int : KitT K "int") (kit_bool : KitT K "bool") : FnX P w K mg base true 1 f fd ["_law_found"] (spX K 1 F_law_whole) :=
  fn_D (c := true) (k := 0) F sc_law_whole fun cdv A outer s H E hr => by
    have nd := sc_law_whole.nd
    have hcalm : (cxN true P w K mg base ["_law_found"] "_law_whole" (defScope s_law_whole) f cdv A outer s H E).calm = true := rfl
    have hrX : RoomC true 0 (Cx.A (cxN true P w K mg base ["_law_found"] "_law_whole" (defScope s_law_whole) f cdv A outer s H E)) := hr
    have hu := RoomC.units hrX
    have lkX := lk_def (c := true) (P := P) (w := w) (K := K) (mg := mg) (base := base) (N := ["_law_found"]) (qual := "_law_whole") (scope := defScope s_law_whole) (f := f) (cd := cdv) (A := A) (outer := outer) (s := s) (H := H) (E := E)
    exact (bd_one (sd_ret [0] (ed_and (ed_isT kit_int (ed_var 0) m_isinstance m_int PyProof.Rows.boot_int) (ed_one (ed_not (ed_isT kit_bool (ed_var 0) m_isinstance m_bool L3.boot_bool))))))
noncomputable abbrev s_law_counts : Stmt := top 13
theorem sc_law_counts : FnScope ["_law_edges", "_law_numbers", "_law_counts_here", "_law_number", "_law_place"] ["_law_edges", "_law_numbers"] (defScope s_law_counts) := ⟨rfl, rfl, rfl, by decide +kernel, rfl, by decide +kernel, by decide +kernel⟩
theorem ok_law_counts {f : Addr} {fd : FuncData} (F : Fun K "_law_counts" "_law_counts" s_law_counts f fd) : FnX P w K mg base true 1 f fd ["_law_edges", "_law_numbers"] (spX K 2 F_law_counts) :=
  fn_D (c := true) (k := 0) F sc_law_counts fun cdv A outer s H E hr => by
    have nd := sc_law_counts.nd
    have hcalm : (cxN true P w K mg base ["_law_edges", "_law_numbers", "_law_counts_here", "_law_number", "_law_place"] "_law_counts" (defScope s_law_counts) f cdv A outer s H E).calm = true := rfl
    have hrX : RoomC true 0 (Cx.A (cxN true P w K mg base ["_law_edges", "_law_numbers", "_law_counts_here", "_law_number", "_law_place"] "_law_counts" (defScope s_law_counts) f cdv A outer s H E)) := hr
    have hu := RoomC.units hrX
    have lkX := lk_def (c := true) (P := P) (w := w) (K := K) (mg := mg) (base := base) (N := ["_law_edges", "_law_numbers", "_law_counts_here", "_law_number", "_law_place"]) (qual := "_law_counts") (scope := defScope s_law_counts) (f := f) (cd := cdv) (A := A) (outer := outer) (s := s) (H := H) (E := E)
    exact (bd_cons (sd_set (i := 2) [] ed_dic0 nd)
    (bd_cons (sd_for [1] passes_def hcalm (id_of (ed_var 1)) (gd_name (i := 3) nd)
      (bd_one (sd_for [0, 3] passes_def hcalm (id_of (ed_ix (ed_var 0) (ed_var 3))) (gd_name (i := 4) nd)
      (bd_one (sd_putG (i := 2) hu (ed_bin op_addD (ed_get2 hu (ed_var 2) (ed_var 4) ed_int) ed_int) (ed_var 4))))))
    (bd_one (sd_retV 2))))
noncomputable abbrev s_law_core : Stmt := top 15
theorem sc_law_core : FnScope ["_law_left", "_law_edges", "_law_number", "_law_counts_here"] ["_law_left", "_law_edges"] (defScope s_law_core) := ⟨rfl, rfl, rfl, by decide +kernel, rfl, by decide +kernel, by decide +kernel⟩
theorem ok_law_core {f : Addr} {fd : FuncData} (F : Fun K "_law_core" "_law_core" s_law_core f fd) (c_law_whole : FnD P w K mg base true "_law_whole" 1 ["_law_found"] F_law_whole) (c_law_counts : FnD P w K mg base true "_law_counts" 1 ["_law_edges", "_law_numbers"] F_law_counts) (m_len : mg "len" = none) (m_sorted : mg "sorted" = none) (m_set : mg "set" = none) : FnX P w K mg base true 2 f fd ["_law_left", "_law_edges"] (spX K 2 F_law_core) :=
  fn_D (c := true) (k := 1) F sc_law_core fun cdv A outer s H E hr => by
    have nd := sc_law_core.nd
    have hcalm : (cxN true P w K mg base ["_law_left", "_law_edges", "_law_number", "_law_counts_here"] "_law_core" (defScope s_law_core) f cdv A outer s H E).calm = true := rfl
    have hrX : RoomC true 1 (Cx.A (cxN true P w K mg base ["_law_left", "_law_edges", "_law_number", "_law_counts_here"] "_law_core" (defScope s_law_core) f cdv A outer s H E)) := hr
    have hu := RoomC.units hrX
    have lkX := lk_def (c := true) (P := P) (w := w) (K := K) (mg := mg) (base := base) (N := ["_law_left", "_law_edges", "_law_number", "_law_counts_here"]) (qual := "_law_core") (scope := defScope s_law_core) (f := f) (cd := cdv) (A := A) (outer := outer) (s := s) (H := H) (E := E)
    exact (bd_cons (sd_for [0] passes_def hcalm (id_of (ed_var 0)) (gd_name (i := 2) nd)
      (bd_one (sd_if [1, 2] (td_w (tw_or (td_not (td_truth (ed_call hrX lkX c_law_whole (ad_cons (ed_var 2) ad_nil)))) (tw_or (td_cmp op_ltD (ed_var 2) ed_int (nomark _)) (tw_or1 (td_cmp op_geD (ed_var 2) (ed_callB call_lenD3 rfl m_len PySem.boot_len (ad_cons (ed_var 1) ad_nil)) (nomark _))))))
      (bd_one (sd_ret [] ed_bl))
      bd_nil)))
    (bd_cons (sd_set (i := 3) [0, 1] (ed_call hrX lkX c_law_counts (ad_cons (ed_var 1) (ad_cons (ed_var 0) ad_nil))) nd)
    (bd_one (sd_ret [0, 3] (ed_and (ed_cmp (op_eqD hu) (ed_var 0) (ed_sortSet hcalm m_sorted m_set (ed_var 0)) (nomark _)) (ed_one (ed_cmp (op_eqD hu) (ed_compK (N' := ["_law_left", "_law_edges", "_law_number", "_law_counts_here", "_law_place"]) hcalm (ed_var 3) rfl (by kernel_rfl) rfl (fun C s0 H0 fp pn => ⟨(gc_name (i := 4) (show List.Nodup [("_law_left" : Str), ("_law_edges" : Str), ("_law_number" : Str), ("_law_counts_here" : Str), ("_law_place" : Str)] from by decide +kernel)), (ct_one (td_cmp op_ltD (ed_getK hu (ed_var 3) (ed_var 4)) ed_int (nomark _))), (ed_var 4)⟩)) (ed_lst ad_nil) (nomark _))))))))
noncomputable abbrev s_law_order : Stmt := top 14
theorem sc_law_order : FnScope ["_law_order_here", "_law_edges", "_law_counts_here", "_law_taken", "_law_step", "_law_other", "_law_number", "_law_place"] ["_law_order_here", "_law_edges"] (defScope s_law_order) := ⟨rfl, rfl, rfl, by decide +kernel, rfl, by decide +kernel, by decide +kernel⟩
theorem ok_law_order {f : Addr} {fd : FuncData} (F : Fun K "_law_order" "_law_order" s_law_order f fd) (c_law_counts : FnD P w K mg base true "_law_counts" 1 ["_law_edges", "_law_numbers"] F_law_counts) (c_law_whole : FnD P w K mg base true "_law_whole" 1 ["_law_found"] F_law_whole) (m_list : mg "list" = none) (m_range : mg "range" = none) (m_len : mg "len" = none) (m_isinstance : mg "isinstance" = none) (m_tuple : mg "tuple" = none) (kit_tuple : KitT K "tuple") : FnX P w K mg base true 2 f fd ["_law_order_here", "_law_edges"] (spX K 2 F_law_order) :=
  fn_D (c := true) (k := 1) F sc_law_order fun cdv A outer s H E hr => by
    have nd := sc_law_order.nd
    have hcalm : (cxN true P w K mg base ["_law_order_here", "_law_edges", "_law_counts_here", "_law_taken", "_law_step", "_law_other", "_law_number", "_law_place"] "_law_order" (defScope s_law_order) f cdv A outer s H E).calm = true := rfl
    have hrX : RoomC true 1 (Cx.A (cxN true P w K mg base ["_law_order_here", "_law_edges", "_law_counts_here", "_law_taken", "_law_step", "_law_other", "_law_number", "_law_place"] "_law_order" (defScope s_law_order) f cdv A outer s H E)) := hr
    have hu := RoomC.units hrX
    have lkX := lk_def (c := true) (P := P) (w := w) (K := K) (mg := mg) (base := base) (N := ["_law_order_here", "_law_edges", "_law_counts_here", "_law_taken", "_law_step", "_law_other", "_law_number", "_law_place"]) (qual := "_law_order") (scope := defScope s_law_order) (f := f) (cd := cdv) (A := A) (outer := outer) (s := s) (H := H) (E := E)
    exact (bd_cons (sd_set (i := 2) [1] (ed_call hrX lkX c_law_counts (ad_cons (ed_var 1) (ad_cons (ed_listRange1 hcalm m_list m_range (ad_cons (ed_callB call_lenD3 rfl m_len PySem.boot_len (ad_cons (ed_var 1) ad_nil)) ad_nil)) ad_nil))) nd)
    (bd_cons (sd_set (i := 3) [] (ed_lst ad_nil) nd)
    (bd_cons (sd_for [0] passes_def hcalm (id_of (ed_var 0)) (gd_name (i := 4) nd)
      (bd_cons (sd_if [4] (td_w (tw_or (td_not (td_truth (ed_isT kit_tuple (ed_var 4) m_isinstance m_tuple PyProof.Rows.boot_tuple))) (tw_or (td_cmp (op_neD hu) (ed_callB call_lenD3 rfl m_len PySem.boot_len (ad_cons (ed_var 4) ad_nil)) ed_int (nomark _)) (tw_or (td_not (td_truth (ed_call hrX lkX c_law_whole (ad_cons (ed_ix (ed_var 4) ed_int) ad_nil)))) (tw_or1 (td_not (td_truth (ed_call hrX lkX c_law_whole (ad_cons (ed_ix (ed_var 4) ed_int) ad_nil)))))))))
      (bd_one (sd_ret [] ed_non))
      bd_nil)
    (bd_cons (sd_unp [4] (ed_var 4) (gd_pair (i := 6) (j := 7) hcalm nd))
    (bd_cons (sd_if [1, 3, 6, 7] (td_w (tw_or (td_cmp op_ltD (ed_var 6) ed_int (nomark _)) (tw_or (td_cmp op_geD (ed_var 6) (ed_callB call_lenD3 rfl m_len PySem.boot_len (ad_cons (ed_var 1) ad_nil)) (nomark _)) (tw_or (td_cmp op_inD (ed_var 6) (ed_var 3) (by with_unfolding_all rfl)) (tw_or1 (td_cmp op_notInD (ed_var 7) (ed_ix (ed_var 1) (ed_var 6)) (by with_unfolding_all rfl)))))))
      (bd_one (sd_ret [] ed_non))
      bd_nil)
    (bd_cons (sd_if [2, 7] (td_cmp (op_neD hu) (ed_getK hu (ed_var 2) (ed_var 7)) ed_int (nomark _))
      (bd_one (sd_ret [] ed_non))
      bd_nil)
    (bd_cons (sd_for [1, 6] passes_def hcalm (id_of (ed_ix (ed_var 1) (ed_var 6))) (gd_name (i := 5) nd)
      (bd_one (sd_putG (i := 2) hu (ed_bin op_subD (ed_getK hu (ed_var 2) (ed_var 5)) ed_int) (ed_var 5))))
    (bd_one (sd_app (i := 3) (ed_var 6)))))))))
    (bd_one (sd_retV 3)))))
noncomputable abbrev s_law_fate : Stmt := top 16
theorem sc_law_fate : FnScope ["_law_found", "_law_edges", "_law_taken"] ["_law_found", "_law_edges"] (defScope s_law_fate) := ⟨rfl, rfl, rfl, by decide +kernel, rfl, by decide +kernel, by decide +kernel⟩
theorem ok_law_fate {f : Addr} {fd : FuncData} (F : Fun K "_law_fate" "_law_fate" s_law_fate f fd) (c_law_core : FnD P w K mg base true "_law_core" 2 ["_law_left", "_law_edges"] F_law_core) (c_law_order : FnD P w K mg base true "_law_order" 2 ["_law_order_here", "_law_edges"] F_law_order) (m_isinstance : mg "isinstance" = none) (m_tuple : mg "tuple" = none) (m_len : mg "len" = none) (m_list : mg "list" = none) (m_sorted : mg "sorted" = none) (m_range : mg "range" = none) (kit_tuple : KitT K "tuple") (kit_list : KitT K "list") : FnX P w K mg base true 3 f fd ["_law_found", "_law_edges"] (spX K 2 F_law_fate) :=
  fn_D (c := true) (k := 2) F sc_law_fate fun cdv A outer s H E hr => by
    have nd := sc_law_fate.nd
    have hcalm : (cxN true P w K mg base ["_law_found", "_law_edges", "_law_taken"] "_law_fate" (defScope s_law_fate) f cdv A outer s H E).calm = true := rfl
    have hrX : RoomC true 2 (Cx.A (cxN true P w K mg base ["_law_found", "_law_edges", "_law_taken"] "_law_fate" (defScope s_law_fate) f cdv A outer s H E)) := hr
    have hu := RoomC.units hrX
    have lkX := lk_def (c := true) (P := P) (w := w) (K := K) (mg := mg) (base := base) (N := ["_law_found", "_law_edges", "_law_taken"]) (qual := "_law_fate") (scope := defScope s_law_fate) (f := f) (cd := cdv) (A := A) (outer := outer) (s := s) (H := H) (E := E)
    exact (bd_cons (sd_if [0] (td_w (tw_or (td_not (td_truth (ed_isT kit_tuple (ed_var 0) m_isinstance m_tuple PyProof.Rows.boot_tuple))) (tw_or1 (td_cmp (op_neD hu) (ed_callB call_lenD3 rfl m_len PySem.boot_len (ad_cons (ed_var 0) ad_nil)) ed_int (nomark _)))))
      (bd_one (sd_ret [] ed_bl))
      bd_nil)
    (bd_cons (sd_if [0, 1] (td_w (tw_or (td_not (td_truth (ed_isT kit_list (ed_ix (ed_var 0) ed_int) m_isinstance m_list PyProof.Rows.boot_list))) (tw_or (td_not (td_truth (ed_isT kit_list (ed_ix (ed_var 0) ed_int) m_isinstance m_list PyProof.Rows.boot_list))) (tw_or1 (td_not (td_truth (ed_call hrX lkX c_law_core (ad_cons (ed_ix (ed_var 0) ed_int) (ad_cons (ed_var 1) ad_nil)))))))))
      (bd_one (sd_ret [] ed_bl))
      bd_nil)
    (bd_cons (sd_set (i := 2) [0, 1] (ed_call hrX lkX c_law_order (ad_cons (ed_ix (ed_var 0) ed_int) (ad_cons (ed_var 1) ad_nil))) nd)
    (bd_one (sd_ret [0, 1, 2] (ed_and (ed_cmp op_notND (ed_var 2) ed_non (nomark _)) (ed_one (ed_cmp (op_eqD hu) (ed_callB (call_sortL hcalm) rfl m_sorted PyProof.Rows.boot_sorted (ad_cons (ed_bin op_addD (ed_var 2) (ed_ix (ed_var 0) ed_int)) ad_nil)) (ed_listRange1 hcalm m_list m_range (ad_cons (ed_callB call_lenD3 rfl m_len PySem.boot_len (ad_cons (ed_var 1) ad_nil)) ad_nil)) (nomark _)))))))))
noncomputable abbrev s_law : Stmt := top 17
theorem sc_law : FnScope ["_law_script", "_law_size_here", "_law_edges", "_law_handed", "_law_found", "_law_rest", "_law_again"] ["_law_script"] (defScope s_law) := ⟨rfl, rfl, rfl, by decide +kernel, rfl, by decide +kernel, by decide +kernel⟩
theorem ok_law {f : Addr} {fd : FuncData} (F : Fun K "law" "law" s_law f fd) (c_law_size : FnD P w K mg base true "_law_size" 1 ["_law_cell_here"] F_law_size) (c_law_raw : FnD P w K mg base true "_law_raw" 1 ["_law_script", "_law_k"] F_law_raw) (c_law_cells : FnD P w K mg base true "_law_cells" 3 ["_law_script", "_law_start", "_law_most"] F_law_cells) (c_law_edge : FnD P w K mg base true "_law_edge" 1 ["_law_cell_here", "_law_size_here"] F_law_edge) (c_peeled : FnD P w K mg base true "peeled" 2 ["edges", "size"] F_peeled) (c_law_fate : FnD P w K mg base true "_law_fate" 3 ["_law_found", "_law_edges"] F_law_fate) (m_list : mg "list" = none) : FnX P w K mg base true 4 f fd ["_law_script"] (spX K 1 F_law) :=
  fn_D (c := true) (k := 3) F sc_law fun cdv A outer s H E hr => by
    have nd := sc_law.nd
    have hcalm : (cxN true P w K mg base ["_law_script", "_law_size_here", "_law_edges", "_law_handed", "_law_found", "_law_rest", "_law_again"] "law" (defScope s_law) f cdv A outer s H E).calm = true := rfl
    have hrX : RoomC true 3 (Cx.A (cxN true P w K mg base ["_law_script", "_law_size_here", "_law_edges", "_law_handed", "_law_found", "_law_rest", "_law_again"] "law" (defScope s_law) f cdv A outer s H E)) := hr
    have hu := RoomC.units hrX
    have lkX := lk_def (c := true) (P := P) (w := w) (K := K) (mg := mg) (base := base) (N := ["_law_script", "_law_size_here", "_law_edges", "_law_handed", "_law_found", "_law_rest", "_law_again"]) (qual := "law") (scope := defScope s_law) (f := f) (cd := cdv) (A := A) (outer := outer) (s := s) (H := H) (E := E)
    exact (bd_cons (sd_set (i := 1) [0] (ed_call hrX lkX c_law_size (ad_cons (ed_call hrX lkX c_law_raw (ad_cons (ed_var 0) (ad_cons ed_int ad_nil))) ad_nil)) nd)
    (bd_cons (sd_setC (i := 2) [0, 1] (N' := ["_law_script", "_law_size_here", "_law_edges", "_law_handed", "_law_found", "_law_rest", "_law_again", "_law_one"]) hcalm (id_of (ed_call (room_nox hrX) lk_none c_law_cells (ad_cons (ed_var 0) (ad_cons ed_int (ad_cons ed_int ad_nil))))) rfl (by kernel_rfl) rfl (fun C s0 H0 fp pn => ⟨(gc_name (i := 7) (show List.Nodup [("_law_script" : Str), ("_law_size_here" : Str), ("_law_edges" : Str), ("_law_handed" : Str), ("_law_found" : Str), ("_law_rest" : Str), ("_law_again" : Str), ("_law_one" : Str)] from by decide +kernel)), ct_nil, (ed_call (room_comp hrX) lk_none c_law_edge (ad_cons (ed_var 7) (ad_cons (ed_var 1) ad_nil)))⟩) nd)
    (bd_cons (sd_set (i := 3) [2] (ed_callTy call_listOf rfl m_list PyProof.Rows.boot_list (ad_cons (ed_var 2) ad_nil)) nd)
    (bd_cons (sd_set (i := 4) [1, 3] (ed_call hrX lkX c_peeled (ad_cons (ed_var 3) (ad_cons (ed_var 1) ad_nil))) nd)
    (bd_cons (sd_if [2, 3, 4] (td_w (tw_or (td_not (td_truth (ed_call hrX lkX c_law_fate (ad_cons (ed_var 4) (ad_cons (ed_var 2) ad_nil))))) (tw_or1 (td_cmp (op_neD hu) (ed_var 3) (ed_var 2) (nomark _)))))
      (bd_one (sd_ret [] ed_bl))
      bd_nil)
    (bd_cons (sd_setF (i := 5) (ed_callTy call_listOf rfl m_list PyProof.Rows.boot_list (ad_cons (ed_ix (ed_var 4) ed_int) ad_nil)) nd)
    (bd_cons (sd_appN (i := 4) (n := 0) (ed_tup (ad_cons ed_int (ad_cons ed_int ad_nil))))
    (bd_cons (sd_appN (i := 4) (n := 1) ed_int)
    (bd_cons (sd_set (i := 6) [1, 3] (ed_call hrX lkX c_peeled (ad_cons (ed_var 3) (ad_cons (ed_var 1) ad_nil))) nd)
    (bd_one (sd_ret [2, 5, 6] (ed_and (ed_call hrX lkX c_law_fate (ad_cons (ed_var 6) (ad_cons (ed_var 2) ad_nil))) (ed_and (ed_cmp (op_eqD hu) (ed_ix (ed_var 6) ed_int) (ed_var 5) (nomark _)) (ed_one (ed_cmp (op_eqD hu) (ed_call hrX lkX c_peeled (ad_cons (ed_lst ad_nil) (ad_cons ed_int ad_nil))) (ed_tup (ad_cons (ed_lst ad_nil) (ad_cons (ed_lst ad_nil) ad_nil))) (nomark _))))))))))))))))
end
theorem all_mk {l : PySem.W.OpenLaw} {w : World} {K : PySem.W.Frag} {h : Heap} {mg : Str → Option Value} {fa : Addr} (X : K.In h) (G : h.Ns mainGlobals mg) (hfa : mg "law" = some (.ref fa))
    {f1 : Addr} {od1 an1 : Option Addr} {sl1 : Array (Option Value)} {oc1 kV1 dc1 pm1 cd1 ct1 : Value}
    {f2 : Addr} {od2 an2 : Option Addr} {sl2 : Array (Option Value)} {oc2 kV2 dc2 pm2 cd2 ct2 : Value}
    {f3 : Addr} {od3 an3 : Option Addr} {sl3 : Array (Option Value)} {oc3 kV3 dc3 pm3 cd3 ct3 : Value}
    {f4 : Addr} {od4 an4 : Option Addr} {sl4 : Array (Option Value)} {oc4 kV4 dc4 pm4 cd4 ct4 : Value}
    {f5 : Addr} {od5 an5 : Option Addr} {sl5 : Array (Option Value)} {oc5 kV5 dc5 pm5 cd5 ct5 : Value}
    {f6 : Addr} {od6 an6 : Option Addr} {sl6 : Array (Option Value)} {oc6 kV6 dc6 pm6 cd6 ct6 : Value}
    {f7 : Addr} {od7 an7 : Option Addr} {sl7 : Array (Option Value)} {oc7 kV7 dc7 pm7 cd7 ct7 : Value}
    {f8 : Addr} {od8 an8 : Option Addr} {sl8 : Array (Option Value)} {oc8 kV8 dc8 pm8 cd8 ct8 : Value}
    {f9 : Addr} {od9 an9 : Option Addr} {sl9 : Array (Option Value)} {oc9 kV9 dc9 pm9 cd9 ct9 : Value}
    {f10 : Addr} {od10 an10 : Option Addr} {sl10 : Array (Option Value)} {oc10 kV10 dc10 pm10 cd10 ct10 : Value}
    {f11 : Addr} {od11 an11 : Option Addr} {sl11 : Array (Option Value)} {oc11 kV11 dc11 pm11 cd11 ct11 : Value}
    {f12 : Addr} {od12 an12 : Option Addr} {sl12 : Array (Option Value)} {oc12 kV12 dc12 pm12 cd12 ct12 : Value}
    {f13 : Addr} {od13 an13 : Option Addr} {sl13 : Array (Option Value)} {oc13 kV13 dc13 pm13 cd13 ct13 : Value}
    {f14 : Addr} {od14 an14 : Option Addr} {sl14 : Array (Option Value)} {oc14 kV14 dc14 pm14 cd14 ct14 : Value}
    {f15 : Addr} {od15 an15 : Option Addr} {sl15 : Array (Option Value)} {oc15 kV15 dc15 pm15 cd15 ct15 : Value}
    {f16 : Addr} {od16 an16 : Option Addr} {sl16 : Array (Option Value)} {oc16 kV16 dc16 pm16 cd16 ct16 : Value}
    (a1 : PySem.W.nsIn K mainGlobals "_law_size" = some (some (.ref f1))) (l1 : K.lookup f1 = some ⟨oc1, od1, .func (PySem.W.fnOf "_law_size" "_law_size" (defArgs s_law_size) (defBody s_law_size) (defScope s_law_size) .none kV1 dc1 pm1 an1 cd1 ct1), sl1⟩) (c1 : PySem.W.codeIn K cd1 "_law_size" = true) (k1 : PySem.W.keepIn K (.ref f1) = true)
    (a2 : PySem.W.nsIn K mainGlobals "_law_raw" = some (some (.ref f2))) (l2 : K.lookup f2 = some ⟨oc2, od2, .func (PySem.W.fnOf "_law_raw" "_law_raw" (defArgs s_law_raw) (defBody s_law_raw) (defScope s_law_raw) .none kV2 dc2 pm2 an2 cd2 ct2), sl2⟩) (c2 : PySem.W.codeIn K cd2 "_law_raw" = true) (k2 : PySem.W.keepIn K (.ref f2) = true)
    (a3 : PySem.W.nsIn K mainGlobals "_law_mix" = some (some (.ref f3))) (l3 : K.lookup f3 = some ⟨oc3, od3, .func (PySem.W.fnOf "_law_mix" "_law_mix" (defArgs s_law_mix) (defBody s_law_mix) (defScope s_law_mix) .none kV3 dc3 pm3 an3 cd3 ct3), sl3⟩) (c3 : PySem.W.codeIn K cd3 "_law_mix" = true) (k3 : PySem.W.keepIn K (.ref f3) = true)
    (a4 : PySem.W.nsIn K mainGlobals "_law_cell" = some (some (.ref f4))) (l4 : K.lookup f4 = some ⟨oc4, od4, .func (PySem.W.fnOf "_law_cell" "_law_cell" (defArgs s_law_cell) (defBody s_law_cell) (defScope s_law_cell) .none kV4 dc4 pm4 an4 cd4 ct4), sl4⟩) (c4 : PySem.W.codeIn K cd4 "_law_cell" = true) (k4 : PySem.W.keepIn K (.ref f4) = true)
    (a5 : PySem.W.nsIn K mainGlobals "_law_great" = some (some (.ref f5))) (l5 : K.lookup f5 = some ⟨oc5, od5, .func (PySem.W.fnOf "_law_great" "_law_great" (defArgs s_law_great) (defBody s_law_great) (defScope s_law_great) .none kV5 dc5 pm5 an5 cd5 ct5), sl5⟩) (c5 : PySem.W.codeIn K cd5 "_law_great" = true) (k5 : PySem.W.keepIn K (.ref f5) = true)
    (a6 : PySem.W.nsIn K mainGlobals "_law_cells" = some (some (.ref f6))) (l6 : K.lookup f6 = some ⟨oc6, od6, .func (PySem.W.fnOf "_law_cells" "_law_cells" (defArgs s_law_cells) (defBody s_law_cells) (defScope s_law_cells) .none kV6 dc6 pm6 an6 cd6 ct6), sl6⟩) (c6 : PySem.W.codeIn K cd6 "_law_cells" = true) (k6 : PySem.W.keepIn K (.ref f6) = true)
    (a7 : PySem.W.nsIn K mainGlobals "_law_edge" = some (some (.ref f7))) (l7 : K.lookup f7 = some ⟨oc7, od7, .func (PySem.W.fnOf "_law_edge" "_law_edge" (defArgs s_law_edge) (defBody s_law_edge) (defScope s_law_edge) .none kV7 dc7 pm7 an7 cd7 ct7), sl7⟩) (c7 : PySem.W.codeIn K cd7 "_law_edge" = true) (k7 : PySem.W.keepIn K (.ref f7) = true)
    (a8 : PySem.W.nsIn K mainGlobals "standing_at" = some (some (.ref f8))) (l8 : K.lookup f8 = some ⟨oc8, od8, .func (PySem.W.fnOf "standing_at" "standing_at" (defArgs s_standing_at) (defBody s_standing_at) (defScope s_standing_at) .none kV8 dc8 pm8 an8 cd8 ct8), sl8⟩) (c8 : PySem.W.codeIn K cd8 "standing_at" = true) (k8 : PySem.W.keepIn K (.ref f8) = true)
    (a9 : PySem.W.nsIn K mainGlobals "take_away" = some (some (.ref f9))) (l9 : K.lookup f9 = some ⟨oc9, od9, .func (PySem.W.fnOf "take_away" "take_away" (defArgs s_take_away) (defBody s_take_away) (defScope s_take_away) .none kV9 dc9 pm9 an9 cd9 ct9), sl9⟩) (c9 : PySem.W.codeIn K cd9 "take_away" = true) (k9 : PySem.W.keepIn K (.ref f9) = true)
    (a10 : PySem.W.nsIn K mainGlobals "peeled" = some (some (.ref f10))) (l10 : K.lookup f10 = some ⟨oc10, od10, .func (PySem.W.fnOf "peeled" "peeled" (defArgs s_peeled) (defBody s_peeled) (defScope s_peeled) .none kV10 dc10 pm10 an10 cd10 ct10), sl10⟩) (c10 : PySem.W.codeIn K cd10 "peeled" = true) (k10 : PySem.W.keepIn K (.ref f10) = true)
    (a11 : PySem.W.nsIn K mainGlobals "_law_whole" = some (some (.ref f11))) (l11 : K.lookup f11 = some ⟨oc11, od11, .func (PySem.W.fnOf "_law_whole" "_law_whole" (defArgs s_law_whole) (defBody s_law_whole) (defScope s_law_whole) .none kV11 dc11 pm11 an11 cd11 ct11), sl11⟩) (c11 : PySem.W.codeIn K cd11 "_law_whole" = true) (k11 : PySem.W.keepIn K (.ref f11) = true)
    (a12 : PySem.W.nsIn K mainGlobals "_law_counts" = some (some (.ref f12))) (l12 : K.lookup f12 = some ⟨oc12, od12, .func (PySem.W.fnOf "_law_counts" "_law_counts" (defArgs s_law_counts) (defBody s_law_counts) (defScope s_law_counts) .none kV12 dc12 pm12 an12 cd12 ct12), sl12⟩) (c12 : PySem.W.codeIn K cd12 "_law_counts" = true) (k12 : PySem.W.keepIn K (.ref f12) = true)
    (a13 : PySem.W.nsIn K mainGlobals "_law_core" = some (some (.ref f13))) (l13 : K.lookup f13 = some ⟨oc13, od13, .func (PySem.W.fnOf "_law_core" "_law_core" (defArgs s_law_core) (defBody s_law_core) (defScope s_law_core) .none kV13 dc13 pm13 an13 cd13 ct13), sl13⟩) (c13 : PySem.W.codeIn K cd13 "_law_core" = true) (k13 : PySem.W.keepIn K (.ref f13) = true)
    (a14 : PySem.W.nsIn K mainGlobals "_law_order" = some (some (.ref f14))) (l14 : K.lookup f14 = some ⟨oc14, od14, .func (PySem.W.fnOf "_law_order" "_law_order" (defArgs s_law_order) (defBody s_law_order) (defScope s_law_order) .none kV14 dc14 pm14 an14 cd14 ct14), sl14⟩) (c14 : PySem.W.codeIn K cd14 "_law_order" = true) (k14 : PySem.W.keepIn K (.ref f14) = true)
    (a15 : PySem.W.nsIn K mainGlobals "_law_fate" = some (some (.ref f15))) (l15 : K.lookup f15 = some ⟨oc15, od15, .func (PySem.W.fnOf "_law_fate" "_law_fate" (defArgs s_law_fate) (defBody s_law_fate) (defScope s_law_fate) .none kV15 dc15 pm15 an15 cd15 ct15), sl15⟩) (c15 : PySem.W.codeIn K cd15 "_law_fate" = true) (k15 : PySem.W.keepIn K (.ref f15) = true)
    (a16 : PySem.W.nsIn K mainGlobals "law" = some (some (.ref f16))) (l16 : K.lookup f16 = some ⟨oc16, od16, .func (PySem.W.fnOf "law" "law" (defArgs s_law) (defBody s_law) (defScope s_law) .none kV16 dc16 pm16 an16 cd16 ct16), sl16⟩) (c16 : PySem.W.codeIn K cd16 "law" = true) (k16 : PySem.W.keepIn K (.ref f16) = true)
    (z_len : PySem.W.nsIn K mainGlobals "len" = some none)
    (z_max : PySem.W.nsIn K mainGlobals "max" = some none)
    (z_range : PySem.W.nsIn K mainGlobals "range" = some none)
    (z_min : PySem.W.nsIn K mainGlobals "min" = some none)
    (z_list : PySem.W.nsIn K mainGlobals "list" = some none)
    (z_tuple : PySem.W.nsIn K mainGlobals "tuple" = some none)
    (z_enumerate : PySem.W.nsIn K mainGlobals "enumerate" = some none)
    (z_isinstance : PySem.W.nsIn K mainGlobals "isinstance" = some none)
    (z_int : PySem.W.nsIn K mainGlobals "int" = some none)
    (z_bool : PySem.W.nsIn K mainGlobals "bool" = some none)
    (z_sorted : PySem.W.nsIn K mainGlobals "sorted" = some none)
    (z_set : PySem.W.nsIn K mainGlobals "set" = some none)
    (t_int_non : PySem.W.kitOne K (.type "NoneType") (.type "int") = some false)
    (t_int_bl : PySem.W.kitOne K (.type "bool") (.type "int") = some true)
    (t_int_int : PySem.W.kitOne K (.type "int") (.type "int") = some true)
    (t_int_str : PySem.W.kitOne K (.type "str") (.type "int") = some false)
    (t_int_lst : PySem.W.kitOne K (.type "list") (.type "int") = some false)
    (t_int_tup : PySem.W.kitOne K (.type "tuple") (.type "int") = some false)
    (t_bool_non : PySem.W.kitOne K (.type "NoneType") (.type "bool") = some false)
    (t_bool_bl : PySem.W.kitOne K (.type "bool") (.type "bool") = some true)
    (t_bool_int : PySem.W.kitOne K (.type "int") (.type "bool") = some false)
    (t_bool_str : PySem.W.kitOne K (.type "str") (.type "bool") = some false)
    (t_bool_lst : PySem.W.kitOne K (.type "list") (.type "bool") = some false)
    (t_bool_tup : PySem.W.kitOne K (.type "tuple") (.type "bool") = some false)
    (t_tuple_non : PySem.W.kitOne K (.type "NoneType") (.type "tuple") = some false)
    (t_tuple_bl : PySem.W.kitOne K (.type "bool") (.type "tuple") = some false)
    (t_tuple_int : PySem.W.kitOne K (.type "int") (.type "tuple") = some false)
    (t_tuple_str : PySem.W.kitOne K (.type "str") (.type "tuple") = some false)
    (t_tuple_lst : PySem.W.kitOne K (.type "list") (.type "tuple") = some false)
    (t_tuple_tup : PySem.W.kitOne K (.type "tuple") (.type "tuple") = some true)
    (t_list_non : PySem.W.kitOne K (.type "NoneType") (.type "list") = some false)
    (t_list_bl : PySem.W.kitOne K (.type "bool") (.type "list") = some false)
    (t_list_int : PySem.W.kitOne K (.type "int") (.type "list") = some false)
    (t_list_str : PySem.W.kitOne K (.type "str") (.type "list") = some false)
    (t_list_lst : PySem.W.kitOne K (.type "list") (.type "list") = some true)
    (t_list_tup : PySem.W.kitOne K (.type "tuple") (.type "list") = some false) :
    ∃ fd : FuncData, (∀ (s : Shared) (v : Value), BindsTo s fd ⟨[v], []⟩ [("_law_script", v)]) ∧ ∀ base : Heap, K.In base → base.Ns mainGlobals mg → FnOk l.prog w K mg base CX0 4 fa fd ["_law_script"] (spLaw3 K) := by
  have e := hfa.symm.trans (PySem.W.mg_of X G a16)
  cases e
  have m_len := PySem.W.mg_none_of X G z_len
  have m_max := PySem.W.mg_none_of X G z_max
  have m_range := PySem.W.mg_none_of X G z_range
  have m_min := PySem.W.mg_none_of X G z_min
  have m_list := PySem.W.mg_none_of X G z_list
  have m_tuple := PySem.W.mg_none_of X G z_tuple
  have m_enumerate := PySem.W.mg_none_of X G z_enumerate
  have m_isinstance := PySem.W.mg_none_of X G z_isinstance
  have m_int := PySem.W.mg_none_of X G z_int
  have m_bool := PySem.W.mg_none_of X G z_bool
  have m_sorted := PySem.W.mg_none_of X G z_sorted
  have m_set := PySem.W.mg_none_of X G z_set
  have kit_int : KitT K "int" := ⟨t_int_non, t_int_bl, t_int_int, t_int_str, t_int_lst, t_int_tup⟩
  have kit_bool : KitT K "bool" := ⟨t_bool_non, t_bool_bl, t_bool_int, t_bool_str, t_bool_lst, t_bool_tup⟩
  have kit_tuple : KitT K "tuple" := ⟨t_tuple_non, t_tuple_bl, t_tuple_int, t_tuple_str, t_tuple_lst, t_tuple_tup⟩
  have kit_list : KitT K "list" := ⟨t_list_non, t_list_bl, t_list_int, t_list_str, t_list_lst, t_list_tup⟩
  have F1 := fun_mk (st := s_law_size) l1 c1 k1
  have b1 := Fun.binds1 (ps := ["_law_cell_here"]) F1 rfl fun _ _ _ _ _ _ _ => rfl
  have F2 := fun_mk (st := s_law_raw) l2 c2 k2
  have b2 := Fun.binds2 (ps := ["_law_script", "_law_k"]) F2 rfl fun _ _ _ _ _ _ _ _ => rfl
  have F3 := fun_mk (st := s_law_mix) l3 c3 k3
  have b3 := Fun.binds2 (ps := ["_law_cell_here", "_law_k"]) F3 rfl fun _ _ _ _ _ _ _ _ => rfl
  have F4 := fun_mk (st := s_law_cell) l4 c4 k4
  have b4 := Fun.binds2 (ps := ["_law_script", "_law_k"]) F4 rfl fun _ _ _ _ _ _ _ _ => rfl
  have F5 := fun_mk (st := s_law_great) l5 c5 k5
  have b5 := Fun.binds1 (ps := ["_law_cell_here"]) F5 rfl fun _ _ _ _ _ _ _ => rfl
  have F6 := fun_mk (st := s_law_cells) l6 c6 k6
  have b6 := Fun.binds3 (ps := ["_law_script", "_law_start", "_law_most"]) F6 rfl fun _ _ _ _ _ _ _ _ _ => rfl
  have F7 := fun_mk (st := s_law_edge) l7 c7 k7
  have b7 := Fun.binds2 (ps := ["_law_cell_here", "_law_size_here"]) F7 rfl fun _ _ _ _ _ _ _ _ => rfl
  have F8 := fun_mk (st := s_standing_at) l8 c8 k8
  have b8 := Fun.binds1 (ps := ["edges"]) F8 rfl fun _ _ _ _ _ _ _ => rfl
  have F9 := fun_mk (st := s_take_away) l9 c9 k9
  have b9 := Fun.binds3 (ps := ["number", "edge", "standing"]) F9 rfl fun _ _ _ _ _ _ _ _ _ => rfl
  have F10 := fun_mk (st := s_peeled) l10 c10 k10
  have b10 := Fun.binds2 (ps := ["edges", "size"]) F10 rfl fun _ _ _ _ _ _ _ _ => rfl
  have F11 := fun_mk (st := s_law_whole) l11 c11 k11
  have b11 := Fun.binds1 (ps := ["_law_found"]) F11 rfl fun _ _ _ _ _ _ _ => rfl
  have F12 := fun_mk (st := s_law_counts) l12 c12 k12
  have b12 := Fun.binds2 (ps := ["_law_edges", "_law_numbers"]) F12 rfl fun _ _ _ _ _ _ _ _ => rfl
  have F13 := fun_mk (st := s_law_core) l13 c13 k13
  have b13 := Fun.binds2 (ps := ["_law_left", "_law_edges"]) F13 rfl fun _ _ _ _ _ _ _ _ => rfl
  have F14 := fun_mk (st := s_law_order) l14 c14 k14
  have b14 := Fun.binds2 (ps := ["_law_order_here", "_law_edges"]) F14 rfl fun _ _ _ _ _ _ _ _ => rfl
  have F15 := fun_mk (st := s_law_fate) l15 c15 k15
  have b15 := Fun.binds2 (ps := ["_law_found", "_law_edges"]) F15 rfl fun _ _ _ _ _ _ _ _ => rfl
  have F16 := fun_mk (st := s_law) l16 c16 k16
  have b16 := Fun.binds1 (ps := ["_law_script"]) F16 rfl fun _ _ _ _ _ _ _ => rfl
  refine ⟨PySem.W.fnOf "law" "law" (defArgs s_law) (defBody s_law) (defScope s_law) .none kV16 dc16 pm16 an16 cd16 ct16, fun s v => .of_eq rfl, fun base _ _ => ?_⟩
  have c_law_size : FnD l.prog w K mg base true "_law_size" 1 ["_law_cell_here"] F_law_size := fnd_mk F1 (PySem.W.mg_of X G a1) b1 (ok_law_size F1)
  have c_law_raw : FnD l.prog w K mg base true "_law_raw" 1 ["_law_script", "_law_k"] F_law_raw := fnd_mk F2 (PySem.W.mg_of X G a2) b2 (ok_law_raw F2 m_len)
  have c_law_mix : FnD l.prog w K mg base true "_law_mix" 1 ["_law_cell_here", "_law_k"] F_law_mix := fnd_mk F3 (PySem.W.mg_of X G a3) b3 (ok_law_mix F3)
  have c_law_cell : FnD l.prog w K mg base true "_law_cell" 2 ["_law_script", "_law_k"] F_law_cell := fnd_mk F4 (PySem.W.mg_of X G a4) b4 (ok_law_cell F4 c_law_mix c_law_raw)
  have c_law_great : FnD l.prog w K mg base true "_law_great" 2 ["_law_cell_here"] F_law_great := fnd_mk F5 (PySem.W.mg_of X G a5) b5 (ok_law_great F5 c_law_mix)
  have c_law_cells : FnD l.prog w K mg base true "_law_cells" 3 ["_law_script", "_law_start", "_law_most"] F_law_cells := fnd_mk F6 (PySem.W.mg_of X G a6) b6 (ok_law_cells F6 c_law_raw c_law_cell c_law_great c_law_mix m_max m_len m_range m_min)
  have c_law_edge : FnD l.prog w K mg base true "_law_edge" 1 ["_law_cell_here", "_law_size_here"] F_law_edge := fnd_mk F7 (PySem.W.mg_of X G a7) b7 (ok_law_edge F7 m_list m_range m_min m_len m_tuple)
  have c_standing_at : FnD l.prog w K mg base true "standing_at" 1 ["edges"] F_standing_at := fnd_mk F8 (PySem.W.mg_of X G a8) b8 (ok_standing_at F8 m_enumerate)
  have c_take_away : FnMd l.prog w K mg base true "take_away" 1 2 ["number", "edge", "standing"] M_take_away := fnm_mk F9 (PySem.W.mg_of X G a9) b9 (ok_take_away F9)
  have c_peeled : FnD l.prog w K mg base true "peeled" 2 ["edges", "size"] F_peeled := fnd_mk F10 (PySem.W.mg_of X G a10) b10 (ok_peeled F10 c_standing_at c_take_away m_list m_len m_min m_range)
  have c_law_whole : FnD l.prog w K mg base true "_law_whole" 1 ["_law_found"] F_law_whole := fnd_mk F11 (PySem.W.mg_of X G a11) b11 (ok_law_whole F11 m_isinstance m_int m_bool kit_int kit_bool)
  have c_law_counts : FnD l.prog w K mg base true "_law_counts" 1 ["_law_edges", "_law_numbers"] F_law_counts := fnd_mk F12 (PySem.W.mg_of X G a12) b12 (ok_law_counts F12)
  have c_law_core : FnD l.prog w K mg base true "_law_core" 2 ["_law_left", "_law_edges"] F_law_core := fnd_mk F13 (PySem.W.mg_of X G a13) b13 (ok_law_core F13 c_law_whole c_law_counts m_len m_sorted m_set)
  have c_law_order : FnD l.prog w K mg base true "_law_order" 2 ["_law_order_here", "_law_edges"] F_law_order := fnd_mk F14 (PySem.W.mg_of X G a14) b14 (ok_law_order F14 c_law_counts c_law_whole m_list m_range m_len m_isinstance m_tuple kit_tuple)
  have c_law_fate : FnD l.prog w K mg base true "_law_fate" 3 ["_law_found", "_law_edges"] F_law_fate := fnd_mk F15 (PySem.W.mg_of X G a15) b15 (ok_law_fate F15 c_law_core c_law_order m_isinstance m_tuple m_len m_list m_sorted m_range kit_tuple kit_list)
  exact law_of (ok_law (P := l.prog) (w := w) (base := base) F16 c_law_size c_law_raw c_law_cells c_law_edge c_peeled c_law_fate m_list) law_true
end My

open PySem PySem.W PyProof.Rows
set_option maxRecDepth 100000 in
set_option maxHeartbeats 0 in
theorem PySem.Challenge.cw_lodge_k22_orders_walked_holds : PySem.Challenge.rw_lodge_k22_orders_walked.Holds := by
  w_on; o_law; k_head; (case hw => w_witness2)
  k_fill
  refine L3.walk3 (l := PySem.Challenge.rw_lodge_k22_orders_walked) (x := "_law_script") (k := 4) rfl rfl ⟨rfl, by decide, by decide⟩ (fun w h Y => PySem.W.kIn_of Y) ?F
  case F =>
    intro w mg fa h KX G hmg
    refine' My.all_mk KX G hmg ?a1 ?l1 ?c1 ?k1 ?a2 ?l2 ?c2 ?k2 ?a3 ?l3 ?c3 ?k3 ?a4 ?l4 ?c4 ?k4 ?a5 ?l5 ?c5 ?k5 ?a6 ?l6 ?c6 ?k6 ?a7 ?l7 ?c7 ?k7 ?a8 ?l8 ?c8 ?k8 ?a9 ?l9 ?c9 ?k9 ?a10 ?l10 ?c10 ?k10 ?a11 ?l11 ?c11 ?k11 ?a12 ?l12 ?c12 ?k12 ?a13 ?l13 ?c13 ?k13 ?a14 ?l14 ?c14 ?k14 ?a15 ?l15 ?c15 ?k15 ?a16 ?l16 ?c16 ?k16 ?z_len ?z_max ?z_range ?z_min ?z_list ?z_tuple ?z_enumerate ?z_isinstance ?z_int ?z_bool ?z_sorted ?z_set ?t_int_non ?t_int_bl ?t_int_int ?t_int_str ?t_int_lst ?t_int_tup ?t_bool_non ?t_bool_bl ?t_bool_int ?t_bool_str ?t_bool_lst ?t_bool_tup ?t_tuple_non ?t_tuple_bl ?t_tuple_int ?t_tuple_str ?t_tuple_lst ?t_tuple_tup ?t_list_non ?t_list_bl ?t_list_int ?t_list_str ?t_list_lst ?t_list_tup
    (case a1 => k_is)
    (case l1 => k_is)
    (case c1 => k_is)
    (case k1 => k_is)
    (case a2 => k_is)
    (case l2 => k_is)
    (case c2 => k_is)
    (case k2 => k_is)
    (case a3 => k_is)
    (case l3 => k_is)
    (case c3 => k_is)
    (case k3 => k_is)
    (case a4 => k_is)
    (case l4 => k_is)
    (case c4 => k_is)
    (case k4 => k_is)
    (case a5 => k_is)
    (case l5 => k_is)
    (case c5 => k_is)
    (case k5 => k_is)
    (case a6 => k_is)
    (case l6 => k_is)
    (case c6 => k_is)
    (case k6 => k_is)
    (case a7 => k_is)
    (case l7 => k_is)
    (case c7 => k_is)
    (case k7 => k_is)
    (case a8 => k_is)
    (case l8 => k_is)
    (case c8 => k_is)
    (case k8 => k_is)
    (case a9 => k_is)
    (case l9 => k_is)
    (case c9 => k_is)
    (case k9 => k_is)
    (case a10 => k_is)
    (case l10 => k_is)
    (case c10 => k_is)
    (case k10 => k_is)
    (case a11 => k_is)
    (case l11 => k_is)
    (case c11 => k_is)
    (case k11 => k_is)
    (case a12 => k_is)
    (case l12 => k_is)
    (case c12 => k_is)
    (case k12 => k_is)
    (case a13 => k_is)
    (case l13 => k_is)
    (case c13 => k_is)
    (case k13 => k_is)
    (case a14 => k_is)
    (case l14 => k_is)
    (case c14 => k_is)
    (case k14 => k_is)
    (case a15 => k_is)
    (case l15 => k_is)
    (case c15 => k_is)
    (case k15 => k_is)
    (case a16 => k_is)
    (case l16 => k_is)
    (case c16 => k_is)
    (case k16 => k_is)
    (case z_len => k_is)
    (case z_max => k_is)
    (case z_range => k_is)
    (case z_min => k_is)
    (case z_list => k_is)
    (case z_tuple => k_is)
    (case z_enumerate => k_is)
    (case z_isinstance => k_is)
    (case z_int => k_is)
    (case z_bool => k_is)
    (case z_sorted => k_is)
    (case z_set => k_is)
    (case t_int_non => kit_is)
    (case t_int_bl => kit_is)
    (case t_int_int => kit_is)
    (case t_int_str => kit_is)
    (case t_int_lst => kit_is)
    (case t_int_tup => kit_is)
    (case t_bool_non => kit_is)
    (case t_bool_bl => kit_is)
    (case t_bool_int => kit_is)
    (case t_bool_str => kit_is)
    (case t_bool_lst => kit_is)
    (case t_bool_tup => kit_is)
    (case t_tuple_non => kit_is)
    (case t_tuple_bl => kit_is)
    (case t_tuple_int => kit_is)
    (case t_tuple_str => kit_is)
    (case t_tuple_lst => kit_is)
    (case t_tuple_tup => kit_is)
    (case t_list_non => kit_is)
    (case t_list_bl => kit_is)
    (case t_list_int => kit_is)
    (case t_list_str => kit_is)
    (case t_list_lst => kit_is)
    (case t_list_tup => kit_is)
