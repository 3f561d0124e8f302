import PyProof.Rows.All
import Wide.All
import OpenK.AllK
import Wide.FinOn
import Lean
import PyProof.EqAt
import PyProof.EqKinds
import PyProof.TupleCall
import PySem.Challenge.RW_lodge_k02_mixed
set_option Elab.async false
set_option linter.all false
set_option maxRecDepth 100000
namespace L2
open PySem PySem.Spec PyProof.Rows

/-- a key: an int or a str -/
abbrev Key := Sum Int Str
def keyIs : Key → Value → Bool
  | .inl k, v => Value.isInt k v
  | .inr x, v => Value.isStrOf x v
def keyH (w : World) : Key → Int
  | .inl k => hashInt k
  | .inr x => hashStr w x
theorem keyIs_shape : ∀ {k : Key} {v : Value}, keyIs k v = true → (∃ i t, k = Sum.inl i ∧ v = Value.int i t) ∨ (∃ x t, k = Sum.inr x ∧ v = Value.str x t)
  | .inl i, v, h => by
    obtain ⟨t, e⟩ := Value.isInt_shape (k := i) (v := v) h
    exact .inl ⟨i, t, rfl, e⟩
  | .inr x, v, h => by
    obtain ⟨t, e⟩ := Value.isStrOf_shape (x := x) (v := v) h
    exact .inr ⟨x, t, rfl, e⟩
theorem keyIs_int (i : Int) (t : Tok) : keyIs (.inl i) (.int i t) = true := by simp [keyIs, Value.isInt]
theorem keyIs_str (x : Str) (t : Tok) : keyIs (.inr x) (.str x t) = true := by simp [keyIs, Value.isStrOf]
theorem key_ll (a b : Int) : decide ((Sum.inl a : Key) = Sum.inl b) = (a == b) := by
  by_cases e : a = b
  · subst e; simp
  · have h : ¬ (Sum.inl a : Key) = Sum.inl b := fun q => e (Sum.inl.inj q)
    rw [decide_eq_false h]
    exact (beq_eq_false_iff_ne.mpr e).symm
theorem key_rr (a b : Str) : decide ((Sum.inr a : Key) = Sum.inr b) = decide (a = b) := by
  by_cases e : a = b
  · subst e; simp
  · have h : ¬ (Sum.inr a : Key) = Sum.inr b := fun q => e (Sum.inr.inj q)
    rw [decide_eq_false h, decide_eq_false e]
theorem key_lr (a : Int) (b : Str) : decide ((Sum.inl a : Key) = Sum.inr b) = false := decide_eq_false (fun q => nomatch q)
theorem key_rl (a : Str) (b : Int) : decide ((Sum.inr a : Key) = Sum.inl b) = false := decide_eq_false (fun q => nomatch q)

def mixKind (prog : Program) (w : World) : PySem.KeyKind prog w Key where
  is := keyIs
  hash := keyH w
  inj := fun v a b ha hb => by
    rcases keyIs_shape ha with ⟨i, t, rfl, rfl⟩ | ⟨x, t, rfl, rfl⟩
    · rcases keyIs_shape hb with ⟨j, u, rfl, e⟩ | ⟨y, u, rfl, e⟩
      · injection e with e1 _; rw [e1]
      · exact nomatch e
    · rcases keyIs_shape hb with ⟨j, u, rfl, e⟩ | ⟨y, u, rfl, e⟩
      · exact nomatch e
      · injection e with e1 _; rw [e1]
  byValue := fun k v h => by
    rcases keyIs_shape h with ⟨i, t, rfl, rfl⟩ | ⟨x, t, rfl, rfl⟩ <;> rfl
  pyHash := fun hv h => by
    rcases keyIs_shape hv with ⟨i, t, rfl, rfl⟩ | ⟨x, t, rfl, rfl⟩
    · exact wpAny_pyHash_int h
    · exact wpAny_pyHash_str h
  eqBool := fun hu hv h => by
    rcases keyIs_shape hu with ⟨i, t, rfl, rfl⟩ | ⟨x, t, rfl, rfl⟩
    · rcases keyIs_shape hv with ⟨j, u, rfl, rfl⟩ | ⟨y, u, rfl, rfl⟩
      · rw [key_ll] at h; exact wpAny_eqBool_int h
      · rw [key_lr] at h; exact SeqAt.EqAt.int_str i t y u _ _ _ _ h
    · rcases keyIs_shape hv with ⟨j, u, rfl, rfl⟩ | ⟨y, u, rfl, rfl⟩
      · rw [key_rl] at h; exact SeqAt.EqAt.str_int x t j u _ _ _ _ h
      · rw [key_rr] at h; exact wpAny_eqBool_str h
  «strs» := fun k x t v h => by
    rcases keyIs_shape h with ⟨i, u, rfl, e⟩ | ⟨y, u, rfl, e⟩
    · exact nomatch e
    · injection e with e1 _
      subst e1
      cases v <;> rfl

theorem mixKind_is (prog : Program) (w : World) (k : Key) (v : Value) : (mixKind prog w).is k v = keyIs k v := rfl
theorem mixKind_int (prog : Program) (w : World) (i : Int) (t : Tok) : (mixKind prog w).is (.inl i) (.int i t) = true := keyIs_int i t
theorem mixKind_str (prog : Program) (w : World) (x : Str) (t : Tok) : (mixKind prog w).is (.inr x) (.str x t) = true := keyIs_str x t
end L2

namespace L2
open PySem PySem.Spec PyProof.Rows

/-- a value, without the heap -/
inductive V where
  | non | bl (b : Bool) | int (i : Int) | str (x : Str) | byt (b : Array UInt8) | flt (b : UInt64) | ref (a : Addr) | ty (n : String)
  deriving DecidableEq

def RelV : V → Value → Prop
  | .non, u => u = Value.none
  | .bl b, u => u = Value.bool b
  | .int i, u => ∃ t, u = Value.int i t
  | .str x, u => ∃ t, u = Value.str x t
  | .byt b, u => ∃ t, u = Value.bytes b t
  | .flt b, u => ∃ t, u = Value.float b t
  | .ref a, u => u = Value.ref a
  | .ty n, u => u = Value.type n

abbrev Vals : List V → List Value → Prop := Paired RelV
theorem Vals.length {xs : List V} {us : List Value} (r : Vals xs us) : xs.length = us.length := Paired.length r
theorem Vals.get : ∀ {xs : List V} {us : List Value} {i : Nat} {x : V}, Vals xs us → xs[i]? = some x → ∃ u, us[i]? = some u ∧ RelV x u
  | _, _, _, _, .nil, e => by simp at e
  | _, _, 0, _, .cons r _, e => by simp at e; subst e; exact ⟨_, rfl, r⟩
  | _, _, i + 1, x, .cons _ t, e => by
    obtain ⟨u, h1, h2⟩ := Vals.get (i := i) (x := x) t (by simpa using e)
    exact ⟨u, by simpa using h1, h2⟩
theorem Vals.set {x : V} {u : Value} (r : RelV x u) : ∀ {xs : List V} {us : List Value} (i : Nat), Vals xs us → Vals (xs.set i x) (us.set i u)
  | _, _, _, .nil => .nil
  | _, _, 0, .cons _ t => .cons r t
  | _, _, i + 1, .cons q t => .cons q (Vals.set r i t)
theorem Vals.append : ∀ {xs ys : List V} {us ws : List Value}, Vals xs us → Vals ys ws → Vals (xs ++ ys) (us ++ ws)
  | _, _, _, _, .nil, s => s
  | _, _, _, _, .cons r t, s => .cons r (Vals.append t s)
theorem Vals.take : ∀ {xs : List V} {us : List Value} (n : Nat), Vals xs us → Vals (xs.take n) (us.take n)
  | _, _, 0, _ => .nil
  | _, _, _ + 1, .nil => .nil
  | _, _, n + 1, .cons r t => .cons r (Vals.take n t)
theorem Vals.drop : ∀ {xs : List V} {us : List Value} (n : Nat), Vals xs us → Vals (xs.drop n) (us.drop n)
  | _, _, 0, r => r
  | _, _, _ + 1, .nil => .nil
  | _, _, n + 1, .cons _ t => Vals.drop n t
theorem Vals.none_of : ∀ {xs : List V} {us : List Value} {i : Nat}, Vals xs us → xs[i]? = none → us[i]? = none := fun {xs us i} r e => by
  have h1 := r.length
  have h2 : xs.length ≤ i := List.getElem?_eq_none_iff.mp e
  exact List.getElem?_eq_none_iff.mpr (by omega)

def RelO : Option V → Option Value → Prop
  | some v, some u => RelV v u
  | none, none => True
  | _, _ => False
def KV {κ : Type} : List (κ × V) → List (κ × Value) → Prop := Paired fun (p : κ × V) (q : κ × Value) => p.1 = q.1 ∧ RelV p.2 q.2

/-- a key of a dict (00_mix): an int or a text -/
def kV : Key → V
  | .inl i => .int i
  | .inr x => .str x

/-- what stands at a tracked address -/
inductive HO where
  /-- a list -/
  | lst (xs : List V)
  /-- a tuple (never changes) -/
  | tup (xs : List V)
  /-- a dict whose keys are ints and texts; one whose keys are tuples of ints and texts (the empty one is both) -/
  | dK (kvs : List (Key × V)) | dT (kvs : List (List Key × V))
  /-- a set of ints: its members, its size -/
  | set (S : Int → Bool) (n : Nat)
  /-- an instance of the class at C, its dict at dx, its attributes -/
  | ins (C dx : Addr) (fs : List (Str × V))
  /-- the dict of the instance at x -/
  | own (x : Addr)
  /-- the dict of an exception -/
  | xd (fs : List (Str × V))
  /-- a bound method, f of x -/
  | met (f x : Addr)
  /-- a range object lo, lo + 1, .. below hi -/
  | rng (lo hi : Int)
  /-- a thing that is known to the object (the script; a dict while a loop walks it): read, never written while it is so -/
  | frz (o : Obj) (u : HO)
  /-- a code object's table -/
  | tbl (ps : Array Value)
  /-- any other thing, by what is true of its one object (a def of one's own: SetO a S n := HO.ext fun h => ..) -/
  | ext (φ : Heap → Prop)

abbrev Hp := Addr → Option HO
def upd (H : Hp) (a : Addr) (o : HO) : Hp := fun b => if b = a then some o else H b
theorem upd_same {H : Hp} {a : Addr} {o : HO} : upd H a o a = some o := by unfold upd; rw [if_pos rfl]
theorem upd_ne {H : Hp} {a b : Addr} {o : HO} (h : b ≠ a) : upd H a o b = H b := by unfold upd; rw [if_neg h]
theorem upd_upd {H : Hp} {a : Addr} {o u : HO} : upd (upd H a o) a u = upd H a u := by
  funext b; unfold upd; split <;> rfl
/-- two objects of different content stand apart -/
theorem ne_of {H : Hp} {a b : Addr} {o u : HO} (h : H a = some o) (h' : H b = some u) (d : o ≠ u) : a ≠ b := by
  intro e; subst e; rw [h] at h'; exact d (Option.some.inj h')
theorem ne_of_none {H : Hp} {a b : Addr} {o : HO} (h : H a = some o) (h' : H b = none) : a ≠ b := by
  intro e; subst e; rw [h] at h'; cases h'

section
variable (P : Program) (w : World)
def ObjOk (H : Hp) (h : Heap) (a : Addr) : HO → Prop
  | .lst xs => xs.length ≤ sizeLine ∧ ∃ (its : List Value) (n : Nat), Vals xs its ∧ h.get? a = some { cls := .type "list", data := .seq its.toArray n }
  | .tup xs => xs.length ≤ sizeLine ∧ ∃ its : List Value, Vals xs its ∧ IsTup h a its.toArray
  | .dK kvs => kvs.length ≤ sizeLine ∧ (a == sysModules) = false ∧ ∃ vs, KV kvs vs ∧ h.DictOf (mixKind P w) a vs
  | .dT kvs => kvs.length ≤ sizeLine ∧ (a == sysModules) = false ∧ ∃ xs : List (List Key × Addr × Value),
      Paired (fun (p : List Key × V) (q : List Key × Addr × Value) => p.1 = q.1 ∧ H q.2.1 = some (.tup (p.1.map kV)) ∧ RelV p.2 q.2.2) kvs xs ∧
      ∃ o es ep, h.get? a = some o ∧ o.ExactDict ∧ o.data = .dict es ep ∧ es.toList = xs.map (entryOfKey (tupleKind (mixKind P w))) ∧ (xs.map (·.1)).Nodup
  | .set S n => h.SetOf (intKind P w) a S n
  | .ins C dx fs => H dx = some (.own a) ∧ fs.length ≤ 1000 ∧ dx ≠ a ∧ h.get? a = some (PySem.W.instObj C dx) ∧
      ∃ mA, h.Ns1 dx mA ∧ (∀ f, RelO (fs.lookup f) (mA f)) ∧ PySem.Within mA (fs.map (·.1))
  | .own _ => ∃ o, h.get? a = some o
  | .xd fs => ∃ mA, h.Ns1 a mA ∧ ∀ f, RelO (fs.lookup f) (mA f)
  | .rng lo hi => ∃ t u v, h.get? a = some { cls := .type "range", data := .fields #[.int lo t, .int hi u, .int 1 v] }
  | .frz o u => h.get? a = some o ∧ ObjOk H h a u
  | .tbl ps => h.get? a = some { cls := .none, data := .fields ps }
  | .met f x => h.get? a = some (PySem.W.methodObj (.ref f) (.ref x))
  | .ext φ => φ h ∧ (∃ o, h.get? a = some o) ∧ ∀ h1 h2 : Heap, φ h1 → (∀ o, h1.get? a = some o → h2.get? a = some o) → φ h2
/-- the abstract heap is held -/
def HOk (H : Hp) (h : Heap) : Prop := ∀ a o, H a = some o → ObjOk P w H h a o
end

section
variable {P : Program} {w : World} {H H' : Hp} {h h' : Heap} {a : Addr} {o : HO}
theorem ObjOk.lt (x : ObjOk P w H h a o) : a < h.objs.size := by
  cases o with
  | lst xs => obtain ⟨_, _, _, _, e⟩ := x; exact Heap.lt_size e
  | tup xs => obtain ⟨_, _, _, p⟩ := x; exact p.lt
  | dK kvs => obtain ⟨_, _, _, _, o, _, _, e, _⟩ := x; exact Heap.lt_size e
  | dT kvs => obtain ⟨_, _, _, _, o, _, _, e, _⟩ := x; exact Heap.lt_size e
  | set S n => obtain ⟨o, _, _, _, e, _⟩ := x; exact Heap.lt_size e
  | ins C dx fs => obtain ⟨_, _, _, e, _⟩ := x; exact Heap.lt_size e
  | own y => obtain ⟨_, e⟩ := x; exact Heap.lt_size e
  | xd fs => obtain ⟨_, ⟨_, _, _, e, _⟩, _⟩ := x; exact Heap.lt_size e
  | rng lo hi => obtain ⟨_, _, _, e⟩ := x; exact Heap.lt_size e
  | frz ob u => obtain ⟨e, _⟩ := x; exact Heap.lt_size e
  | tbl ps => exact Heap.lt_size (show h.get? a = some _ from x)
  | met f y => exact Heap.lt_size (show h.get? a = some _ from x)
  | ext φ => obtain ⟨_, ⟨_, e⟩, _⟩ := x; exact Heap.lt_size e
theorem Paired.mapP {α β : Type} {F G : α → β → Prop} : ∀ {l₁ : List α} {l₂ : List β}, Paired F l₁ l₂ → (∀ a b, F a b → G a b) → Paired G l₁ l₂
  | _, _, .nil, _ => .nil
  | _, _, .cons r t, f => .cons (f _ _ r) (Paired.mapP t f)
theorem Paired.imp' {α β : Type} {F G : α → β → Prop} (f : ∀ a b, F a b → G a b) {l₁ : List α} {l₂ : List β} (r : Paired F l₁ l₂) : Paired G l₁ l₂ := Paired.mapP r f
/-- what an object's description leans on: its own object, its own dict, the tuples -/
theorem ObjOk.stay (x : ObjOk P w H h a o) (k : ∀ b u, (b = a ∨ H b = some (.own a)) → h.get? b = some u → h'.get? b = some u)
    (ho : ∀ b, H b = some (.own a) → H' b = some (.own a)) (ht : ∀ b xs, H b = some (.tup xs) → H' b = some (.tup xs)) : ObjOk P w H' h' a o := by
  induction o with
  | lst xs => obtain ⟨z, its, n, r, e⟩ := x; exact ⟨z, its, n, r, k _ _ (.inl rfl) e⟩
  | tup xs => obtain ⟨z, its, r, ob, e, c⟩ := x; exact ⟨z, its, r, ob, k _ _ (.inl rfl) e, c⟩
  | dK kvs => obtain ⟨z, y, vs, r, ob, es, ep, e, c⟩ := x; exact ⟨z, y, vs, r, ob, es, ep, k _ _ (.inl rfl) e, c⟩
  | dT kvs =>
    obtain ⟨z, y, xs, r, ob, es, ep, e, c⟩ := x
    exact ⟨z, y, xs, Paired.mapP r fun p q z => ⟨z.1, ht _ _ z.2.1, z.2.2⟩, ob, es, ep, k _ _ (.inl rfl) e, c⟩
  | set S n => obtain ⟨ob, es, ep, t, e, c⟩ := x; exact ⟨ob, es, ep, t, k _ _ (.inl rfl) e, c⟩
  | ins C dx fs =>
    obtain ⟨d, z, ne, e, mA, ⟨od, es, ep, e2, c⟩, r⟩ := x
    exact ⟨ho _ d, z, ne, k _ _ (.inl rfl) e, mA, ⟨od, es, ep, k _ _ (.inr d) e2, c⟩, r⟩
  | own y => obtain ⟨ob, e⟩ := x; exact ⟨ob, k _ _ (.inl rfl) e⟩
  | xd fs => obtain ⟨mA, ⟨od, es, ep, e, c⟩, r⟩ := x; exact ⟨mA, ⟨od, es, ep, k _ _ (.inl rfl) e, c⟩, r⟩
  | rng lo hi => obtain ⟨t, u, v, e⟩ := x; exact ⟨t, u, v, k _ _ (.inl rfl) e⟩
  | frz ob u ih => obtain ⟨e, q⟩ := x; exact ⟨k _ _ (.inl rfl) e, ih q⟩
  | tbl ps =>
    have e : h.get? a = some { cls := .none, data := .fields ps } := x
    show h'.get? a = some { cls := .none, data := .fields ps }
    exact k a _ (.inl rfl) e
  | met f y =>
    have e : h.get? a = some (PySem.W.methodObj (.ref f) (.ref y)) := x
    show h'.get? a = some (PySem.W.methodObj (.ref f) (.ref y))
    exact k a _ (.inl rfl) e
  | ext φ => obtain ⟨p, ⟨o, e⟩, st⟩ := x; exact ⟨st _ _ p fun o q => k _ _ (.inl rfl) q, ⟨o, k _ _ (.inl rfl) e⟩, st⟩
theorem HOk.lt (x : HOk P w H h) (e : H a = some o) : a < h.objs.size := (x a o e).lt
theorem HOk.fresh (x : HOk P w H h) (e : h.objs.size ≤ a) : H a = none := by
  cases q : H a with
  | none => rfl
  | some u => exact absurd (Nat.lt_of_lt_of_le (x.lt q) e) (Nat.lt_irrefl _)
/-- every object of the heap is kept -/
theorem HOk.kept (x : HOk P w H h) (k : ∀ b u, h.get? b = some u → h'.get? b = some u) : HOk P w H h' := fun a o e =>
  (x a o e).stay (fun b u _ q => k b u q) (fun _ q => q) fun _ _ q => q
/-- a new object is laid and tracked -/
theorem HOk.laid (x : HOk P w H h) (k : ∀ b u, h.get? b = some u → h'.get? b = some u) (hp : h.objs.size ≤ a) (new : ObjOk P w (upd H a o) h' a o) : HOk P w (upd H a o) h' := fun b u e => by
  have hn := x.fresh hp
  by_cases hb : b = a
  · subst hb; rw [upd_same] at e; cases e; exact new
  · rw [upd_ne hb] at e
    exact (x b u e).stay (fun c v _ q => k c v q) (fun c q => by rw [upd_ne (ne_of_none q hn)]; exact q) fun c xs q => by rw [upd_ne (ne_of_none q hn)]; exact q
end

/-- what may be read as u: it is u, or a known u -/
def Rd (H : Hp) (a : Addr) (u : HO) : Prop := H a = some u ∨ ∃ o, H a = some (.frz o u)
theorem Rd.of {H : Hp} {a : Addr} {u : HO} (h : H a = some u) : Rd H a u := .inl h
theorem Rd.ok {P : Program} {w : World} {H : Hp} {h : Heap} {a : Addr} {u : HO} (r : Rd H a u) (x : HOk P w H h) : ObjOk P w H h a u := by
  rcases r with r | ⟨o, r⟩
  · exact x a u r
  · obtain ⟨_, q⟩ := x a _ r
    exact q
/-- what may be written -/
def Mut : Option HO → Prop
  | some (.lst _) => True
  | some (.dK _) => True
  | some (.dT _) => True
  | some (.set _ _) => True
  | some (.ins _ _ _) => True
  | some (.ext _) => True
  | _ => False
section
variable {P : Program} {w : World} {H : Hp} {h h' : Heap} {x e : Addr} {o' : HO}
/-- the object at e is changed: x itself, or the dict of the instance x -/
theorem HOk.write (ok : HOk P w H h) (mu : Mut (H x)) (he : e = x ∨ H e = some (.own x)) (k : ∀ b u, b ≠ e → h.get? b = some u → h'.get? b = some u) (heo : ∃ u, h'.get? e = some u)
    (new : ObjOk P w (upd H x o') h' x o') : HOk P w (upd H x o') h' := fun b u q => by
  have nown : ∀ c y, H c = some (.own y) → c ≠ x := fun c y r z => by subst z; rw [r] at mu; exact mu
  have ntup : ∀ c xs, H c = some (.tup xs) → c ≠ x := fun c xs r z => by subst z; rw [r] at mu; exact mu
  by_cases hb : b = x
  · subst hb; rw [upd_same] at q; cases q; exact new
  · rw [upd_ne hb] at q
    by_cases hbe : b = e
    · have q' : H b = some (.own x) := by
        rcases he with z | z
        · exact absurd (hbe.trans z) hb
        · rw [hbe]; exact z
      rw [q] at q'; cases q'
      obtain ⟨v, hv⟩ := heo
      exact ⟨v, by rw [hbe]; exact hv⟩
    · refine (ok b u q).stay (fun c v hc r => k c v ?_ r) (fun c r => by rw [upd_ne (nown c b r)]; exact r) fun c xs r => by rw [upd_ne (ntup c xs r)]; exact r
      rcases hc with rfl | hc
      · exact hbe
      · rintro rfl
        rcases he with z | z
        · exact nown c b hc z
        · rw [hc] at z; cases z; exact hb rfl
end

/-! ### kept unless tracked; of the frames at fs (the callers') the slots may change (an exception that passes writes there); of the records at ex (iterators) nothing is said -/
structure Un (fs ex : List Addr) (H H' : Hp) (h h' : Heap) : Prop where
  keep : ∀ b o, h.get? b = some o → H b = none → b ∉ fs → b ∉ ex → h'.get? b = some o
  slot : ∀ b o, h.get? b = some o → H b = none → b ∈ fs → b ∉ ex → ∃ sl, h'.get? b = some { o with slots := sl }
  free : ∀ b o, h.get? b = some o → H b = none → b ∉ ex → H' b = none
  there : ∀ b o, h.get? b = some o → b ∉ ex → ∃ o', h'.get? b = some o'
  tups : ∀ b xs, H b = some (.tup xs) → H' b = some (.tup xs)
  frzs : ∀ b o u, H b = some (.frz o u) → H' b = some (.frz o u)
  tbls : ∀ b ps, H b = some (.tbl ps) → ∃ more, H' b = some (.tbl (ps ++ more))
section
variable {fs fs' ex ex' : List Addr} {H H1 H2 : Hp} {h h1 h2 h' : Heap} {a x e : Addr} {o : HO}
theorem Un.any (u : Un fs ex H H1 h h1) {b : Addr} {ob : Obj} (q : h.get? b = some ob) (n : H b = none) (hx : b ∉ ex) : ∃ sl, h1.get? b = some { ob with slots := sl } := by
  by_cases hb : b ∈ fs
  · exact u.slot b ob q n hb hx
  · exact ⟨ob.slots, u.keep b ob q n hb hx⟩
theorem Un.trans (a : Un fs ex H H1 h h1) (b : Un fs ex H1 H2 h1 h2) : Un fs ex H H2 h h2 where
  keep := fun c ob q n hc hx => b.keep c ob (a.keep c ob q n hc hx) (a.free c ob q n hx) hc hx
  slot := fun c ob q n hc hx => by
    obtain ⟨sl, e1⟩ := a.slot c ob q n hc hx
    obtain ⟨sl', e2⟩ := b.slot c _ e1 (a.free c ob q n hx) hc hx
    exact ⟨sl', e2⟩
  free := fun c ob q n hx => by
    obtain ⟨o', e1⟩ := a.there c ob q hx
    exact b.free c o' e1 (a.free c ob q n hx) hx
  there := fun c ob q hx => by
    obtain ⟨o', e1⟩ := a.there c ob q hx
    exact b.there c o' e1 hx
  tups := fun c xs q => b.tups c xs (a.tups c xs q)
  frzs := fun c ob xs q => b.frzs c ob xs (a.frzs c ob xs q)
  tbls := fun c ps q => by
    obtain ⟨m1, e1⟩ := a.tbls c ps q
    obtain ⟨m2, e2⟩ := b.tbls c _ e1
    exact ⟨m1 ++ m2, by rw [e2, Array.append_assoc]⟩
theorem Un.kept (k : ∀ b u, h.get? b = some u → h'.get? b = some u) : Un fs ex H H h h' :=
  ⟨fun b ob q _ _ _ => k b ob q, fun b ob q _ _ _ => ⟨ob.slots, k b ob q⟩, fun _ _ _ n _ => n, fun b ob q _ => ⟨ob, k b ob q⟩, fun _ _ q => q, fun _ _ _ q => q, fun _ ps q => ⟨#[], by rw [q]; simp⟩⟩
theorem Un.refl : Un fs ex H H h h := Un.kept fun _ _ q => q
theorem Un.laid (k : ∀ b u, h.get? b = some u → h'.get? b = some u) (hp : h.objs.size ≤ a) (hn : H a = none) : Un fs ex H (upd H a o) h h' where
  keep := fun b u q _ _ _ => k b u q
  slot := fun b u q _ _ _ => ⟨u.slots, k b u q⟩
  free := fun b u q n _ => by rw [upd_ne (Nat.ne_of_lt (Nat.lt_of_lt_of_le (Heap.lt_size q) hp))]; exact n
  there := fun b u q _ => ⟨u, k b u q⟩
  tups := fun b xs q => by rw [upd_ne (ne_of_none q hn)]; exact q
  frzs := fun b u xs q => by rw [upd_ne (ne_of_none q hn)]; exact q
  tbls := fun b ps q => ⟨#[], by rw [upd_ne (ne_of_none q hn), q]; simp⟩
theorem Un.write (mu : Mut (H x)) (he : e = x ∨ H e = some (.own x)) (k : ∀ b u, b ≠ e → h.get? b = some u → h'.get? b = some u) (heo : ∃ u, h'.get? e = some u) : Un fs ex H (upd H x o) h h' := by
  have hx : ∀ b, H b = none → b ≠ x := fun b n z => by subst z; rw [n] at mu; exact mu
  have hb : ∀ b, H b = none → b ≠ e := fun b n z => by
    subst z
    rcases he with r | r
    · exact hx b n r
    · rw [n] at r; cases r
  have hm : ∀ b u, H b = some u → ¬ Mut (some u) → b ≠ x := fun b u q nm z => by subst z; rw [q] at mu; exact nm mu
  refine ⟨fun b u q n _ _ => k b u (hb b n) q, fun b u q n _ _ => ⟨u.slots, k b u (hb b n) q⟩, fun b u q n _ => by rw [upd_ne (hx b n)]; exact n, fun b u q _ => ?_,
    fun b xs q => by rw [upd_ne (hm b _ q fun z => z)]; exact q, fun b u xs q => by rw [upd_ne (hm b _ q fun z => z)]; exact q, fun b ps q => ⟨#[], by rw [upd_ne (hm b _ q fun z => z), q]; simp⟩⟩
  by_cases hbe : b = e
  · subst hbe; exact heo
  · exact ⟨u, k b u hbe q⟩
theorem Un.mono (u : Un fs ex H H1 h h1) (hs : ∀ b ∈ fs, b ∈ fs') (hx : ∀ b ∈ ex, b ∈ ex') : Un fs' ex' H H1 h h1 :=
  ⟨fun b ob q n hb he => u.keep b ob q n (fun z => hb (hs b z)) fun z => he (hx b z), fun _ _ q n _ he => u.any q n fun z => he (hx _ z), fun b ob q n he => u.free b ob q n fun z => he (hx b z), fun b ob q he => u.there b ob q fun z => he (hx b z), u.tups, u.frzs, u.tbls⟩
end

/-! ### the heap without what is tracked -/
def trk (h : Heap) (H : Hp) : List Addr := (List.range h.objs.size).filter fun a => (H a).isSome
def hidT (h : Heap) (H : Hp) : Heap := PySem.W.hideAll h (trk h H)
theorem hidT_size (h : Heap) (H : Hp) : (hidT h H).objs.size = h.objs.size := PySem.W.hideAll_size _ _
theorem hidT_get {h : Heap} {H : Hp} {b : Addr} {o : Obj} (e : h.get? b = some o) (n : H b = none) : (hidT h H).get? b = some o :=
  PySem.W.hideAll_get _ e fun hm => by
    have q : (H b).isSome = true := (List.mem_filter.mp hm).2
    rw [n] at q; simp at q
theorem of_hidT {h : Heap} {H : Hp} {b : Addr} {o : Obj} (e : (hidT h H).get? b = some o) : h.get? b = some o ∧ H b = none := by
  have e' : h.get? b = some o := PySem.W.of_hideAll (trk h H) e
  refine ⟨e', ?_⟩
  cases q : H b with
  | none => rfl
  | some x =>
    have hm : b ∈ trk h H := List.mem_filter.mpr ⟨List.mem_range.mpr (Heap.lt_size e'), by simp [q]⟩
    have z : (hidT h H).get? b = none := PySem.W.hideAll_none (trk h H) hm
    rw [z] at e; cases e

/-! ### OpenK's ledger, filled with every new object but one -/
def allNews (g h : Heap) (L : Addr) : List (Addr × Obj) := (List.range h.objs.size).filterMap fun a => if a = L ∨ (g.get? a).isSome = true then none else (h.get? a).map fun o => (a, o)
theorem mem_allNews {g h : Heap} {L a : Addr} {o : Obj} (h1 : a ≠ L) (h2 : g.get? a = none) (h3 : h.get? a = some o) : (a, o) ∈ allNews g h L :=
  List.mem_filterMap.mpr ⟨a, List.mem_range.mpr (Heap.lt_size h3), by simp [h1, h2, h3]⟩
theorem of_mem_allNews {g h : Heap} {L : Addr} {p : Addr × Obj} (hp : p ∈ allNews g h L) : p.1 ≠ L ∧ g.get? p.1 = none ∧ h.get? p.1 = some p.2 := by
  obtain ⟨b, _, e⟩ := List.mem_filterMap.mp hp
  split at e
  · cases e
  · rename_i hn
    cases q : h.get? b with
    | none => rw [q] at e; simp at e
    | some u =>
      rw [q] at e
      simp only [Option.map_some, Option.some.injEq] at e
      subst e
      refine ⟨fun z => hn (.inl z), ?_, q⟩
      show g.get? b = none
      cases r : g.get? b with
      | none => rfl
      | some v => exact (hn (.inr (by simp [r]))).elim
def rest (g h : Heap) (L d : Addr) : List (Addr × Obj) := (allNews g h L).filter fun p => decide (p.1 ≠ d)
theorem rest_ne {g h : Heap} {L d : Addr} : ∀ p ∈ rest g h L d, p.1 ≠ d := fun p hp => of_decide_eq_true (List.mem_filter.mp hp).2
theorem mem_rest {g h : Heap} {L d a : Addr} {o : Obj} (h1 : a ≠ L) (h2 : g.get? a = none) (h3 : h.get? a = some o) (h4 : a ≠ d) : (a, o) ∈ rest g h L d :=
  List.mem_filter.mpr ⟨mem_allNews h1 h2 h3, decide_eq_true h4⟩
theorem news_all {g h : Heap} {L : Addr} : News g L h (allNews g h L) := fun p hp => let ⟨a, b, c⟩ := of_mem_allNews hp; ⟨c, a, b⟩
theorem news_at {g h : Heap} {L d : Addr} {o : Obj} (h1 : d ≠ L) (h2 : g.get? d = none) (h3 : h.get? d = some o) : News g L h ((d, o) :: rest g h L d) := fun p hp => by
  rcases List.mem_cons.mp hp with rfl | hp
  · exact ⟨h3, h1, h2⟩
  · exact news_all p (List.mem_filter.mp hp).1
/-- behind a rule that changed d alone: all else but the frame is kept -/
theorem kept_of_news {g h h' : Heap} {L d : Addr} {m : Str → Option Value} (k : ∀ b o, g.get? b = some o → h.get? b = some o) (F : Fr g L h' m) (N : News g L h' (rest g h L d)) :
    ∀ b o, b ≠ L → b ≠ d → h.get? b = some o → h'.get? b = some o := fun b o h1 h2 e => by
  cases q : g.get? b with
  | some u =>
    have := k b u q
    rw [e] at this; cases this
    exact F.keep b _ q
  | none => exact (N (b, o) (mem_rest h1 q e h2)).1
end L2

namespace L2
open PySem PySem.Spec PyProof.Rows

/-- the module's facts, over the base: the heap at the law's entry without what is tracked there -/
structure Mod (K : PySem.W.Frag) (mg : Str → Option Value) (base : Heap) : Prop where
  kin : K.In base
  glob : base.Ns mainGlobals mg
  blt : ∃ mb, base.Ns builtinsNs mb ∧ ∀ x : Str, x ≠ "__name__" → mb x = bootBuiltins x
  nolimit : base.NoLimit

/-- the context: a def's body (or a comprehension's block) running. base: fixed through the whole law; s₀, H₀: the entry; outer: the frames whose slots others may change (a def's callers); stack: all frames that run;
   ex: iterators that were made ahead of the entry and are walked here (a comprehension's); fn: the names whose cells were made at the entry (a def: all; a comprehension's block: its own); calm: not within an except suite; pn: pins that every state bears; xe: what is wanted of an exception that leaves the code -/
structure Cx where
  prog : Program
  w : World
  K : PySem.W.Frag
  mg : Str → Option Value
  base : Heap
  A : Around
  N : List Str
  s₀ : Shared
  H₀ : Hp
  env : Env
  outer : List Env
  stack : List Env
  ex : List Addr
  fn : Str → Bool
  calm : Bool
  pn : List (Addr × Obj)
  xe : Value → Shared → Prop
/-- the callers' frames -/
def frs (l : List Env) : List Addr := l.filterMap (·.frame)
abbrev Cx.fs (X : Cx) : List Addr := frs X.outer

def Vis (sc : Scope) (x : Str) : Prop := sc.names.lookup x = some .local ∨ sc.names.lookup x = some .cell ∨ sc.names.lookup x = some .free
def Loc (sc : Scope) (x : Str) : Prop := sc.names.lookup x = some .local ∨ sc.names.lookup x = some .cell
def Look (env : Env) (h : Heap) (m : Str → Option Value) (x : Str) (u : Value) : Prop :=
  (env.kindOf x = some .local ∧ m x = some u) ∨ ((env.kindOf x = some .cell ∨ env.kindOf x = some .free) ∧ ∃ c, env.cells.lookup x = some c ∧ h.IsCell c (some u))

structure Cx.Ok (X : Cx) : Prop where
  mod : Mod X.K X.mg X.base
  kind : X.env.scope.kind = .function
  glob : X.env.globals = mainGlobals
  blt : X.env.builtins = builtinsNs
  above : X.s₀.heap.objs.size ≤ X.env.locals
  inj : ∀ x y c, X.env.cells.lookup x = some c → X.env.cells.lookup y = some c → x = y
  has : ∀ x, (X.env.kindOf x = some .cell ∨ X.env.kindOf x = some .free) → ∃ c, X.env.cells.lookup x = some c
  cab : ∀ x c, X.fn x = true → X.env.cells.lookup x = some c → X.s₀.heap.objs.size ≤ c
  hd : X.calm = true → X.A.handled = none
  frames : X.A.frames = some X.stack
  stk : X.stack = X.outer ∨ (X.stack = X.env :: X.outer ∧ X.env.frame = some X.env.locals)
  exf : ∀ b ∈ X.ex, b ≠ X.env.locals ∧ ∀ x c, X.env.cells.lookup x = some c → c ≠ b
  bs : ∀ b o, X.base.get? b = some o → X.s₀.heap.get? b = some o ∧ X.H₀ b = none
  bsz : X.base.objs.size ≤ X.s₀.heap.objs.size
  noex : ∀ b o, X.base.get? b = some o → b ∉ X.ex
  exfs : ∀ b ∈ X.ex, b ∉ X.fs
  funs : X.s₀.heap.FunFrames X.base X.outer
  frf : ∀ b ∈ X.fs, X.H₀ b = none

structure Inv (X : Cx) (pins : List (Addr × Obj)) (σ : List (Option V)) (H : Hp) (s : Shared) : Prop where
  ok : X.Ok
  os : s.os = X.s₀.os
  bare : AllBare s.gens
  base : Un X.fs X.ex X.H₀ H X.s₀.heap s.heap
  loc : ∃ m, s.heap.Ns X.env.locals m ∧ ∀ (i : Nat) (x : Str) (v : V), X.N[i]? = some x → σ[i]? = some (some v) → Vis X.env.scope x → ∃ u, RelV v u ∧ Look X.env s.heap m x u
  cell : ∀ x c, X.env.cells.lookup x = some c → ∃ v, s.heap.IsCell c v
  free : H X.env.locals = none
  freeC : ∀ x c, X.env.cells.lookup x = some c → H c = none
  pin : ∀ p ∈ X.pn ++ pins, s.heap.get? p.1 = some p.2 ∧ H p.1 = none ∧ p.1 ≠ X.env.locals ∧ p.1 ∉ X.fs ∧ ∀ v, p.2.data ≠ .cell v
  hok : HOk X.prog X.w H s.heap
  len : σ.length = X.N.length

section
variable {X : Cx} {pins : List (Addr × Obj)} {σ : List (Option V)} {H H' : Hp} {s : Shared} {h' : Heap}

theorem Cx.Ok.nofr (ok : X.Ok) {b : Addr} {o : Obj} (e : X.base.get? b = some o) : b ∉ X.fs := fun hb => by
  have := (ok.funs.mem hb).1
  rw [e] at this; cases this
theorem Inv.bs (I : Inv X pins σ H s) : ∀ b o, X.base.get? b = some o → s.heap.get? b = some o ∧ H b = none := fun b o e =>
  ⟨I.base.keep b o (I.ok.bs b o e).1 (I.ok.bs b o e).2 (I.ok.nofr e) (I.ok.noex b o e), I.base.free b o (I.ok.bs b o e).1 (I.ok.bs b o e).2 (I.ok.noex b o e)⟩
theorem Inv.bk (I : Inv X pins σ H s) : ∀ b o, X.base.get? b = some o → s.heap.get? b = some o := fun b o e => (I.bs b o e).1
theorem Inv.mod (I : Inv X pins σ H s) : Mod X.K X.mg X.base := I.ok.mod
theorem Inv.kIn (I : Inv X pins σ H s) : X.K.In s.heap := I.ok.mod.kin.keeps I.bk
theorem Inv.nolimit (I : Inv X pins σ H s) : s.heap.NoLimit := I.ok.mod.nolimit.keeps I.bk
/-- the frame over the base: for OpenK's rules (K.In X.base is I.mod.kin) -/
theorem Inv.fr (I : Inv X pins σ H s) : ∃ m, Fr X.base X.env.locals s.heap m :=
  let ⟨m, hn, _⟩ := I.loc
  ⟨m, hn, I.bk, Nat.le_trans I.ok.bsz I.ok.above⟩
theorem Inv.lt (I : Inv X pins σ H s) : X.env.locals < s.heap.objs.size := let ⟨_, hn, _⟩ := I.loc; hn.lt
theorem Inv.sz (I : Inv X pins σ H s) : X.s₀.heap.objs.size ≤ s.heap.objs.size := Nat.le_trans I.ok.above (Nat.le_of_lt I.lt)
theorem Inv.nofs (I : Inv X pins σ H s) {a : Addr} (h : s.heap.objs.size ≤ a) : a ∉ X.fs := fun hb => by
  obtain ⟨_, o, ho, _⟩ := I.ok.funs.mem hb
  exact absurd (Nat.lt_of_lt_of_le (Heap.lt_size ho) (Nat.le_trans I.sz h)) (Nat.lt_irrefl _)
theorem Inv.cne (I : Inv X pins σ H s) : ∀ x c, X.env.cells.lookup x = some c → c ≠ X.env.locals := fun x c e z => by
  obtain ⟨v, o, ho, hd⟩ := I.cell x c e
  obtain ⟨m, ⟨o', es, ep, ho', hd', _⟩, _⟩ := I.loc
  rw [z, ho'] at ho; cases ho; rw [hd'] at hd; cases hd
theorem Inv.funs (I : Inv X pins σ H s) : s.heap.FunFrames X.base X.outer := by
  have all : ∀ (l : List Env), (∀ b ∈ frs l, b ∈ X.fs) → X.s₀.heap.FunFrames X.base l → s.heap.FunFrames X.base l := by
    intro l
    induction l with
    | nil => intro _ _; trivial
    | cons env r ih =>
      intro hs hl
      obtain ⟨hk, ⟨L, o, hf, hn, ho, hd⟩, hr⟩ := hl
      have hL : L ∈ X.fs := hs L (by unfold frs; rw [List.filterMap_cons, hf]; exact List.mem_cons_self)
      obtain ⟨sl, e⟩ := I.base.slot L o ho (I.ok.frf L hL) hL fun z => I.ok.exfs L z hL
      exact ⟨hk, ⟨L, _, hf, hn, e, hd⟩, ih (fun b hb => hs b (by unfold frs; rw [List.filterMap_cons, hf]; exact List.mem_cons_of_mem _ hb)) hr⟩
  exact all X.outer (fun _ hb => hb) I.ok.funs

/-- the frames that run, for a call -/
theorem Inv.stack (I : Inv X pins σ H s) : s.heap.FunFrames X.base X.stack := by
  rcases I.ok.stk with e | ⟨e, hf⟩
  · rw [e]; exact I.funs
  · rw [e]
    obtain ⟨m, hn, _⟩ := I.loc
    refine .cons (by rw [I.ok.kind]; decide) hf hn ?_ I.funs
    exact Heap.get?_none_of_le (Nat.le_trans I.ok.bsz I.ok.above)
theorem Inv.stkSub (I : Inv X pins σ H s) : ∀ b ∈ frs X.stack, b ∈ X.env.locals :: X.fs := fun b hb => by
  rcases I.ok.stk with e | ⟨e, hf⟩
  · rw [e] at hb; exact List.mem_cons_of_mem _ hb
  · rw [e] at hb
    unfold frs at hb
    rw [List.filterMap_cons, hf] at hb
    exact hb
theorem Inv.stkFree (I : Inv X pins σ H s) : ∀ b ∈ frs X.stack, H b = none := fun b hb => by
  rcases List.mem_cons.mp (I.stkSub b hb) with e | hb
  · rw [e]; exact I.free
  · obtain ⟨_, o, ho, _⟩ := I.ok.funs.mem hb
    exact I.base.free b o ho (I.ok.frf b hb) fun z => I.ok.exfs b z hb

/-- THE STEP: the untracked objects but the frame and the records at ch are kept (the callers' frames up to slots), the frame's map is kept, the new abstract heap is held -/
theorem Inv.step {g' : Array GenState} {t' : Nat} {d' : Drawn} {ch : List Addr} (I : Inv X pins σ H s)
    (hch : ∀ b ∈ ch, (b ∈ X.ex ∨ X.s₀.heap.objs.size ≤ b) ∧ b ≠ X.env.locals ∧ (∀ x c, X.env.cells.lookup x = some c → c ≠ b) ∧ ∀ p ∈ X.pn ++ pins, p.1 ≠ b)
    (keep : ∀ b o, b ≠ X.env.locals → b ∉ X.fs → b ∉ ch → s.heap.get? b = some o → H b = none → h'.get? b = some o)
    (slot : ∀ b o, b ≠ X.env.locals → b ∈ X.fs → b ∉ ch → s.heap.get? b = some o → H b = none → ∃ sl, h'.get? b = some { o with slots := sl }) (free : ∀ b o, b ∉ ch → s.heap.get? b = some o → H b = none → H' b = none)
    (there : ∀ b o, b ∉ ch → s.heap.get? b = some o → ∃ o', h'.get? b = some o')
    (tups : ∀ b xs, H b = some (.tup xs) → H' b = some (.tup xs)) (frzs : ∀ b o u, H b = some (.frz o u) → H' b = some (.frz o u)) (tbls : ∀ b ps, H b = some (.tbl ps) → ∃ more, H' b = some (.tbl (ps ++ more)))
    (ns : ∀ m, s.heap.Ns X.env.locals m → h'.Ns X.env.locals m) (hok : HOk X.prog X.w H' h') (hg : AllBare g') :
    Inv X pins σ H' { s with heap := h', gens := g', drawn := d', toks := t' } := by
  have neL : ∀ b o, X.s₀.heap.get? b = some o → b ≠ X.env.locals := fun b o e => Nat.ne_of_lt (Nat.lt_of_lt_of_le (Heap.lt_size e) I.ok.above)
  have neC : ∀ b o, X.s₀.heap.get? b = some o → b ∉ X.ex → b ∉ ch := fun b o e hx hb => by
    rcases (hch b hb).1 with z | z
    · exact hx z
    · exact absurd (Nat.lt_of_lt_of_le (Heap.lt_size e) z) (Nat.lt_irrefl _)
  have cellK : ∀ x c, X.env.cells.lookup x = some c → ∀ v, s.heap.IsCell c v → h'.IsCell c v := fun x c e v ⟨o, ho, hd⟩ => by
    have nch : c ∉ ch := fun z => (hch c z).2.2.1 x c e rfl
    by_cases hc : c ∈ X.fs
    · obtain ⟨sl, q⟩ := slot c o (I.cne x c e) hc nch ho (I.freeC x c e)
      exact ⟨_, q, hd⟩
    · exact ⟨o, keep c o (I.cne x c e) hc nch ho (I.freeC x c e), hd⟩
  refine ⟨I.ok, I.os, hg, ⟨fun b o e n hb hx => ?_, fun b o e n hb hx => ?_, fun b o e n hx => ?_, fun b o e hx => ?_, fun b xs e => tups b xs (I.base.tups b xs e), fun b o xs e => frzs b o xs (I.base.frzs b o xs e), fun b ps e => ?_⟩, ?_, fun x c e => ?_, ?_, fun x c e => ?_, fun p hp => ?_, hok, I.len⟩
  · exact keep b o (neL b o e) hb (neC b o e hx) (I.base.keep b o e n hb hx) (I.base.free b o e n hx)
  · obtain ⟨sl, e1⟩ := I.base.slot b o e n hb hx
    obtain ⟨sl', e2⟩ := slot b _ (neL b o e) hb (neC b o e hx) e1 (I.base.free b o e n hx)
    exact ⟨sl', e2⟩
  · obtain ⟨o', e1⟩ := I.base.there b o e hx
    exact free b o' (neC b o e hx) e1 (I.base.free b o e n hx)
  · obtain ⟨o', e1⟩ := I.base.there b o e hx
    exact there b o' (neC b o e hx) e1
  · obtain ⟨m1, e1⟩ := I.base.tbls b ps e
    obtain ⟨m2, e2⟩ := tbls b _ e1
    exact ⟨m1 ++ m2, by rw [e2, Array.append_assoc]⟩
  · obtain ⟨m, hn, hl⟩ := I.loc
    refine ⟨m, ns m hn, fun i x v e1 e2 e3 => ?_⟩
    obtain ⟨u, r, l⟩ := hl i x v e1 e2 e3
    refine ⟨u, r, ?_⟩
    rcases l with l | ⟨k, c, e, z⟩
    · exact .inl l
    · exact .inr ⟨k, c, e, cellK x c e _ z⟩
  · obtain ⟨v, z⟩ := I.cell x c e
    exact ⟨v, cellK x c e v z⟩
  · obtain ⟨m, ⟨o, _, _, ho, _⟩, _⟩ := I.loc
    exact free _ o (fun z => (hch _ z).2.1 rfl) ho I.free
  · obtain ⟨v, o, ho, hd⟩ := I.cell x c e
    exact free c o (fun z => (hch c z).2.2.1 x c e rfl) ho (I.freeC x c e)
  · obtain ⟨e, n, ne, nf, d⟩ := I.pin p hp
    have nch : p.1 ∉ ch := fun z => (hch p.1 z).2.2.2 p hp rfl
    exact ⟨keep p.1 p.2 ne nf nch e n, free p.1 p.2 nch e n, ne, nf, d⟩
/-- .. where the frame's own object is kept too -/
theorem Inv.un {t' : Nat} (I : Inv X pins σ H s) (u : Un X.fs [] H H' s.heap h') (hok : HOk X.prog X.w H' h') : Inv X pins σ H' { s with heap := h', toks := t' } := by
  obtain ⟨m, ⟨o, es, ep, ho, r⟩, _⟩ := id I.loc
  obtain ⟨sl, hL⟩ := u.any ho I.free (by simp)
  exact I.step (g' := s.gens) (d' := s.drawn) (ch := []) (fun _ z => nomatch z) (fun b o _ hb _ e n => u.keep b o e n hb (by simp)) (fun b o _ hb _ e n => u.slot b o e n hb (by simp)) (fun b o _ e n => u.free b o e n (by simp)) (fun b o _ e => u.there b o e (by simp)) u.tups u.frzs u.tbls (fun m' hm => by
    obtain ⟨o', es', ep', ho', r'⟩ := hm
    rw [ho] at ho'; cases ho'
    exact ⟨_, es', ep', hL, r'⟩) hok I.bare
/-- behind a call (or a comprehension's block): the slots of this frame may have changed too, the records at ch may have turned -/
theorem Inv.call {g' : Array GenState} {t' : Nat} {d' : Drawn} {ch : List Addr} (I : Inv X pins σ H s) (u : Un (frs X.stack) ch H H' s.heap h') (hok : HOk X.prog X.w H' h') (hg : AllBare g')
    (hch : ∀ b ∈ ch, (b ∈ X.ex ∨ X.s₀.heap.objs.size ≤ b) ∧ b ≠ X.env.locals ∧ (∀ x c, X.env.cells.lookup x = some c → c ≠ b) ∧ ∀ p ∈ X.pn ++ pins, p.1 ≠ b) :
    Inv X pins σ H' { s with heap := h', gens := g', drawn := d', toks := t' } := by
  obtain ⟨m, ⟨o, es, ep, ho, r⟩, _⟩ := id I.loc
  obtain ⟨sl, hL⟩ := u.any ho I.free fun z => (hch _ z).2.1 rfl
  exact I.step (ch := ch) hch (fun b o hL hb hc e n => u.keep b o e n (fun z => (List.mem_cons.mp (I.stkSub b z)).elim hL hb) hc) (fun b o _ _ hc e n => u.any e n hc) (fun b o hc e n => u.free b o e n hc) (fun b o hc e => u.there b o e hc) u.tups u.frzs u.tbls (fun m' hm => by
    obtain ⟨o', es', ep', ho', r'⟩ := hm
    rw [ho] at ho'; cases ho'
    exact ⟨_, es', ep', hL, r'⟩) hok hg
/-- an untracked record of ours (an iterator) has turned -/
theorem Inv.turned {t' : Nat} {it : Addr} (I : Inv X pins σ H s) (k : ∀ b o, b ≠ it → s.heap.get? b = some o → h'.get? b = some o) (hn : H it = none) (hL : it ≠ X.env.locals)
    (h1 : it ∈ X.ex ∨ X.s₀.heap.objs.size ≤ it) (h2 : ∀ x c, X.env.cells.lookup x = some c → c ≠ it) (h3 : ∀ p ∈ X.pn ++ pins, p.1 ≠ it) : Inv X pins σ H { s with heap := h', toks := t' } := by
  have nit : ∀ b u, H b = some u → b ≠ it := fun b u e z => by rw [z, hn] at e; cases e
  refine I.step (g' := s.gens) (d' := s.drawn) (ch := [it]) (fun b hb => ?_) (fun b o _ _ hc e _ => k b o (fun z => hc (by simp [z])) e) (fun b o _ _ hc e _ => ⟨o.slots, k b o (fun z => hc (by simp [z])) e⟩) (fun _ _ _ _ n => n)
    (fun b o hc e => ⟨o, k b o (fun z => hc (by simp [z])) e⟩) (fun _ _ e => e) (fun _ _ _ e => e) (fun b ps e => ⟨#[], by rw [e]; simp⟩) (fun m hm => ?_) (fun b u e => ?_) I.bare
  · have e : b = it := by simpa using hb
    subst e
    exact ⟨h1, hL, h2, h3⟩
  · obtain ⟨o, es, ep, ho, r⟩ := hm
    exact ⟨o, es, ep, k _ o (Ne.symm hL) ho, r⟩
  · refine (I.hok b u e).stay (fun c v hc q => k c v ?_ q) (fun _ q => q) fun _ _ q => q
    rcases hc with z | z
    · rw [z]; exact nit b u e
    · exact nit c _ z
theorem Inv.tok (I : Inv X pins σ H s) (t : Nat) : Inv X pins σ H { s with toks := t } := I.un (h' := s.heap) (t' := t) Un.refl I.hok
/-- all objects kept -/
theorem Inv.kept {t' : Nat} (I : Inv X pins σ H s) (k : ∀ b u, s.heap.get? b = some u → h'.get? b = some u) : Inv X pins σ H { s with heap := h', toks := t' } := I.un (Un.kept k) (I.hok.kept k)
/-- a new object laid and tracked -/
theorem Inv.laid {a : Addr} {o : HO} {t' : Nat} (I : Inv X pins σ H s) (k : ∀ b u, s.heap.get? b = some u → h'.get? b = some u) (hp : s.heap.objs.size ≤ a) (new : ObjOk X.prog X.w (upd H a o) h' a o) :
    Inv X pins σ (upd H a o) { s with heap := h', toks := t' } := I.un (Un.laid k hp (I.hok.fresh hp)) (I.hok.laid k hp new)
/-- an object written -/
theorem Inv.write {x e : Addr} {o : HO} {t' : Nat} (I : Inv X pins σ H s) (mu : Mut (H x)) (he : e = x ∨ H e = some (.own x)) (k : ∀ b u, b ≠ e → s.heap.get? b = some u → h'.get? b = some u) (heo : ∃ u, h'.get? e = some u)
    (new : ObjOk X.prog X.w (upd H x o) h' x o) : Inv X pins σ (upd H x o) { s with heap := h', toks := t' } := I.un (Un.write mu he k heo) (I.hok.write mu he k heo new)
/-- forgetting slots, pins -/
theorem Inv.weak {σ' : List (Option V)} (I : Inv X pins σ H s) (hl : σ'.length = σ.length) (w : ∀ (i : Nat) v, σ'[i]? = some (some v) → σ[i]? = some (some v)) : Inv X pins σ' H s :=
  ⟨I.ok, I.os, I.bare, I.base, let ⟨m, hn, hl'⟩ := I.loc; ⟨m, hn, fun i x v e1 e2 e3 => hl' i x v e1 (w i v e2) e3⟩, I.cell, I.free, I.freeC, I.pin, I.hok, hl.trans I.len⟩
theorem Inv.pins_of {pins' : List (Addr × Obj)} (I : Inv X pins σ H s) (h : ∀ p ∈ pins', s.heap.get? p.1 = some p.2 ∧ H p.1 = none ∧ p.1 ≠ X.env.locals ∧ p.1 ∉ X.fs ∧ ∀ v, p.2.data ≠ .cell v) : Inv X pins' σ H s :=
  ⟨I.ok, I.os, I.bare, I.base, I.loc, I.cell, I.free, I.freeC, fun p hp => (List.mem_append.mp hp).elim (fun z => I.pin p (List.mem_append_left _ z)) (h p), I.hok, I.len⟩

theorem nodup_ix {N : List Str} (hN : N.Nodup) {i j : Nat} {x : Str} (a : N[i]? = some x) (b : N[j]? = some x) : i = j := by
  obtain ⟨h1, e1⟩ := List.getElem?_eq_some_iff.mp a
  obtain ⟨h2, e2⟩ := List.getElem?_eq_some_iff.mp b
  exact (List.getElem_inj hN).mp (e1.trans e2.symm)

/-- a name is stored; what changed -/
theorem store_ok2 {M : Model} {A : Around} {E : Value → Shared → Prop} {i : Nat} {x : Str} {v : V} {u : Value} {Q : Unit → Shared → Prop} (I : Inv X pins σ H s) (hN : X.N.Nodup) (hi : X.N[i]? = some x) (hx : Loc X.env.scope x) (r : RelV v u)
    (h : ∀ s', Inv X pins (σ.set i (some v)) H s' → (∃ a, Heap.SameBut a s.heap s'.heap ∧ (a = X.env.locals ∨ X.env.cells.lookup x = some a)) → Q () s') (hf : X.fn x = true ∨ X.env.scope.names.lookup x = some .local := by first | exact .inl rfl | exact .inr rfl | assumption) : wpAny M A (storeName X.env x u) Q E s := by
  obtain ⟨m, hn, hl⟩ := id I.loc
  have hcls : (X.env.scope.kind == .class || (X.env.scope.kind == .module && X.env.locals != X.env.globals)) = false := by rw [I.ok.kind]; rfl
  have hiσ : i < σ.length := by rw [I.len]; exact (List.getElem?_eq_some_iff.mp hi).1
  have cne := I.cne
  have tracked : ∀ {a : Addr} {h' : Heap}, (∃ o, s.heap.get? a = some o ∧ H a = none) → Heap.SameBut a s.heap h' → HOk X.prog X.w H h' := fun {a h'} ha hs b ob e => by
    obtain ⟨_, _, hfree⟩ := ha
    refine (I.hok b ob e).stay (fun c w' hc q => (hs.2 c ?_).trans q) (fun _ q => q) fun _ _ q => q
    rintro rfl
    rcases hc with rfl | hc
    · rw [hfree] at e; cases e
    · rw [hfree] at hc; cases hc
  rcases hx with hk | hk
  · refine wpAny_storeName_local hk hn (fun h' hn' hs => ?_) hcls
    obtain ⟨oL, _, _, hoL, _⟩ := id hn
    refine h _ ⟨I.ok, I.os, I.bare, ⟨fun b o e n hb hx => ?_, fun b o e n hb hx => ?_, I.base.free, fun b o e hx => ?_, I.base.tups, I.base.frzs, I.base.tbls⟩, ⟨_, hn', fun j y v' e1 e2 e3 => ?_⟩, fun y c e => ?_, I.free, I.freeC, fun p hp => ?_, tracked ⟨oL, hoL, I.free⟩ hs, by simpa using I.len⟩ ⟨_, hs, .inl rfl⟩
    · exact (hs.2 b (Nat.ne_of_lt (Nat.lt_of_lt_of_le (Heap.lt_size e) I.ok.above))).trans (I.base.keep b o e n hb hx)
    · obtain ⟨sl, e1⟩ := I.base.slot b o e n hb hx
      exact ⟨sl, (hs.2 b (Nat.ne_of_lt (Nat.lt_of_lt_of_le (Heap.lt_size e) I.ok.above))).trans e1⟩
    · obtain ⟨o', e1⟩ := I.base.there b o e hx
      exact ⟨o', (hs.2 b (Nat.ne_of_lt (Nat.lt_of_lt_of_le (Heap.lt_size e) I.ok.above))).trans e1⟩
    · by_cases hj : j = i
      · subst hj
        rw [hi] at e1; cases e1
        rw [List.getElem?_set_self hiσ] at e2
        cases e2
        exact ⟨u, r, .inl ⟨hk, by simp⟩⟩
      · rw [List.getElem?_set_ne (Ne.symm hj)] at e2
        obtain ⟨u', r', q⟩ := hl j y v' e1 e2 e3
        refine ⟨u', r', ?_⟩
        rcases q with ⟨k, e⟩ | ⟨k, c, e, z⟩
        · refine .inl ⟨k, ?_⟩
          have : y ≠ x := fun e => hj (nodup_ix hN e1 (e ▸ hi))
          simp [this, e]
        · exact .inr ⟨k, c, e, z.sameBut hs (cne y c e)⟩
    · obtain ⟨w', z⟩ := I.cell y c e
      exact ⟨w', z.sameBut hs (cne y c e)⟩
    · obtain ⟨e, n, ne, nf, d⟩ := I.pin p hp
      exact ⟨(hs.2 p.1 ne).trans e, n, ne, nf, d⟩
  · have hfn : X.fn x = true := by
      rcases hf with z | z
      · exact z
      · rw [z] at hk; cases hk
    obtain ⟨c, hc⟩ := I.ok.has x (.inl hk)
    obtain ⟨w', z⟩ := I.cell x c hc
    refine wpAny_storeName_cell I.ok.kind hk hc z (fun h' hc' hs => ?_)
    obtain ⟨oc, hoc, hocd⟩ := id z
    refine h { s with heap := h' } ⟨I.ok, I.os, I.bare, ⟨fun b o e n hb hx => ?_, fun b o e n hb hx => ?_, I.base.free, fun b o e hx => ?_, I.base.tups, I.base.frzs, I.base.tbls⟩, ⟨m, hn.sameBut hs (Ne.symm (cne x c hc)), fun j y v' e1 e2 e3 => ?_⟩, fun y c' e => ?_, I.free, I.freeC, fun p hp => ?_, tracked ⟨oc, hoc, I.freeC x c hc⟩ hs, by simpa using I.len⟩ ⟨c, hs, .inr hc⟩
    · exact (hs.2 b (Nat.ne_of_lt (Nat.lt_of_lt_of_le (Heap.lt_size e) (I.ok.cab x c hfn hc)))).trans (I.base.keep b o e n hb hx)
    · obtain ⟨sl, e1⟩ := I.base.slot b o e n hb hx
      exact ⟨sl, (hs.2 b (Nat.ne_of_lt (Nat.lt_of_lt_of_le (Heap.lt_size e) (I.ok.cab x c hfn hc)))).trans e1⟩
    · obtain ⟨o', e1⟩ := I.base.there b o e hx
      exact ⟨o', (hs.2 b (Nat.ne_of_lt (Nat.lt_of_lt_of_le (Heap.lt_size e) (I.ok.cab x c hfn hc)))).trans e1⟩
    · by_cases hj : j = i
      · subst hj
        rw [hi] at e1; cases e1
        rw [List.getElem?_set_self hiσ] at e2
        cases e2
        exact ⟨u, r, .inr ⟨.inl hk, c, hc, hc'⟩⟩
      · rw [List.getElem?_set_ne (Ne.symm hj)] at e2
        obtain ⟨u', r', q⟩ := hl j y v' e1 e2 e3
        refine ⟨u', r', ?_⟩
        rcases q with q | ⟨k, c', e, z'⟩
        · exact .inl q
        · refine .inr ⟨k, c', e, z'.sameBut hs ?_⟩
          rintro rfl
          exact hj (nodup_ix hN e1 (I.ok.inj _ _ _ e hc ▸ hi))
    · by_cases hcc : c' = c
      · subst hcc; exact ⟨_, hc'⟩
      · obtain ⟨w2, z2⟩ := I.cell y c' e
        exact ⟨w2, z2.sameBut hs hcc⟩
    · obtain ⟨e, n, ne, nf, d⟩ := I.pin p hp
      refine ⟨(hs.2 p.1 ?_).trans e, n, ne, nf, d⟩
      intro q
      rw [q, hoc] at e
      have q' : oc = p.2 := Option.some.inj e
      exact d w' (by rw [← q']; exact hocd)
theorem store_ok {M : Model} {A : Around} {E : Value → Shared → Prop} {i : Nat} {x : Str} {v : V} {u : Value} {Q : Unit → Shared → Prop} (I : Inv X pins σ H s) (hN : X.N.Nodup) (hi : X.N[i]? = some x) (hx : Loc X.env.scope x) (r : RelV v u)
    (h : ∀ s', Inv X pins (σ.set i (some v)) H s' → Q () s') (hf : X.fn x = true ∨ X.env.scope.names.lookup x = some .local := by first | exact .inl rfl | exact .inr rfl | assumption) : wpAny M A (storeName X.env x u) Q E s :=
  store_ok2 I hN hi hx r (fun s' I' _ => h s' I') hf
/-- behind a call or a block, the state as it is -/
theorem Inv.call' {s' : Shared} {ch : List Addr} (I : Inv X pins σ H s) (ho : s'.os = s.os) (u : Un (frs X.stack) ch H H' s.heap s'.heap) (hok : HOk X.prog X.w H' s'.heap) (hg : AllBare s'.gens)
    (hch : ∀ b ∈ ch, (b ∈ X.ex ∨ X.s₀.heap.objs.size ≤ b) ∧ b ≠ X.env.locals ∧ (∀ x c, X.env.cells.lookup x = some c → c ≠ b) ∧ ∀ p ∈ X.pn ++ pins, p.1 ≠ b) : Inv X pins σ H' s' := by
  obtain ⟨h', g', d', t', o'⟩ := s'
  have e : o' = s.os := ho
  subst e
  exact I.call (g' := g') (t' := t') (d' := d') u hok hg hch
end

/-! ### the judgements -/
/-- an exception: its class, its own dict's address (where it has one), the abstract heap behind it -/
abbrev XK := Value → Option Addr → Hp → Prop
abbrev St := List (Option V)
abbrev VK := V → Hp → Prop
/-- an expression's reading; a test's; an argument list's -/
abbrev TE := St → Hp → VK → Prop
abbrev TT := St → Hp → (Bool → Hp → Prop) → Prop
abbrev TA := St → Hp → (List V → Hp → Prop) → Prop
/-- what is wanted behind a statement -/
structure Ends where
  nx : St → Hp → Prop
  rt : VK
  bk : St → Hp → Prop := fun _ _ => False
  ct : St → Hp → Prop := fun _ _ => False
abbrev TS := Ends → St → Hp → Prop

def EP (X : Cx) (pins : List (Addr × Obj)) (σ : St) (Q : VK) (u : Value) (s' : Shared) : Prop := ∃ v H', Inv X pins σ H' s' ∧ RelV v u ∧ Q v H'
def TP (X : Cx) (pins : List (Addr × Obj)) (σ : St) (Q : Bool → Hp → Prop) (b : Bool) (s' : Shared) : Prop := ∃ H', Inv X pins σ H' s' ∧ Q b H'
def AP (X : Cx) (pins : List (Addr × Obj)) (σ : St) (Q : List V → Hp → Prop) (us : List Value) (s' : Shared) : Prop := ∃ vs H', Inv X pins σ H' s' ∧ Vals vs us ∧ Q vs H'
def SP (X : Cx) (pins : List (Addr × Obj)) (D : Ends) (f : Flow) (s' : Shared) : Prop :=
  match f with
  | .next => ∃ σ' H', Inv X pins σ' H' s' ∧ D.nx σ' H'
  | .brk => ∃ σ' H', Inv X pins σ' H' s' ∧ D.bk σ' H'
  | .cont => ∃ σ' H', Inv X pins σ' H' s' ∧ D.ct σ' H'
  | .ret u => ∃ v σ' H', Inv X pins σ' H' s' ∧ RelV v u ∧ D.rt v H'

def PE (X : Cx) (e : Expr) (t : TE) : Prop :=
  ∀ (pins : List (Addr × Obj)) (s : Shared) (σ : St) (H : Hp) (Q : VK), Inv X pins σ H s → t σ H Q → wpAny (model X.prog X.w) X.A (eval e X.env) (EP X pins σ Q) X.xe s
def PT (X : Cx) (e : Expr) (t : TT) : Prop :=
  ∀ (pins : List (Addr × Obj)) (s : Shared) (σ : St) (H : Hp) (Q : Bool → Hp → Prop), Inv X pins σ H s → t σ H Q → wpAny (model X.prog X.w) X.A (isTrue e X.env (eval e X.env)) (TP X pins σ Q) X.xe s
/-- a test whatever its 'whole' is (and, or) -/
def PW (X : Cx) (e : Expr) (t : TT) : Prop :=
  ∀ (whole : Sem Value) (pins : List (Addr × Obj)) (s : Shared) (σ : St) (H : Hp) (Q : Bool → Hp → Prop), Inv X pins σ H s → t σ H Q → wpAny (model X.prog X.w) X.A (isTrue e X.env whole) (TP X pins σ Q) X.xe s
theorem PW.pt {X : Cx} {e : Expr} {t : TT} (h : PW X e t) : PT X e t := h _
/-- an argument list (no star), from the left -/
def PA (X : Cx) (es : List Expr) (t : TA) : Prop :=
  ∀ (pos : Pos) (pins : List (Addr × Obj)) (s : Shared) (σ : St) (H : Hp) (Q : List V → Hp → Prop), Inv X pins σ H s → t σ H Q → wpAny (model X.prog X.w) X.A (spliced (backTo pos (starEach es X.env))) (AP X pins σ Q) X.xe s
def PS (X : Cx) (st : Stmt) (t : TS) : Prop :=
  ∀ (pins : List (Addr × Obj)) (s : Shared) (σ : St) (H : Hp) (D : Ends), Inv X pins σ H s → t D σ H → wpAny (model X.prog X.w) X.A (exec st X.env) (SP X pins D) X.xe s
def PSs (X : Cx) (st : List Stmt) (t : TS) : Prop :=
  ∀ (pins : List (Addr × Obj)) (s : Shared) (σ : St) (H : Hp) (D : Ends), Inv X pins σ H s → t D σ H → wpAny (model X.prog X.w) X.A (execs st X.env) (SP X pins D) X.xe s
/-- weaken the end -/
theorem thn {α : Type} {t : Sem α} {Q Q' : α → Shared → Prop} {M : Model} {A : Around} {E : Value → Shared → Prop} {s : Shared} (h : wpAny M A t Q E s) (hQ : ∀ a s, Q a s → Q' a s) : wpAny M A t Q' E s := wpAny_mono h hQ fun _ _ x => x
end L2

namespace L2
open PySem PySem.Spec PyProof.Rows
section
variable {X : Cx}

/-- two expressions in a row -/
theorem bin {a b : Expr} {ta tb : TE} (ha : PE X a ta) (hb : PE X b tb) {pins : List (Addr × Obj)} {s : Shared} {σ : St} {H : Hp} {R : V → V → Hp → Prop} (I : Inv X pins σ H s) (h : ta σ H fun x H1 => tb σ H1 fun y H2 => R x y H2)
    {α : Type} {Q : α → Shared → Prop} {f : Value → Value → Sem α}
    (hf : ∀ v u s2 x y H2, Inv X pins σ H2 s2 → RelV x v → RelV y u → R x y H2 → wpAny (model X.prog X.w) X.A (f v u) Q X.xe s2) :
    wpAny (model X.prog X.w) X.A (eval a X.env) (fun v s₁ => wpAny (model X.prog X.w) X.A (eval b X.env) (fun u s₂ => wpAny (model X.prog X.w) X.A (f v u) Q X.xe s₂) X.xe s₁) X.xe s := by
  refine thn (ha pins s σ H _ I h) fun v s1 ⟨x, H1, I1, r1, q1⟩ => ?_
  refine thn (hb pins s1 σ H1 _ I1 q1) fun u s2 ⟨y, H2, I2, r2, q2⟩ => ?_
  exact hf v u s2 x y H2 I2 r1 r2 q2

/-! ### names and constants -/
def tVar (i : Nat) : TE := fun σ H Q => ∃ v, σ[i]? = some (some v) ∧ Q v H
def tC (v : V) : TE := fun _ H Q => Q v H
theorem pe_var {i : Nat} {x : Str} {pos : Pos} (hN : X.N[i]? = some x) (hv : Vis X.env.scope x) (hd : (x == ("__debug__" : Str)) = false := by decide) (hcd : (x == ("__classdict__" : Str)) = false := by decide) : PE X (.Name x pos) (tVar i) := by
  intro pins s σ H Q I h
  obtain ⟨v, e, h⟩ := h
  obtain ⟨m, hn, hl⟩ := I.loc
  obtain ⟨u, r, l⟩ := hl i x v hN e hv
  have fin : EP X pins σ Q u s := ⟨v, H, I, r, h⟩
  rcases l with ⟨hk, hm⟩ | ⟨hk, c, hc, hcell⟩
  · exact wpAny_Name (wpAny_loadName_local I.ok.kind hk hn hm fin) hd
  · rcases hk with hk | hk
    · exact wpAny_Name (wpAny_loadName_cell I.ok.kind hk hc hcell fin) hd
    · exact wpAny_Name (wpAny_loadName_free I.ok.kind hk hc hcell fin hcd) hd
theorem pe_int {i j pos} : PE X (.Constant (.int i) j pos) (tC (.int i)) := fun _ _ _ H _ I h => wpAny_Constant_int ⟨.int i, H, I.tok _, ⟨_, rfl⟩, h⟩
theorem pe_bl {b j pos} : PE X (.Constant (.bool b) j pos) (tC (.bl b)) := fun _ _ _ H _ I h => Constant_bool ⟨.bl b, H, I, rfl, h⟩
theorem pe_non {j pos} : PE X (.Constant .none j pos) (tC .non) := fun _ _ _ H _ I h => Constant_none ⟨.non, H, I, rfl, h⟩
theorem pe_str {x j pos} : PE X (.Constant (.str x) j pos) (tC (.str x)) := fun _ _ _ H _ I h => Calls.Constant_str ⟨.str x, H, I.tok _, ⟨_, rfl⟩, h⟩

/-- a global name of the def -/
def Gl (X : Cx) (x : Str) : Prop := X.env.kindOf x = some .globalImplicit
theorem ld_glob {E : Value → Shared → Prop} {pins : List (Addr × Obj)} {s : Shared} {σ : St} {H : Hp} {x : Str} {u : Value} {pos : Pos} {Q : Value → Shared → Prop} (I : Inv X pins σ H s) (hg : Gl X x) (hm : X.mg x = some u) (h : Q u s)
    (hd : (x == ("__debug__" : Str)) = false := by decide) : wpAny (model X.prog X.w) X.A (eval (.Name x pos) X.env) Q E s :=
  Calls.Name_function_global I.ok.kind hg (Calls.loadGlobal_global (by rw [I.ok.glob]; exact I.mod.glob.keeps I.bk) hm h) hd
theorem ld_blt {E : Value → Shared → Prop} {pins : List (Addr × Obj)} {s : Shared} {σ : St} {H : Hp} {x : Str} {u : Value} {pos : Pos} {Q : Value → Shared → Prop} (I : Inv X pins σ H s) (hg : Gl X x) (hm : X.mg x = none) (hv : bootBuiltins x = some u) (h : Q u s)
    (hn : x ≠ "__name__" := by decide) (hd : (x == ("__debug__" : Str)) = false := by decide) : wpAny (model X.prog X.w) X.A (eval (.Name x pos) X.env) Q E s := by
  obtain ⟨mb, h1, h2⟩ := I.mod.blt
  exact Calls.Name_function_global I.ok.kind hg (Calls.loadGlobal_builtin (by rw [I.ok.glob]; exact I.mod.glob.keeps I.bk) hm (by rw [I.ok.blt]; exact h1.keeps I.bk) ((h2 x hn).trans hv) h) hd
/-- a module's constant, a class, a function, as a value -/
theorem pe_glob {x : Str} {v : V} {u : Value} {pos : Pos} (hg : Gl X x) (hm : X.mg x = some u) (r : RelV v u) (hd : (x == ("__debug__" : Str)) = false := by decide) : PE X (.Name x pos) (tC v) :=
  fun _ _ _ H _ I h => ld_glob I hg hm ⟨v, H, I, r, h⟩ hd
theorem pe_bltn {x : Str} {v : V} {u : Value} {pos : Pos} (hg : Gl X x) (hm : X.mg x = none) (hv : bootBuiltins x = some u) (r : RelV v u) (hn : x ≠ "__name__" := by decide) (hd : (x == ("__debug__" : Str)) = false := by decide) : PE X (.Name x pos) (tC v) :=
  fun _ _ _ H _ I h => ld_blt I hg hm hv ⟨v, H, I, r, h⟩ hn hd

/-! ### arithmetic -/
/-- two ints -/
def t2I (ta tb : TE) (k : Int → Int → Hp → Prop) : St → Hp → Prop := fun σ H => ta σ H fun x H1 => tb σ H1 fun y H2 => ∃ i j, x = .int i ∧ y = .int j ∧ k i j H2
def tAdd (ta tb : TE) : TE := fun σ H Q => t2I ta tb (fun i j H2 => Q (.int (i + j)) H2) σ H
def tSub (ta tb : TE) : TE := fun σ H Q => t2I ta tb (fun i j H2 => Q (.int (i - j)) H2) σ H
/-- the left factor below 2^64 -/
def tMul (ta tb : TE) : TE := fun σ H Q => t2I ta tb (fun i j H2 => (-(2 ^ 64) < i ∧ i < 2 ^ 64) ∧ Q (.int (i * j)) H2) σ H
variable {a b : Expr} {ta tb : TE} {pos : Pos}
theorem pe_add (ha : PE X a ta) (hb : PE X b tb) : PE X (.BinOp a .Add b pos) (tAdd ta tb) := by
  intro pins s σ H Q I h
  refine wpAny_BinOp (bin ha hb I h fun v u s2 x y H2 I2 rx ry q => ?_)
  obtain ⟨i, j, rfl, rfl, q⟩ := q
  obtain ⟨t, rfl⟩ := rx
  obtain ⟨t', rfl⟩ := ry
  exact add_int ⟨.int _, H2, I2.tok _, ⟨_, rfl⟩, q⟩
theorem pe_sub (ha : PE X a ta) (hb : PE X b tb) : PE X (.BinOp a .Sub b pos) (tSub ta tb) := by
  intro pins s σ H Q I h
  refine wpAny_BinOp (bin ha hb I h fun v u s2 x y H2 I2 rx ry q => ?_)
  obtain ⟨i, j, rfl, rfl, q⟩ := q
  obtain ⟨t, rfl⟩ := rx
  obtain ⟨t', rfl⟩ := ry
  exact sub_int ⟨.int _, H2, I2.tok _, ⟨_, rfl⟩, q⟩
theorem pe_mul (ha : PE X a ta) (hb : PE X b tb) : PE X (.BinOp a .Mult b pos) (tMul ta tb) := by
  intro pins s σ H Q I h
  refine wpAny_BinOp (bin ha hb I h fun v u s2 x y H2 I2 rx ry q => ?_)
  obtain ⟨i, j, rfl, rfl, ⟨q1, q2⟩, q⟩ := q
  obtain ⟨t, rfl⟩ := rx
  obtain ⟨t', rfl⟩ := ry
  exact mul_int ⟨.int _, H2, I2.tok _, ⟨_, rfl⟩, q⟩ (.of_left (intBits_le_64 q1 q2))

/-! ### comparisons -/
def PC (X : Cx) (op : CmpOp) (a b : Expr) (t : TE) : Prop :=
  ∀ (pins : List (Addr × Obj)) (s : Shared) (σ : St) (H : Hp) (Q : VK), Inv X pins σ H s → t σ H Q →
    wpAny (model X.prog X.w) X.A (eval a X.env) (fun v s₁ => wpAny (model X.prog X.w) X.A (eval b X.env) (fun u s₂ => wpAny (model X.prog X.w) X.A (compareOp op v u) (EP X pins σ Q) X.xe s₂) X.xe s₁) X.xe s
theorem nobehind (b : Expr) {op : CmpOp} (h : op ≠ .In) (h2 : op ≠ .NotIn) : behindInMarks op b = false := by
  have e1 : (op == CmpOp.In) = false := by cases op <;> first | rfl | exact absurd rfl h
  have e2 : (op == CmpOp.NotIn) = false := by cases op <;> first | rfl | exact absurd rfl h2
  cases b <;> simp [behindInMarks, e1, e2]
def tCmp (p : Int → Int → Bool) (ta tb : TE) : TE := fun σ H Q => t2I ta tb (fun i j H2 => Q (.bl (p i j)) H2) σ H
abbrev tLt : TE → TE → TE := tCmp fun i j => decide (i < j)
abbrev tLe : TE → TE → TE := tCmp fun i j => decide (i ≤ j)
abbrev tGt : TE → TE → TE := tCmp fun i j => decide (j < i)
abbrev tGe : TE → TE → TE := tCmp fun i j => decide (j ≤ i)
abbrev tEqI : TE → TE → TE := tCmp fun i j => decide (i = j)
abbrev tNeI : TE → TE → TE := tCmp fun i j => !decide (i = j)
/-- a comparison of two ints, by its rule -/
theorem pc_int {op : CmpOp} {p : Int → Int → Bool} (ha : PE X a ta) (hb : PE X b tb)
    (rule : ∀ (i j : Int) (t u : Tok) (Q : Value → Shared → Prop) (s : Shared), Q (.bool (p i j)) s → wpAny (model X.prog X.w) X.A (compareOp op (.int i t) (.int j u)) Q X.xe s) : PC X op a b (tCmp p ta tb) := by
  intro pins s σ H Q I h
  refine bin ha hb I h fun v u s2 x y H2 I2 rx ry q => ?_
  obtain ⟨i, j, rfl, rfl, q⟩ := q
  obtain ⟨t, rfl⟩ := rx
  obtain ⟨t', rfl⟩ := ry
  exact rule i j t t' _ s2 ⟨.bl _, H2, I2, rfl, q⟩
theorem pc_lt (ha : PE X a ta) (hb : PE X b tb) : PC X .Lt a b (tLt ta tb) := pc_int ha hb fun _ _ _ _ _ _ h => lt_int h
theorem pc_le (ha : PE X a ta) (hb : PE X b tb) : PC X .LtE a b (tLe ta tb) := pc_int ha hb fun _ _ _ _ _ _ h => le_int h
theorem pc_gt (ha : PE X a ta) (hb : PE X b tb) : PC X .Gt a b (tGt ta tb) := pc_int ha hb fun _ _ _ _ _ _ h => gt_int h
theorem pc_ge (ha : PE X a ta) (hb : PE X b tb) : PC X .GtE a b (tGe ta tb) := pc_int ha hb fun _ _ _ _ _ _ h => ge_int h
theorem pc_eqI (ha : PE X a ta) (hb : PE X b tb) : PC X .Eq a b (tEqI ta tb) := pc_int ha hb fun _ _ _ _ _ _ h => eq_int (by rw [Bool.beq_eq_decide_eq]; exact h)
theorem pc_neI (ha : PE X a ta) (hb : PE X b tb) : PC X .NotEq a b (tNeI ta tb) := pc_int ha hb fun _ _ _ _ _ _ h => ne_int (by rw [bne, Bool.beq_eq_decide_eq]; exact h)
/-- is None -/
def tIsN (ta : TE) : TE := fun σ H Q => ta σ H fun x H1 => Q (.bl (decide (x = .non))) H1
def tNotN (ta : TE) : TE := fun σ H Q => ta σ H fun x H1 => Q (.bl (!decide (x = .non))) H1
theorem RelV.none_iff {x : V} {v : Value} (r : RelV x v) : (v == Value.none) = decide (x = .non) := by
  cases x with
  | non => cases r; rfl
  | bl _ => cases r; rfl
  | int _ => obtain ⟨t, rfl⟩ := r; rfl
  | str _ => obtain ⟨t, rfl⟩ := r; rfl
  | byt _ => obtain ⟨t, rfl⟩ := r; rfl
  | flt _ => obtain ⟨t, rfl⟩ := r; rfl
  | ref _ => cases r; rfl
  | ty _ => cases r; rfl
theorem pc_isN {j pos'} (ha : PE X a ta) : PC X .Is a (.Constant .none j pos') (tIsN ta) := by
  intro pins s σ H Q I h
  refine thn (ha pins s σ H _ I h) fun v s1 ⟨x, H1, I1, r1, q1⟩ => ?_
  exact Constant_none (is_none_gen ⟨.bl _, H1, I1, by rw [r1.none_iff]; rfl, q1⟩)
theorem pc_notN {j pos'} (ha : PE X a ta) : PC X .IsNot a (.Constant .none j pos') (tNotN ta) := by
  intro pins s σ H Q I h
  refine thn (ha pins s σ H _ I h) fun v s1 ⟨x, H1, I1, r1, q1⟩ => ?_
  exact Constant_none (isnot_none_gen ⟨.bl _, H1, I1, by rw [r1.none_iff]; rfl, q1⟩)
/-- a comparison as a value, as a test -/
def tB (t : TE) : TT := fun σ H Q => t σ H fun x H1 => ∃ c, x = .bl c ∧ Q c H1
theorem pe_cmp {op : CmpOp} {t : TE} (h : PC X op a b t) (h1 : behindInMarks op b = false := by first | exact nobehind _ (by decide) (by decide) | rfl) : PE X (.Compare a [op] [b] pos) t := fun pins s σ H Q I hw => wpAny_Compare1 (h pins s σ H Q I hw) h1
theorem pt_cmp {op : CmpOp} {t : TE} (h : PC X op a b t) (h1 : behindInMarks op b = false := by first | exact nobehind _ (by decide) (by decide) | rfl) : PT X (.Compare a [op] [b] pos) (tB t) := by
  intro pins s σ H Q I hw
  refine wpAny_isTrue_Compare1 (thn (h pins s σ H _ I hw) fun v s1 h1 => thn h1 fun u s2 h2 => thn h2 fun c s3 ⟨x, H1, I1, r1, q1⟩ => ?_) h1
  obtain ⟨d, rfl, q⟩ := q1
  cases r1
  exact wpAny_truthy_bool ⟨H1, I1, q⟩
/-- an expression whose value is a bool, as a test -/
theorem pt_val {e : Expr} {t : TE} (h : PE X e t) (he : ∀ whole, isTrue e X.env whole = (do let v ← whole; standAt e.pos; holding [v] (truthy v)) := by intro _; rfl) : PT X e (tB t) := by
  intro pins s σ H Q I hw
  refine isTrue_plain (thn (h pins s σ H _ I hw) fun v s1 ⟨x, H1, I1, r1, q1⟩ => ?_) (he _)
  obtain ⟨d, rfl, q⟩ := q1
  cases r1
  exact wpAny_truthy_bool ⟨H1, I1, q⟩

/-! ### and, or, not -/
variable {tA tB' : TT} {rest : List Expr}
def tAnd (t u : TT) : TT := fun σ H Q => t σ H fun c H1 => if c = true then u σ H1 Q else Q false H1
def tOr (t u : TT) : TT := fun σ H Q => t σ H fun c H1 => if c = true then Q true H1 else u σ H1 Q
def tNot (t : TT) : TT := fun σ H Q => t σ H fun c H1 => Q (!c) H1
theorem pw_and1 (ha : PT X a tA) : PW X (.BoolOp .And [a] pos) tA := by
  intro wh pins s σ H Q I h
  refine isTrue_and (thn (ha pins s σ H Q I h) fun c s1 e => ?_)
  cases c with
  | true => exact isTrue_and_nil e
  | false => exact e
theorem pw_or1 (ha : PT X a tA) : PW X (.BoolOp .Or [a] pos) tA := by
  intro wh pins s σ H Q I h
  refine isTrue_or (thn (ha pins s σ H Q I h) fun c s1 e => ?_)
  cases c with
  | false => exact isTrue_or_nil e
  | true => exact e
theorem pw_and (ha : PT X a tA) (hb : PW X (.BoolOp .And (b :: rest) pos) tB') : PW X (.BoolOp .And (a :: b :: rest) pos) (tAnd tA tB') := by
  intro wh pins s σ H Q I h
  refine isTrue_and (thn (ha pins s σ H _ I h) fun c s1 ⟨H1, I1, q1⟩ => ?_)
  cases c with
  | true => exact hb wh pins s1 σ H1 Q I1 q1
  | false => exact ⟨H1, I1, q1⟩
theorem pw_or (ha : PT X a tA) (hb : PW X (.BoolOp .Or (b :: rest) pos) tB') : PW X (.BoolOp .Or (a :: b :: rest) pos) (tOr tA tB') := by
  intro wh pins s σ H Q I h
  refine isTrue_or (thn (ha pins s σ H _ I h) fun c s1 ⟨H1, I1, q1⟩ => ?_)
  cases c with
  | true => exact ⟨H1, I1, q1⟩
  | false => exact hb wh pins s1 σ H1 Q I1 q1
theorem pt_not (ha : PT X a tA) : PT X (.UnaryOp .Not a pos) (tNot tA) := by
  intro pins s σ H Q I h
  exact isTrue_not (ha pins s σ H (fun c H1 => Q (!c) H1) I h)
/-- .. as values (bools) -/
def tAndV (ta tb : TE) : TE := fun σ H Q => ta σ H fun x H1 => ∃ c, x = .bl c ∧ if c = true then tb σ H1 Q else Q (.bl false) H1
def tOrV (ta tb : TE) : TE := fun σ H Q => ta σ H fun x H1 => ∃ c, x = .bl c ∧ if c = true then Q (.bl true) H1 else tb σ H1 Q
def tNotV (ta : TE) : TE := fun σ H Q => ta σ H fun x H1 => ∃ c, x = .bl c ∧ Q (.bl (!c)) H1
theorem pe_one {op} {t : TE} (h : PE X a t) : PE X (.BoolOp op [a] pos) t := fun pins s σ H Q I hw => BoolOp_one (h pins s σ H Q I hw)
theorem pe_and (ha : PE X a ta) (hb : PE X (.BoolOp .And (b :: rest) pos) tb) : PE X (.BoolOp .And (a :: b :: rest) pos) (tAndV ta tb) := by
  intro pins s σ H Q I h
  refine BoolOp_and (thn (ha pins s σ H _ I h) fun v s1 ⟨x, H1, I1, r1, q1⟩ => ?_)
  obtain ⟨c, rfl, q1⟩ := q1
  cases r1
  refine wpAny_truthy_bool ?_
  cases c with
  | true => exact hb pins s1 σ H1 Q I1 q1
  | false => exact ⟨.bl false, H1, I1, rfl, q1⟩
theorem pe_or (ha : PE X a ta) (hb : PE X (.BoolOp .Or (b :: rest) pos) tb) : PE X (.BoolOp .Or (a :: b :: rest) pos) (tOrV ta tb) := by
  intro pins s σ H Q I h
  refine BoolOp_or (thn (ha pins s σ H _ I h) fun v s1 ⟨x, H1, I1, r1, q1⟩ => ?_)
  obtain ⟨c, rfl, q1⟩ := q1
  cases r1
  refine wpAny_truthy_bool ?_
  cases c with
  | false => exact hb pins s1 σ H1 Q I1 q1
  | true => exact ⟨.bl true, H1, I1, rfl, q1⟩
theorem pe_not (ha : PE X a ta) : PE X (.UnaryOp .Not a pos) (tNotV ta) := by
  intro pins s σ H Q I h
  refine UnaryOp_ (thn (ha pins s σ H _ I h) fun v s1 ⟨x, H1, I1, r1, q1⟩ => ?_)
  obtain ⟨c, rfl, q1⟩ := q1
  cases r1
  exact not_of (wpAny_truthy_bool ⟨.bl (!c), H1, I1, rfl, q1⟩)
/-- a if t else b -/
def tIf (t : TT) (ta tb : TE) : TE := fun σ H Q => t σ H fun c H1 => if c = true then ta σ H1 Q else tb σ H1 Q
theorem pe_ifExp {c : Expr} (hc : PT X c tA) (ha : PE X a ta) (hb : PE X b tb) : PE X (.IfExp c a b pos) (tIf tA ta tb) := by
  intro pins s σ H Q I h
  refine wpAny_IfExp (thn (hc pins s σ H _ I h) fun d s1 ⟨H1, I1, q1⟩ => ?_)
  cases d with
  | true => exact ha pins s1 σ H1 Q I1 q1
  | false => exact hb pins s1 σ H1 Q I1 q1
end
end L2

namespace L2
open PySem PySem.Spec PyProof.Rows

/-! ### a list, a tuple that is read: tracked, frozen, or an object of the module -/
def SqL (K : PySem.W.Frag) (H : Hp) (a : Addr) (xs : List V) : Prop :=
  Rd H a (.lst xs) ∨
    ∃ (o : Obj) (its : Array Value) (n : Nat), K.lookup a = some o ∧ o.cls = .type "list" ∧ o.dict = none ∧ o.data = .seq its n ∧ its.size ≤ sizeLine ∧ Vals xs its.toList
def SqT (K : PySem.W.Frag) (H : Hp) (a : Addr) (xs : List V) : Prop :=
  Rd H a (.tup xs) ∨
    ∃ (o : Obj) (its : Array Value) (n : Nat), K.lookup a = some o ∧ o.cls = .type "tuple" ∧ o.data = .seq its n ∧ its.size ≤ sizeLine ∧ Vals xs its.toList
def absV : Value → Option V
  | .none => some .non
  | .bool b => some (.bl b)
  | .int i _ => some (.int i)
  | .str x _ => some (.str x)
  | .bytes b _ => some (.byt b)
  | .float b _ => some (.flt b)
  | .ref a => some (.ref a)
  | .type n => some (.ty n)
  | _ => none
theorem RelV.abs {x : V} {u : Value} (r : RelV x u) : absV u = some x := by
  cases x with
  | non => cases r; rfl
  | bl _ => cases r; rfl
  | int _ => obtain ⟨t, rfl⟩ := r; rfl
  | str _ => obtain ⟨t, rfl⟩ := r; rfl
  | byt _ => obtain ⟨t, rfl⟩ := r; rfl
  | flt _ => obtain ⟨t, rfl⟩ := r; rfl
  | ref _ => cases r; rfl
  | ty _ => cases r; rfl
theorem RelV.inj {x y : V} {u : Value} (r : RelV x u) (q : RelV y u) : x = y := Option.some.inj (r.abs.symm.trans q.abs)
theorem Vals.inj : ∀ {xs ys : List V} {us : List Value}, Vals xs us → Vals ys us → xs = ys
  | _, _, _, .nil, .nil => rfl
  | _, _, _, .cons r t, .cons r' t' => by rw [r.inj r', Vals.inj t t']
section
variable {X : Cx} {pins : List (Addr × Obj)} {σ : St} {H : Hp} {s : Shared} {a : Addr} {xs ys : List V}
theorem SqL.of {K : PySem.W.Frag} (h : H a = some (.lst xs)) : SqL K H a xs := .inl (.inl h)
theorem SqT.of {K : PySem.W.Frag} (h : H a = some (.tup xs)) : SqT K H a xs := .inl (.inl h)
theorem Inv.list (I : Inv X pins σ H s) (h : SqL X.K H a xs) : ∃ its : List Value, Vals xs its ∧ PlainL s.heap a its.toArray ∧ xs.length ≤ sizeLine := by
  rcases h with h | ⟨o, its, n, hk, hc, hd, hs, hz, r⟩
  · obtain ⟨z, its, n, r, e⟩ := h.ok I.hok
    exact ⟨its, r, ⟨_, n, e, rfl, rfl, rfl⟩, z⟩
  · refine ⟨its.toList, r, ⟨o, n, I.kIn a o hk, hc, hd, by simpa using hs⟩, ?_⟩
    have e := r.length
    simp only [Array.length_toList] at e
    omega
theorem Inv.tuple (I : Inv X pins σ H s) (h : SqT X.K H a xs) : ∃ its : List Value, Vals xs its ∧ IsTup s.heap a its.toArray ∧ xs.length ≤ sizeLine := by
  rcases h with h | ⟨o, its, n, hk, hc, hs, hz, r⟩
  · obtain ⟨z, its, r, p⟩ := h.ok I.hok
    exact ⟨its, r, p, z⟩
  · refine ⟨its.toList, r, ⟨o, I.kIn a o hk, hc, n, by simpa using hs⟩, ?_⟩
    have e := r.length
    simp only [Array.length_toList] at e
    omega
theorem Inv.list_inj (I : Inv X pins σ H s) (h : SqL X.K H a xs) (h' : SqL X.K H a ys) : xs = ys := by
  obtain ⟨its, r, ⟨o, n, e, _, _, d⟩, _⟩ := I.list h
  obtain ⟨its', r', ⟨o', n', e', _, _, d'⟩, _⟩ := I.list h'
  rw [e] at e'; cases e'
  rw [d] at d'
  injection d' with d1 _
  have : its = its' := by simpa using congrArg Array.toList d1
  subst this
  exact r.inj r'
theorem Inv.tuple_inj (I : Inv X pins σ H s) (h : SqT X.K H a xs) (h' : SqT X.K H a ys) : xs = ys := by
  obtain ⟨its, r, ⟨o, e, _, n, d⟩, _⟩ := I.tuple h
  obtain ⟨its', r', ⟨o', e', _, n', d'⟩, _⟩ := I.tuple h'
  rw [e] at e'; cases e'
  rw [d] at d'
  injection d' with d1 _
  have : its = its' := by simpa using congrArg Array.toList d1
  subst this
  exact r.inj r'
end

/-! ### another wish about exceptions -/
abbrev Cx.wish (X : Cx) (E : Value → Shared → Prop) : Cx := { X with xe := E }
/-- no exception leaves -/
abbrev Cx.nox (X : Cx) : Cx := X.wish fun _ _ => False
theorem Cx.Ok.wish {X : Cx} (ok : X.Ok) (E : Value → Shared → Prop) : (X.wish E).Ok :=
  ⟨ok.mod, ok.kind, ok.glob, ok.blt, ok.above, ok.inj, ok.has, ok.cab, ok.hd, ok.frames, ok.stk, ok.exf, ok.bs, ok.bsz, ok.noex, ok.exfs, ok.funs, ok.frf⟩
theorem Cx.Ok.unwish {X : Cx} {E : Value → Shared → Prop} (ok : (X.wish E).Ok) : X.Ok :=
  ⟨ok.mod, ok.kind, ok.glob, ok.blt, ok.above, ok.inj, ok.has, ok.cab, ok.hd, ok.frames, ok.stk, ok.exf, ok.bs, ok.bsz, ok.noex, ok.exfs, ok.funs, ok.frf⟩
section
variable {X : Cx} {pins : List (Addr × Obj)} {σ : St} {H : Hp} {s : Shared} {E : Value → Shared → Prop}
theorem Inv.wish (I : Inv X pins σ H s) (E : Value → Shared → Prop) : Inv (X.wish E) pins σ H s := ⟨I.ok.wish E, I.os, I.bare, I.base, I.loc, I.cell, I.free, I.freeC, I.pin, I.hok, I.len⟩
theorem Inv.unwish (I : Inv (X.wish E) pins σ H s) : Inv X pins σ H s := ⟨I.ok.unwish, I.os, I.bare, I.base, I.loc, I.cell, I.free, I.freeC, I.pin, I.hok, I.len⟩
theorem SP.unwish {D : Ends} {f : Flow} {s' : Shared} (h : SP (X.wish E) pins D f s') : SP X pins D f s' := by
  cases f with
  | next => obtain ⟨σ', H', I, q⟩ := h; exact ⟨σ', H', I.unwish, q⟩
  | brk => obtain ⟨σ', H', I, q⟩ := h; exact ⟨σ', H', I.unwish, q⟩
  | cont => obtain ⟨σ', H', I, q⟩ := h; exact ⟨σ', H', I.unwish, q⟩
  | ret u => obtain ⟨v, σ', H', I, r, q⟩ := h; exact ⟨v, σ', H', I.unwish, r, q⟩
theorem PE.nox {e : Expr} {t : TE} (h : PE X.nox e t) : PE X e t := fun pins s σ H Q I hw =>
  wpAny_mono (h pins s σ H Q (I.wish _) hw) (fun _ _ ⟨v, H', I', r, q⟩ => ⟨v, H', I'.unwish, r, q⟩) fun _ _ z => False.elim z
theorem PT.nox {e : Expr} {t : TT} (h : PT X.nox e t) : PT X e t := fun pins s σ H Q I hw =>
  wpAny_mono (h pins s σ H Q (I.wish _) hw) (fun _ _ ⟨H', I', q⟩ => ⟨H', I'.unwish, q⟩) fun _ _ z => False.elim z
theorem PSs.nox {st : List Stmt} {t : TS} (h : PSs X.nox st t) : PSs X st t := fun pins s σ H D I hw =>
  wpAny_mono (h pins s σ H D (I.wish _) hw) (fun _ _ q => q.unwish) fun _ _ z => False.elim z
end

/-! ### blocks and small statements -/
section
variable {X : Cx} {st : Stmt} {rest : List Stmt} {t u : TS} {e : Expr} {te : TE} {pos : Pos}
def tNext : TS := fun D σ H => D.nx σ H
def tSeq (t u : TS) : TS := fun D σ H => t { D with nx := u D } σ H
theorem pss_nil : PSs X [] tNext := fun _ _ σ H _ I h => wpAny_execs_nil ⟨σ, H, I, h⟩
theorem pss_cons (h1 : PS X st t) (h2 : PSs X rest u) : PSs X (st :: rest) (tSeq t u) := by
  intro pins s σ H D I h
  refine wpAny_execs_cons (thn (h1 pins s σ H { D with nx := u D } I h) fun f s1 q => ?_)
  cases f with
  | next =>
    obtain ⟨σ', H', I', q⟩ := q
    exact h2 pins s1 σ' H' D I' q
  | ret v => exact q
  | brk => exact q
  | cont => exact q
theorem pss_one (h1 : PS X st t) : PSs X [st] t := by
  intro pins s σ H D I h
  refine wpAny_execs_cons (thn (h1 pins s σ H D I h) fun f s1 q => ?_)
  cases f with
  | next => exact wpAny_execs_nil q
  | ret v => exact q
  | brk => exact q
  | cont => exact q
def tBreak : TS := fun D σ H => D.bk σ H
def tCont : TS := fun D σ H => D.ct σ H
theorem ps_pass : PS X (.Pass pos) tNext := fun _ _ σ H _ I h => wpAny_Pass ⟨σ, H, I, h⟩
theorem ps_break : PS X (.Break pos) tBreak := fun _ _ σ H _ I h => wpAny_Break ⟨σ, H, I, h⟩
theorem ps_continue : PS X (.Continue pos) tCont := fun _ _ σ H _ I h => wpAny_Continue ⟨σ, H, I, h⟩
/-- in a def's body nothing is shown -/
theorem Inv.quiet {pins : List (Addr × Obj)} {σ : St} {H : Hp} {s : Shared} (I : Inv X pins σ H s) : interactive X.env = false := by simp [interactive, I.ok.kind]
/-- a docstring -/
theorem ps_doc {x j pos pos'} : PS X (.Expr (.Constant (.str x) j pos) pos') tNext := fun _ s σ H _ I h => wpAny_Expr (Calls.Constant_str (show SP X _ _ .next { s with toks := s.toks + 1 } from ⟨σ, H, I.tok _, h⟩)) I.quiet
/-- an expression whose value is dropped -/
def tDrop (te : TE) : TS := fun D σ H => te σ H fun _ H1 => D.nx σ H1
theorem ps_expr (he : PE X e te) (hs : swapsWith e none pos.line X.env = pure false := by rfl) : PS X (.Expr e pos) (tDrop te) := by
  intro pins s σ H D I h
  exact wpAny_Expr_any (thn (he pins s σ H _ I h) fun v s1 ⟨x, H1, I1, r1, q1⟩ => ⟨σ, H1, I1, q1⟩) I.quiet hs
def tRet (te : TE) : TS := fun D σ H => te σ H D.rt
theorem ps_ret (he : PE X e te) : PS X (.Return (some e) pos) (tRet te) := by
  intro pins s σ H D I h
  exact wpAny_Return_some (thn (he pins s σ H _ I h) fun v s1 ⟨x, H1, I1, r1, q1⟩ => ⟨x, σ, H1, I1, r1, q1⟩)
def tRetN : TS := fun D _ H => D.rt .non H
theorem ps_retN : PS X (.Return none pos) tRetN := fun _ _ σ H _ I h => wpAny_Return_none ⟨.non, σ, H, I, rfl, h⟩
def tIfS (c : TT) (t u : TS) : TS := fun D σ H => c σ H fun b H1 => if b = true then t D σ H1 else u D σ H1
theorem ps_if {c : Expr} {a b : List Stmt} {tc : TT} (hc : PT X c tc) (ha : PSs X a t) (hb : PSs X b u) : PS X (.If c a b pos) (tIfS tc t u) := by
  intro pins s σ H D I h
  refine wpAny_If (thn (hc pins s σ H _ I h) fun d s1 ⟨H1, I1, q1⟩ => ?_)
  cases d with
  | true => exact ha pins s1 σ H1 D I1 q1
  | false => exact hb pins s1 σ H1 D I1 q1
/-- code that the proof never comes to -/
def tNever : TS := fun _ _ _ => False
theorem ps_never : PS X st tNever := fun _ _ _ _ _ _ h => h.elim
theorem pss_never {sts : List Stmt} : PSs X sts tNever := fun _ _ _ _ _ _ h => h.elim
end

/-! ### targets -/
abbrev TG := V → St → Hp → (St → Hp → Prop) → Prop
abbrev TGs := List V → St → Hp → (St → Hp → Prop) → Prop
def PG (X : Cx) (target : Expr) (t : TG) : Prop :=
  ∀ (pins : List (Addr × Obj)) (s : Shared) (σ : St) (H : Hp) (v : V) (u : Value) (Q : St → Hp → Prop), Inv X pins σ H s → RelV v u → t v σ H Q →
    wpAny (model X.prog X.w) X.A (assign target X.env u) (fun _ s' => ∃ σ' H', Inv X pins σ' H' s' ∧ Q σ' H') X.xe s
/-- several targets, one after another -/
def PGs (X : Cx) (ts : List Expr) (t : TGs) : Prop :=
  ∀ (pins : List (Addr × Obj)) (s : Shared) (σ : St) (H : Hp) (vs : List V) (us : List Value) (Q : St → Hp → Prop), Inv X pins σ H s → Vals vs us → t vs σ H Q →
    wpAny (model X.prog X.w) X.A (assignInOrder ((assignEach ts X.env).map (·.2)) us) (fun _ s' => ∃ σ' H', Inv X pins σ' H' s' ∧ Q σ' H') X.xe s
/-- o[i] = v, by values -/
abbrev TSet := V → V → V → Hp → (Hp → Prop) → Prop
def PSet (X : Cx) (t : TSet) : Prop :=
  ∀ (pins : List (Addr × Obj)) (s : Shared) (σ : St) (H : Hp) (o i v : V) (ov iv u : Value) (Q : Hp → Prop), Inv X pins σ H s → RelV o ov → RelV i iv → RelV v u → t o i v H Q →
    wpAny (model X.prog X.w) X.A (setItem ov iv u) (fun _ s' => ∃ H', Inv X pins σ H' s' ∧ Q H') X.xe s
/-- a op= b, by values -/
abbrev TIp := V → V → Hp → VK → Prop
def PIp (X : Cx) (op : Operator) (t : TIp) : Prop :=
  ∀ (pins : List (Addr × Obj)) (s : Shared) (σ : St) (H : Hp) (x y : V) (v u : Value) (Q : VK), Inv X pins σ H s → RelV x v → RelV y u → t x y H Q →
    wpAny (model X.prog X.w) X.A (inplaceOp op v u) (EP X pins σ Q) X.xe s
section
variable {X : Cx} {pos : Pos}
def gName (i : Nat) : TG := fun v σ H Q => Q (σ.set i (some v)) H
theorem pg_name {i : Nat} {x : Str} (hN : X.N.Nodup) (hi : X.N[i]? = some x) (hx : Loc X.env.scope x) (hf : X.fn x = true ∨ X.env.scope.names.lookup x = some .local := by first | exact .inl rfl | exact .inr rfl | assumption) : PG X (.Name x pos) (gName i) := by
  intro pins s σ H v u Q I r h
  exact wpAny_assign_Name (store_ok I hN hi hx r (fun s' I' => ⟨_, H, I', h⟩) hf)
def gNil : TGs := fun vs σ H Q => vs = [] ∧ Q σ H
def gCons (t : TG) (u : TGs) : TGs := fun vs σ H Q => ∃ v r, vs = v :: r ∧ t v σ H fun σ' H' => u r σ' H' Q
theorem pgs_nil : PGs X [] gNil := by
  intro pins s σ H vs us Q I r h
  obtain ⟨e, h⟩ := h
  subst e
  cases r
  exact assignInOrder_nil ⟨σ, H, I, h⟩
theorem pgs_cons {e : Expr} {es : List Expr} {t : TG} {u : TGs} (h1 : PG X e t) (h2 : PGs X es u)
    (hs : (assignEach (e :: es) X.env).map (·.2) = assign e X.env :: (assignEach es X.env).map (·.2) := by rfl) : PGs X (e :: es) (gCons t u) := by
  intro pins s σ H vs us Q I r h
  obtain ⟨v, vr, e1, h⟩ := h
  subst e1
  cases r with
  | cons r rr =>
    rw [hs]
    refine assignInOrder_cons (thn (h1 pins s σ H _ _ _ I r h) fun _ s1 ⟨σ1, H1, I1, q1⟩ => ?_)
    exact h2 pins s1 σ1 H1 _ _ Q I1 rr q1
/-- (a, b, ..) = a tuple of that length -/
def gTup (K : PySem.W.Frag) (n : Nat) (t : TGs) : TG := fun v σ H Q => ∃ a xs, v = .ref a ∧ SqT K H a xs ∧ xs.length = n ∧ t xs σ H Q
theorem pg_tup {es : List Expr} {k : Nat} {t : TGs} {n : Nat} (hc : X.calm = true) (h : PGs X es t)
    (hn : (assignEach es X.env).length = n := by rfl) (hst : (assignEach es X.env).findIdx? (·.1) = none := by rfl) : PG X (.Tuple es k pos) (gTup X.K n t) := by
  intro pins s σ H v u Q I r hw
  obtain ⟨a, xs, e1, hq, hl, hw⟩ := hw
  subst e1
  cases r
  obtain ⟨its, rv, ht, hz⟩ := I.tuple hq
  refine assign_Tuple_tuple (I.ok.hd hc) ht (by simp [hn, ← hl, rv.length]) hst fun h' hx => ?_
  have I1 : Inv X pins σ H { s with heap := h' } := I.kept (t' := s.toks) fun b o e => hx b o (Nat.ne_of_lt (Heap.lt_size e)) e
  exact h pins _ σ H xs _ Q I1 (by simpa using rv) hw
/-- o[i] = .. -/
def gSub (to ti : TE) (t : TSet) : TG := fun v σ H Q => to σ H fun o H1 => ti σ H1 fun i H2 => t o i v H2 fun H3 => Q σ H3
theorem pg_sub {o i : Expr} {to ti : TE} {t : TSet} (ho : PE X o to) (hi : PE X i ti) (hs : PSet X t)
    (ha : ∀ v, assign (.Subscript o i pos) X.env v = (do
      let ov ← holding [v] (eval o X.env)
      let iv ← holding [v, ov] (eval i X.env)
      standAt pos
      holding [v, ov, iv] (setItem ov iv v)
      release [v, ov, iv] []) := by intro _; rfl) : PG X (.Subscript o i pos) (gSub to ti t) := by
  intro pins s σ H v u Q I r h
  rw [ha]
  refine wpAny_bind (wpAny_holding (thn (ho pins s σ H _ I h) fun ov s1 ⟨x, H1, I1, r1, q1⟩ => ?_))
  refine wpAny_bind (wpAny_holding (thn (hi pins s1 σ H1 _ I1 q1) fun iv s2 ⟨y, H2, I2, r2, q2⟩ => ?_))
  refine wpAny_bind (wpAny_standAt (wpAny_bind (wpAny_holding (thn (hs pins s2 σ H2 x y v ov iv u _ I2 r1 r2 r q2) fun _ s3 ⟨H3, I3, q3⟩ => ?_))))
  exact wpAny_release ⟨σ, H3, I3, q3⟩
/-- target = value -/
def tAsg (te : TE) (g : TG) : TS := fun D σ H => te σ H fun x H1 => g x σ H1 D.nx
theorem ps_asg {tg e : Expr} {te : TE} {g : TG} (he : PE X e te) (hg : PG X tg g) (hs : swapsWithSole [tg] e pos.line X.env = pure false := by rfl) (hw : swappedStores [tg] e X.env = pure none := by rfl)
    (h1 : (assignEach [tg] X.env).map (·.2) = [assign tg X.env] := by rfl) : PS X (.Assign [tg] e pos) (tAsg te g) := by
  intro pins s σ H D I h
  refine wpAny_Assign_stores (thn (he pins s σ H _ I h) fun v s1 ⟨x, H1, I1, r1, q1⟩ => ?_) hs hw
  rw [h1]
  exact thn (hg pins s1 σ H1 x v _ I1 r1 q1) fun _ s2 q => q
/-- name = value -/
theorem ps_set {i : Nat} {x : Str} {e : Expr} {te : TE} {pos' : Pos} (hN : X.N.Nodup) (hi : X.N[i]? = some x) (hx : Loc X.env.scope x) (he : PE X e te) (hs : swapsWith e (some (.Name x pos')) pos.line X.env = pure false := by rfl) (hf : X.fn x = true ∨ X.env.scope.names.lookup x = some .local := by first | exact .inl rfl | exact .inr rfl | assumption) :
    PS X (.Assign [.Name x pos'] e pos) (tAsg te (gName i)) := by
  intro pins s σ H D I h
  refine wpAny_Assign_Name (thn (he pins s σ H _ I h) fun v s1 ⟨y, H1, I1, r1, q1⟩ => ?_) hs
  exact store_ok I1 hN hi hx r1 (fun s2 I2 => ⟨_, H1, I2, q1⟩) hf
/-- a, b = x, y with plain local names: stored from the right; the pair itself is not tracked (the opening rows as in PyProof/Rows/TupAssign.lean:23) -/
def tPar (i j : Nat) (ta : TA) : TS := fun D σ H => ta σ H fun vs H1 => ∃ v w, vs = [v, w] ∧ D.nx ((σ.set i (some v)).set j (some w)) H1
theorem ps_par {i j : Nat} {x y : Str} {a b : Expr} {ta : TA} {px py pt : Pos} {kt k2 pt2} (hc : X.calm = true) (hN : X.N.Nodup) (hi : X.N[i]? = some x) (hj : X.N[j]? = some y) (hij : i ≠ j)
    (hx : X.env.scope.names.lookup x = some .local) (hy : X.env.scope.names.lookup y = some .local) (ha : PA X [a, b] ta)
    (hw : swappedStores [.Tuple [.Name x px, .Name y py] kt pt] (.Tuple [a, b] k2 pt2) X.env = pure (some [x, y]))
    (hs : swapsWithSole [.Tuple [.Name x px, .Name y py] kt pt] (.Tuple [a, b] k2 pt2) pos.line X.env = pure false := by rfl) :
    PS X (.Assign [.Tuple [.Name x px, .Name y py] kt pt] (.Tuple [a, b] k2 pt2) pos) (tPar i j ta) := by
  intro pins s σ H D I h
  rw [exec_Assign_arm]
  refine wpAny_bind (wpAny_standAt ?_)
  rw [hs]
  refine wpAny_bind (wpAny_pure ?_)
  rw [if_neg (by decide)]
  refine wpAny_bind (Tuple_ (thn (ha _ pins s σ H _ I h) fun us s1 ⟨vs, H1, I1, r1, q1⟩ => ?_))
  obtain ⟨v, w, e1, q1⟩ := q1
  subst e1
  obtain ⟨u1, u2, rfl, rv, rw'⟩ : ∃ u1 u2, us = [u1, u2] ∧ RelV v u1 ∧ RelV w u2 := by
    cases r1 with
    | cons p q =>
      cases q with
      | cons p' q' =>
        cases q'
        exact ⟨_, _, rfl, p, p'⟩
  refine wpAny_newObj_type ?_ (by show 2 ≤ sizeLine; decide)
  have I2 : Inv X pins σ H1 { s1 with heap := s1.heap.push { cls := .type "tuple", data := .seq [u1, u2].toArray } } := I1.kept (t' := s1.toks) fun b o e => Heap.get?_push_of_some _ e
  rw [hw]
  refine wpAny_bind (wpAny_pure ?_)
  show wpAny (model X.prog X.w) X.A (do rule "assign.swapped-stores"; let items ← unpackItems (.ref s1.heap.objs.size) 2 none; assignInOrder [fun v => bindName X.env y v, fun v => bindName X.env x v] items.reverse; pure Flow.next) _ _ _
  refine wpAny_bind (wpAny_rule (wpAny_bind (unpackItems_tuple (items := #[u1, u2]) (I.ok.hd hc) (IsTup.new s1.heap _) fun h' hx' => ?_)))
  have I3 := I2.kept (h' := h') (t' := s1.toks) fun b o e => hx' b o (Nat.ne_of_lt (Heap.lt_size e)) e
  show wpAny _ _ (assignInOrder [fun v => bindName X.env y v, fun v => bindName X.env x v] [u2, u1] >>= fun _ => pure Flow.next) _ _ _
  refine wpAny_bind (assignInOrder_cons (wpAny_bindName (store_ok I3 hN hj (.inl hy) rw' (fun s2 I4 => ?_) (.inr hy))))
  refine assignInOrder_cons (wpAny_bindName (store_ok I4 hN hi (.inl hx) rv (fun s3 I5 => assignInOrder_nil (wpAny_pure ?_)) (.inr hx)))
  rw [List.set_comm _ _ (Ne.symm hij)] at I5
  exact ⟨_, H1, I5, q1⟩
/-- name op= e -/
def tAug (i : Nat) (te : TE) (ti : TIp) : TS := fun D σ H => ∃ x, σ[i]? = some (some x) ∧ te σ H fun y H1 => ti x y H1 fun z H2 => D.nx (σ.set i (some z)) H2
theorem ps_aug {i : Nat} {x : Str} {e : Expr} {te : TE} {op : Operator} {ti : TIp} {pos' : Pos} (hN : X.N.Nodup) (hi : X.N[i]? = some x) (hx : Loc X.env.scope x) (he : PE X e te) (ho : PIp X op ti) (hf : X.fn x = true ∨ X.env.scope.names.lookup x = some .local := by first | exact .inl rfl | exact .inr rfl | assumption) :
    PS X (.AugAssign (.Name x pos') op e pos) (tAug i te ti) := by
  intro pins s σ H D I h
  obtain ⟨v, e1, h⟩ := h
  obtain ⟨m, hn, hl⟩ := I.loc
  have vis : Vis X.env.scope x := by rcases hx with k | k; exact .inl k; exact .inr (.inl k)
  obtain ⟨u, r, l⟩ := hl i x v hi e1 vis
  refine wpAny_AugAssign_Name ?_
  have go : wpAny (model X.prog X.w) X.A (eval e X.env) (fun w s₂ => wpAny (model X.prog X.w) X.A (inplaceOp op u w) (fun r s₃ => wpAny (model X.prog X.w) X.A (storeName X.env x r) (fun _ => SP X pins D .next) X.xe s₃) X.xe s₂) X.xe s := by
    refine thn (he pins s σ H _ I h) fun w s1 ⟨y, H1, I1, r1, q1⟩ => ?_
    refine thn (ho pins s1 σ H1 v y u w _ I1 r r1 q1) fun z s2 ⟨zv, H2, I2, r2, q2⟩ => ?_
    exact store_ok I2 hN hi hx r2 (fun s3 I3 => ⟨_, H2, I3, q2⟩) hf
  rcases l with ⟨hk, hm⟩ | ⟨hk, c, hc, hcell⟩
  · exact wpAny_loadName_local I.ok.kind hk hn hm go
  · rcases hk with hk | hk
    · exact wpAny_loadName_cell I.ok.kind hk hc hcell go
    · rcases hx with k | k
      · have : X.env.scope.names.lookup x = some .free := hk
        rw [k] at this; cases this
      · have : X.env.scope.names.lookup x = some .free := hk
        rw [k] at this; cases this
/-- o[i] op= e -/
def tAugS (to ti te : TE) (tget : V → V → Hp → VK → Prop) (tip : TIp) (tset : TSet) : TS := fun D σ H => to σ H fun o H1 => ti σ H1 fun i H2 => tget o i H2 fun x H3 => te σ H3 fun y H4 => tip x y H4 fun z H5 => tset o i z H5 fun H6 => D.nx σ H6
/-- o[i], by values -/
def PGet (X : Cx) (t : V → V → Hp → VK → Prop) : Prop :=
  ∀ (pins : List (Addr × Obj)) (s : Shared) (σ : St) (H : Hp) (o i : V) (ov iv : Value) (Q : VK), Inv X pins σ H s → RelV o ov → RelV i iv → t o i H Q →
    wpAny (model X.prog X.w) X.A (getItem ov iv) (EP X pins σ Q) X.xe s
theorem ps_augS {o i e : Expr} {to ti te : TE} {tget : V → V → Hp → VK → Prop} {tip : TIp} {tset : TSet} {op : Operator} {tpos : Pos} (ho : PE X o to) (hi : PE X i ti) (hg : PGet X tget) (he : PE X e te) (hp : PIp X op tip) (hs : PSet X tset)
    (ha : ∀ ov iv new, augStore i ov iv new = (do holding [new, ov, iv] (setItem ov iv new); release [new, ov, iv] []; pure .next) := by intros; rfl) : PS X (.AugAssign (.Subscript o i tpos) op e pos) (tAugS to ti te tget tip tset) := by
  intro pins s σ H D I h
  refine wpAny_AugAssign_SubscriptAny (thn (ho pins s σ H _ I h) fun ov s1 ⟨x1, H1, I1, r1, q1⟩ => ?_) ha
  refine thn (hi pins s1 σ H1 _ I1 q1) fun iv s2 ⟨x2, H2, I2, r2, q2⟩ => ?_
  refine thn (hg pins s2 σ H2 x1 x2 ov iv _ I2 r1 r2 q2) fun old s3 ⟨x3, H3, I3, r3, q3⟩ => ?_
  refine thn (he pins s3 σ H3 _ I3 q3) fun v s4 ⟨x4, H4, I4, r4, q4⟩ => ?_
  refine thn (hp pins s4 σ H4 x3 x4 old v _ I4 r3 r4 q4) fun new s5 ⟨x5, H5, I5, r5, q5⟩ => ?_
  exact thn (hs pins s5 σ H5 x1 x2 x5 ov iv new _ I5 r1 r2 r5 q5) fun _ s6 ⟨H6, I6, q6⟩ => ⟨σ, H6, I6, q6⟩
/-- ints -/
def ipI (f : Int → Int → Int) : TIp := fun x y H Q => ∃ i j, x = .int i ∧ y = .int j ∧ Q (.int (f i j)) H
theorem ip_add : PIp X .Add (ipI fun i j => i + j) := by
  intro pins s σ H x y v u Q I r1 r2 h
  obtain ⟨i, j, e1, e2, q⟩ := h
  subst e1; subst e2
  obtain ⟨t, rfl⟩ := r1
  obtain ⟨t', rfl⟩ := r2
  exact iadd_int ⟨.int _, H, I.tok _, ⟨_, rfl⟩, q⟩
theorem ip_sub : PIp X .Sub (ipI fun i j => i - j) := by
  intro pins s σ H x y v u Q I r1 r2 h
  obtain ⟨i, j, e1, e2, q⟩ := h
  subst e1; subst e2
  obtain ⟨t, rfl⟩ := r1
  obtain ⟨t', rfl⟩ := r2
  exact isub_int ⟨.int _, H, I.tok _, ⟨_, rfl⟩, q⟩
end

/-! ### while -/
section
variable {X : Cx} {pos : Pos}
/-- the invariant W with its measure -/
def tWhile (c : TT) (tb : TS) : TS := fun D σ H => ∃ W : Nat → St → Hp → Prop, (∃ m, W m σ H) ∧ ∀ m σ H, W m σ H →
  c σ H fun b H1 => if b = true then ∃ N : St → Hp → Prop, (∀ σ' H', N σ' H' → ∃ m', m' < m ∧ W m' σ' H') ∧ tb { D with nx := N, ct := N, bk := D.nx } σ H1 else D.nx σ H1
theorem ps_while {c : Expr} {body : List Stmt} {tc : TT} {tb : TS} (hp : PassesOwn (model X.prog X.w) X.A X.env X.xe) (hc : PT X c tc) (hb : PSs X body tb) : PS X (.While c body [] pos) (tWhile tc tb) := by
  intro pins s σ H D I h
  obtain ⟨W, ⟨m0, w0⟩, turn⟩ := h
  refine wpAny_While (codeAny_whileLoop (fun n s' => ∃ σ' H', Inv X pins σ' H' s' ∧ W n σ' H') ?_ m0 ⟨σ, H, I, w0⟩)
  rintro n s1 ⟨σ1, H1, I1, w1⟩
  refine wpAny_passesOwn hp (thn (hc pins s1 σ1 H1 _ I1 (turn n σ1 H1 w1)) fun b s2 ⟨H2, I2, q2⟩ => ?_)
  cases b with
  | true =>
    obtain ⟨N, hN, q2⟩ := q2
    rw [if_pos rfl]
    refine wpAny_passesOwn hp (thn (hb pins s2 σ1 H2 _ I2 q2) fun f s3 q3 => ?_)
    cases f with
    | next =>
      obtain ⟨σ3, H3, I3, n3⟩ := q3
      obtain ⟨m', hm, w3⟩ := hN σ3 H3 n3
      exact ⟨m', hm, σ3, H3, I3, w3⟩
    | cont =>
      obtain ⟨σ3, H3, I3, n3⟩ := q3
      obtain ⟨m', hm, w3⟩ := hN σ3 H3 n3
      exact ⟨m', hm, σ3, H3, I3, w3⟩
    | brk => exact q3
    | ret v => exact q3
  | false =>
    rw [if_neg Bool.false_ne_true]
    exact wpAny_execs_nil ⟨σ1, H2, I2, q2⟩
end

/-! ### what a loop or a comprehension walks -/
/-- at turn i: it yields x (the heap may grow), or it stops -/
structure It where
  go : Nat → Hp → Prop
  yld : Nat → Hp → V → Hp → Prop
  stop : Nat → Hp → Prop
/-- the iterator's own objects may turn: they are not the frame's, not pinned, younger than the entry (or a comprehension's own) -/
def FpOk (X : Cx) (pins : List (Addr × Obj)) (H : Hp) (b : Addr) : Prop :=
  H b = none ∧ b ≠ X.env.locals ∧ b ∉ X.fs ∧ (b ∈ X.ex ∨ X.s₀.heap.objs.size ≤ b) ∧ (∀ x c, X.env.cells.lookup x = some c → c ≠ b) ∧ ∀ p ∈ X.pn ++ pins, p.1 ≠ b
theorem Inv.fpOk {X : Cx} {pins : List (Addr × Obj)} {σ : St} {H H' : Hp} {s : Shared} {b : Addr} (I : Inv X pins σ H s) (hb : s.heap.objs.size ≤ b) (hn : H' b = none) : FpOk X pins H' b := by
  refine ⟨hn, Nat.ne_of_gt (Nat.lt_of_lt_of_le I.lt hb), I.nofs hb, .inr (Nat.le_trans I.sz hb), fun x c e z => ?_, fun p hp z => ?_⟩
  · obtain ⟨v, q⟩ := I.cell x c e
    exact absurd (Nat.lt_of_lt_of_le q.lt (by rw [z]; exact hb)) (Nat.lt_irrefl _)
  · exact absurd (Nat.lt_of_lt_of_le (Heap.lt_size (I.pin p hp).1) (by rw [z]; exact hb)) (Nat.lt_irrefl _)
structure Turn (P : Program) (w : World) (K : PySem.W.Frag) (tg : Expr) (J : It) (fp : List Addr) (it : Addr) (tn : Nat → Heap → Prop) : Prop where
  mem : it ∈ fp
  obj : ∀ i h, tn i h → ∀ b ∈ fp, ∃ o, h.get? b = some o ∧ ∀ v, o.data ≠ .cell v
  keep : ∀ i h h', tn i h → (∀ b ∈ fp, ∀ o, h.get? b = some o → h'.get? b = some o) → tn i h'
  item : ∀ (X : Cx), X.prog = P → X.w = w → X.K = K → X.calm = true → ∀ (i : Nat) (pins : List (Addr × Obj)) (s : Shared) (σ : St) (H : Hp) (E : Value → Shared → Prop), Inv X pins σ H s → (∀ b ∈ fp, FpOk X pins H b) → tn i s.heap → J.go i H →
    wpAny (model P w) X.A (pyNext (.ref it)) (fun r s1 => ∃ u, r = some u ∧
      wpAny (model P w) X.A (letOwnedTupleGo tg (.ref it) u) (fun _ s2 => ∃ x H', Inv X pins σ H' s2 ∧ RelV x u ∧ J.yld i H x H' ∧ tn (i + 1) s2.heap ∧ ∀ b ∈ fp, H' b = none) E s1) E s
  done : ∀ (X : Cx), X.prog = P → X.w = w → X.K = K → X.calm = true → ∀ (i : Nat) (pins : List (Addr × Obj)) (s : Shared) (σ : St) (H : Hp) (E : Value → Shared → Prop), Inv X pins σ H s → (∀ b ∈ fp, FpOk X pins H b) → tn i s.heap → J.stop i H →
    wpAny (model P w) X.A (pyNext (.ref it)) (fun r s1 => r = none ∧ Inv X pins σ H s1) E s
  self : ∀ (A : Around) (i : Nat) (s : Shared) (Q : Value → Shared → Prop) (E : Value → Shared → Prop), tn i s.heap → Q (.ref it) s → wpAny (model P w) A (pyIter (.ref it)) Q E s
abbrev TI := St → Hp → (It → Hp → Prop) → Prop
/-- an iterator has come -/
def PIE (X : Cx) (pins : List (Addr × Obj)) (σ : St) (tg : Expr) (R : It → Hp → Prop) (itv : Value) (s2 : Shared) : Prop :=
  ∃ (it : Addr) (fp : List Addr) (tn : Nat → Heap → Prop) (J : It) (H' : Hp), itv = .ref it ∧ Inv X pins σ H' s2 ∧ Turn X.prog X.w X.K tg J fp it tn ∧ tn 0 s2.heap ∧ (∀ b ∈ fp, FpOk X pins H' b) ∧ R J H'
def PI (X : Cx) (tg iter : Expr) (wi : TI) : Prop :=
  ∀ (pins : List (Addr × Obj)) (s : Shared) (σ : St) (H : Hp) (R : It → Hp → Prop), Inv X pins σ H s → wi σ H R →
    wpAny (model X.prog X.w) X.A (eval iter X.env) (fun v s1 => wpAny (model X.prog X.w) X.A (pyIter v) (PIE X pins σ tg R) X.xe s1) X.xe s

/-- the step ahead of the store is nothing for an iterator that keeps no tuple -/
theorem go_of {M : Model} {A : Around} {E : Value → Shared → Prop} {s : Shared} {tg : Expr} {it : Addr} {u : Value} {o : Obj} {n : String} {vs : Array Value} {Q : Unit → Shared → Prop} (ho : s.heap.get? it = some o) (hc : o.cls = .type n) (hd : o.data = .fields vs)
    (hn : ["enumerate", "zip", "dict_itemiterator", "dict_reverseitemiterator", "odict_iterator", "itertools.zip_longest", "itertools.pairwise"].contains n = false) (hQ : Q () s) : wpAny M A (letOwnedTupleGo tg (.ref it) u) Q E s := by
  unfold letOwnedTupleGo
  cases tg <;> first
    | exact wpAny_pure hQ
    | (cases u <;> first
        | exact wpAny_pure hQ
        | (refine wpAny_bind (wpAny_load ho ?_)
           rw [hc, hd]
           show wpAny M A (if (["enumerate", "zip", "dict_itemiterator", "dict_reverseitemiterator", "odict_iterator", "itertools.zip_longest", "itertools.pairwise"].contains n && vs[0]? == some (rawInt _)) = true then _ else _) Q E s
           rw [if_neg (by intro h; rw [hn, Bool.false_and] at h; cases h)]
           exact wpAny_pure hQ))

/-- the list at a, as it stands at each turn (a loop may append to it) -/
def Itl (K : PySem.W.Frag) (a : Addr) : It :=
  ⟨fun i H => ∃ xs x, SqL K H a xs ∧ xs[i]? = some x, fun i H x H' => H' = H ∧ ∀ xs, SqL K H a xs → xs[i]? = some x, fun i H => ∃ xs, SqL K H a xs ∧ xs.length ≤ i⟩
def Itt (K : PySem.W.Frag) (a : Addr) : It :=
  ⟨fun i H => ∃ xs x, SqT K H a xs ∧ xs[i]? = some x, fun i H x H' => H' = H ∧ ∀ xs, SqT K H a xs → xs[i]? = some x, fun i H => ∃ xs, SqT K H a xs ∧ xs.length ≤ i⟩
/-- lo, lo + 1, .. (n of them) -/
def Itr (lo : Int) (n : Nat) : It := ⟨fun i _ => i < n, fun i H x H' => H' = H ∧ x = .int (lo + i), fun i _ => n ≤ i⟩
theorem turn_list {P : Program} {w : World} {K : PySem.W.Frag} {tg : Expr} (a it : Addr) : Turn P w K tg (Itl K a) [it] it (fun i h => h.IsListIter it a i) where
  mem := by simp
  obj := fun i h st b hb => by
    have e : b = it := by simpa using hb
    subst e
    obtain ⟨o, e, c, d⟩ := st
    exact ⟨o, e, fun v z => by rw [d] at z; cases z⟩
  keep := fun i h h' st k => st.at fun o e => k it (by simp) o e
  item := by
    intro X hP hw hK hc i pins s σ H E I hf st hg
    subst hP hw hK
    obtain ⟨xs, x, hq, hx⟩ := hg
    obtain ⟨its, rv, p, hz⟩ := I.list hq
    obtain ⟨u, hu, ru⟩ := rv.get hx
    obtain ⟨f0, f1, f2, f3, f4, f5⟩ := hf it (by simp)
    refine wpAny_pyNext_list_item st p.isList (x := u) (by simpa using hu) fun h' st' sb => ?_
    have I1 : Inv X pins σ H { s with heap := h' } := I.turned (t' := s.toks) (fun b o hb e => (sb.2 b hb).trans e) f0 f1 f3 f4 f5
    obtain ⟨o, e, c, d⟩ := id st'
    exact ⟨u, rfl, go_of (s := { s with heap := h' }) e c d (by decide) ⟨x, H, I1, ru, ⟨rfl, fun ys hy => by rw [I.list_inj hy hq]; exact hx⟩, st', fun b hb => (hf b hb).1⟩⟩
  done := by
    intro X hP hw hK hc i pins s σ H E I hf st hg
    subst hP hw hK
    obtain ⟨xs, hq, hx⟩ := hg
    obtain ⟨its, rv, p, hz⟩ := I.list hq
    obtain ⟨f0, f1, f2, f3, f4, f5⟩ := hf it (by simp)
    have hl := rv.length
    exact wpAny_pyNext_list_end (I.ok.hd hc) st p.isList (by simp; omega) fun h' eb => ⟨rfl, I.turned (t' := s.toks) (fun b o hb e => eb b o hb e) f0 f1 f3 f4 f5⟩
  self := fun _ _ _ _ _ st h => wpAny_pyIter_listiter st h
theorem turn_tuple {P : Program} {w : World} {K : PySem.W.Frag} {tg : Expr} (a it : Addr) : Turn P w K tg (Itt K a) [it] it (fun i h => h.IsTupleIter it a i) where
  mem := by simp
  obj := fun i h st b hb => by
    have e : b = it := by simpa using hb
    subst e
    obtain ⟨o, e, c, d⟩ := st
    exact ⟨o, e, fun v z => by rw [d] at z; cases z⟩
  keep := fun i h h' st k => st.at fun o e => k it (by simp) o e
  item := by
    intro X hP hw hK hc i pins s σ H E I hf st hg
    subst hP hw hK
    obtain ⟨xs, x, hq, hx⟩ := hg
    obtain ⟨its, rv, p, hz⟩ := I.tuple hq
    obtain ⟨u, hu, ru⟩ := rv.get hx
    obtain ⟨f0, f1, f2, f3, f4, f5⟩ := hf it (by simp)
    refine wpAny_pyNext_tuple_item st (show s.heap.IsTuple a its.toArray from p) (x := u) (by simpa using hu) fun h' st' sb => ?_
    have I1 : Inv X pins σ H { s with heap := h' } := I.turned (t' := s.toks) (fun b o hb e => (sb.2 b hb).trans e) f0 f1 f3 f4 f5
    obtain ⟨o, e, c, d⟩ := id st'
    exact ⟨u, rfl, go_of (s := { s with heap := h' }) e c d (by decide) ⟨x, H, I1, ru, ⟨rfl, fun ys hy => by rw [I.tuple_inj hy hq]; exact hx⟩, st', fun b hb => (hf b hb).1⟩⟩
  done := by
    intro X hP hw hK hc i pins s σ H E I hf st hg
    subst hP hw hK
    obtain ⟨xs, hq, hx⟩ := hg
    obtain ⟨its, rv, p, hz⟩ := I.tuple hq
    obtain ⟨f0, f1, f2, f3, f4, f5⟩ := hf it (by simp)
    have hl := rv.length
    exact wpAny_pyNext_tuple_end (I.ok.hd hc) st (show s.heap.IsTuple a its.toArray from p) (by simp; omega) fun h' eb => ⟨rfl, I.turned (t' := s.toks) (fun b o hb e => eb b o hb e) f0 f1 f3 f4 f5⟩
  self := fun _ _ _ _ _ st h => wpAny_pyIter_tupleiter st h
theorem turn_range {P : Program} {w : World} {K : PySem.W.Frag} {tg : Expr} (it : Addr) (lo : Int) (n : Nat) : Turn P w K tg (Itr lo n) [it] it (fun i h => IsRangeIter h it (lo + (i : Nat) * 1) ((n : Int) - (i : Nat)) 1) where
  mem := by simp
  obj := fun i h st b hb => by
    have e : b = it := by simpa using hb
    subst e
    exact ⟨_, st, fun v z => by
      have z' : Data.fields _ = Data.cell v := z
      cases z'⟩
  keep := fun i h h' st k => k it (by simp) _ st
  item := by
    intro X hP hw hK hc i pins s σ H E I hf st hg
    subst hP hw hK
    obtain ⟨f0, f1, f2, f3, f4, f5⟩ := hf it (by simp)
    have W := Walks.range (prog := X.prog) (w := X.w) (I.ok.hd hc) it lo 1 n
    refine W.item i s _ _ hg st fun v h' tk hv st' kk => ?_
    obtain ⟨t, rfl⟩ := hv
    have I1 : Inv X pins σ H { s with heap := h', toks := tk } := I.turned (fun b o hb e => kk b o (by simpa using hb) e) f0 f1 f3 f4 f5
    refine ⟨_, rfl, go_of (s := { s with heap := h', toks := tk }) (n := "range_iterator") st' rfl rfl (by decide) ⟨.int (lo + i), H, I1, ⟨t, ?_⟩, ⟨rfl, rfl⟩, st', fun b hb => (hf b hb).1⟩⟩
    rw [Int.mul_one]
  done := by
    intro X hP hw hK hc i pins s σ H E I hf st hg
    subst hP hw hK
    obtain ⟨f0, f1, f2, f3, f4, f5⟩ := hf it (by simp)
    exact wpAny_pyNext_range_end (I.ok.hd hc) st (by have : n ≤ i := hg; omega) fun h' eb => ⟨rfl, I.turned (t' := s.toks) (fun b o hb e => eb b o hb e) f0 f1 f3 f4 f5⟩
  self := fun _ _ _ _ _ st h => wpAny_pyIter_rangeiter st h
end L2

namespace L2
open PySem PySem.Spec PyProof.Rows
section
variable {X : Cx} {tg : Expr}
def iList (K : PySem.W.Frag) (tl : TE) : TI := fun σ H R => tl σ H fun x H1 => ∃ a, x = .ref a ∧ (∃ xs, SqL K H1 a xs) ∧ R (Itl K a) H1
def iTup (K : PySem.W.Frag) (tl : TE) : TI := fun σ H R => tl σ H fun x H1 => ∃ a, x = .ref a ∧ (∃ xs, SqT K H1 a xs) ∧ R (Itt K a) H1
theorem pi_list {l : Expr} {tl : TE} (hl : PE X l tl) : PI X tg l (iList X.K tl) := by
  intro pins s σ H R I h
  refine thn (hl pins s σ H _ I h) fun v s1 ⟨x, H1, I1, r1, q1⟩ => ?_
  obtain ⟨a, e, ⟨xs, hq⟩, q⟩ := q1
  subst e
  cases r1
  obtain ⟨its, rv, p, hz⟩ := I1.list hq
  refine wpAny_pyIter_list p.isList ?_
  refine ⟨s1.heap.objs.size, [s1.heap.objs.size], _, _, H1, rfl, I1.kept (t' := s1.toks) fun b o e => Heap.get?_push_of_some _ e, turn_list a _, ⟨_, Heap.get?_push_size _ rfl, rfl, rfl⟩, fun b hb => ?_, q⟩
  have e : b = s1.heap.objs.size := by simpa using hb
  subst e
  exact I1.fpOk (Nat.le_refl _) (I1.hok.fresh (Nat.le_refl _))
theorem pi_tup {l : Expr} {tl : TE} (hl : PE X l tl) : PI X tg l (iTup X.K tl) := by
  intro pins s σ H R I h
  refine thn (hl pins s σ H _ I h) fun v s1 ⟨x, H1, I1, r1, q1⟩ => ?_
  obtain ⟨a, e, ⟨xs, hq⟩, q⟩ := q1
  subst e
  cases r1
  obtain ⟨its, rv, p, hz⟩ := I1.tuple hq
  refine wpAny_pyIter_tuple (show s1.heap.IsTuple a its.toArray from p) ?_
  refine ⟨s1.heap.objs.size, [s1.heap.objs.size], _, _, H1, rfl, I1.kept (t' := s1.toks) fun b o e => Heap.get?_push_of_some _ e, turn_tuple a _, ⟨_, Heap.get?_push_size _ rfl, rfl, rfl⟩, fun b hb => ?_, q⟩
  have e : b = s1.heap.objs.size := by simpa using hb
  subst e
  exact I1.fpOk (Nat.le_refl _) (I1.hok.fresh (Nat.le_refl _))
/-- a range object just made, walked -/
theorem range_it {pins : List (Addr × Obj)} {σ : St} {H : Hp} {s : Shared} {R : It → Hp → Prop} {E : Value → Shared → Prop} {lo hi : Int} {t u v : Tok} {tk : Nat} (I : Inv X pins σ H s) (h1 : -(2 ^ 62) ≤ lo) (h2 : lo < 2 ^ 62) (h3 : -(2 ^ 62) ≤ hi) (h4 : hi < 2 ^ 62)
    (q : R (Itr lo (hi - lo).toNat) H) : wpAny (model X.prog X.w) X.A (pyIter (.ref s.heap.objs.size)) (PIE X pins σ tg R) E { s with heap := s.heap.push { cls := .type "range", data := .fields #[.int lo t, .int hi u, .int 1 v] }, toks := tk } := by
  refine wpAny_pyIter_range (IsRange.new ..) (small_one h1 h2 h3 h4) ?_
  have I1 : Inv X pins σ H { s with heap := s.heap.push { cls := .type "range", data := .fields #[.int lo t, .int hi u, .int 1 v] }, toks := tk } := I.kept fun b o e => Heap.get?_push_of_some _ e
  refine ⟨(s.heap.push { cls := .type "range", data := .fields #[.int lo t, .int hi u, .int 1 v] }).objs.size, [(s.heap.push { cls := .type "range", data := .fields #[.int lo t, .int hi u, .int 1 v] }).objs.size], _, _, H, rfl,
    I1.kept (t' := tk) fun b o e => Heap.get?_push_of_some _ e, turn_range _ lo (hi - lo).toNat, ?_, fun b hb => ?_, q⟩
  · have e1 : lo + ((0 : Nat) : Int) * 1 = lo := by simp
    have e2 : (((hi - lo).toNat : Nat) : Int) - ((0 : Nat) : Int) = Builtin.Range.rangeSize lo hi 1 := by rw [rangeSize_one]; split <;> omega
    show IsRangeIter _ _ (lo + ((0 : Nat) : Int) * 1) ((((hi - lo).toNat : Nat) : Int) - ((0 : Nat) : Int)) 1
    rw [e1, e2]
    exact Heap.get?_push_size _ rfl
  · have e : b = (s.heap.push { cls := .type "range", data := .fields #[.int lo t, .int hi u, .int 1 v] }).objs.size := by simpa using hb
    subst e
    exact I1.fpOk (Nat.le_refl _) (I1.hok.fresh (Nat.le_refl _))
def iRng1 (ta : TA) : TI := fun σ H R => ta σ H fun vs H1 => ∃ j : Int, vs = [.int j] ∧ -(2 ^ 62) ≤ j ∧ j < 2 ^ 62 ∧ R (Itr 0 j.toNat) H1
def iRng2 (ta : TA) : TI := fun σ H R => ta σ H fun vs H1 => ∃ i j : Int, vs = [.int i, .int j] ∧ (-(2 ^ 62) ≤ i ∧ i < 2 ^ 62 ∧ -(2 ^ 62) ≤ j ∧ j < 2 ^ 62) ∧ R (Itr i (j - i).toNat) H1
theorem pi_range1 {a : Expr} {ta : TA} {p pos : Pos} (hg : Gl X "range") (hm : X.mg "range" = none) (ha : PA X [a] ta) (hs : starEach [a] X.env = [(false, eval a X.env)] := by rfl) : PI X tg (.Call (.Name "range" p) [a] [] pos) (iRng1 ta) := by
  intro pins s σ H R I h
  refine Call_ (ld_blt I hg hm boot_range (PyProof.Rows.callWith_type1 (thn (ha pos pins s σ H _ I h) fun us s1 ⟨vs, H1, I1, r1, q1⟩ => ?_) hs rfl))
  obtain ⟨j, e, q1, q2, q⟩ := q1
  subst e
  cases r1 with
  | cons r rr =>
    cases rr
    obtain ⟨t, rfl⟩ := r
    exact call_range_1 (range_it I1 (by omega) (by omega) q1 q2 (by simpa using q))
theorem pi_range2 {a b : Expr} {ta : TA} {p pos : Pos} (hg : Gl X "range") (hm : X.mg "range" = none) (ha : PA X [a, b] ta) (hs : starEach [a, b] X.env = [(false, eval a X.env), (false, eval b X.env)] := by rfl) (hs2 : starEach [b] X.env = [(false, eval b X.env)] := by rfl) :
    PI X tg (.Call (.Name "range" p) [a, b] [] pos) (iRng2 ta) := by
  intro pins s σ H R I h
  refine Call_ (ld_blt I hg hm boot_range (PyProof.Rows.callWith_type1 (thn (ha pos pins s σ H _ I h) fun us s1 ⟨vs, H1, I1, r1, q1⟩ => ?_) (by rw [hs, hs2]) (by rw [hs2]; rfl)))
  obtain ⟨i, j, e, ⟨q1, q2, q3, q4⟩, q⟩ := q1
  subst e
  cases r1 with
  | cons r rr =>
    cases rr with
    | cons r' rr =>
      cases rr
      obtain ⟨t, rfl⟩ := r
      obtain ⟨t', rfl⟩ := r'
      exact call_range_2 (range_it I1 q1 q2 q3 q4 q)

/-! ### for -/
/-- W: the invariant by the turn and a measure; N: what the body is to reach -/
def tFor (wi : TI) (g : TG) (tb : TS) : TS := fun D σ H => wi σ H fun J H1 => ∃ W : Nat → Nat → St → Hp → Prop, (∃ m, W 0 m σ H1) ∧ ∀ i m σ H, W i m σ H →
  (J.stop i H ∧ D.nx σ H) ∨ (J.go i H ∧ ∃ N : St → Hp → Prop, (∀ σ' H', N σ' H' → ∃ m', m' < m ∧ W (i + 1) m' σ' H') ∧ ∀ x H', J.yld i H x H' → g x σ H' fun σ2 H2 => tb { D with nx := N, ct := N, bk := D.nx } σ2 H2)
/-- the records at fp as they stand -/
def pinsAt (fp : List Addr) (h : Heap) : List (Addr × Obj) := fp.filterMap fun b => (h.get? b).map fun o => (b, o)
theorem mem_pinsAt {fp : List Addr} {h : Heap} {b : Addr} {o : Obj} (hb : b ∈ fp) (e : h.get? b = some o) : (b, o) ∈ pinsAt fp h := List.mem_filterMap.mpr ⟨b, hb, by rw [e]; rfl⟩
theorem of_pinsAt {fp : List Addr} {h : Heap} {p : Addr × Obj} (hp : p ∈ pinsAt fp h) : p.1 ∈ fp ∧ h.get? p.1 = some p.2 := by
  obtain ⟨b, hb, e⟩ := List.mem_filterMap.mp hp
  cases q : h.get? b with
  | none => rw [q] at e; cases e
  | some o =>
    rw [q] at e
    have e' : (b, o) = p := Option.some.inj e
    subst e'
    exact ⟨hb, q⟩
theorem Inv.pinned {pins : List (Addr × Obj)} {σ : St} {H : Hp} {s : Shared} {fp : List Addr} (I : Inv X pins σ H s) (hf : ∀ b ∈ fp, FpOk X pins H b) (ho : ∀ b ∈ fp, ∃ o, s.heap.get? b = some o ∧ ∀ v, o.data ≠ .cell v) : Inv X (pins ++ pinsAt fp s.heap) σ H s :=
  I.pins_of fun p hp => (List.mem_append.mp hp).elim (fun z => I.pin p (List.mem_append_right _ z)) fun z => by
    obtain ⟨hb, e⟩ := of_pinsAt z
    obtain ⟨f0, f1, f2, _⟩ := hf p.1 hb
    obtain ⟨o, e', d⟩ := ho p.1 hb
    rw [e] at e'; cases e'
    exact ⟨e, f0, f1, f2, d⟩
theorem Inv.unpinned {pins pl : List (Addr × Obj)} {σ : St} {H : Hp} {s : Shared} (I : Inv X (pins ++ pl) σ H s) : Inv X pins σ H s := I.pins_of fun p hp => I.pin p (List.mem_append_right _ (List.mem_append_left _ hp))
theorem ps_for {iter : Expr} {body : List Stmt} {wi : TI} {g : TG} {tb : TS} {pos : Pos} (hp : PassesOwn (model X.prog X.w) X.A X.env X.xe) (hc : X.calm = true) (hi : PI X tg iter wi) (hg : PG X tg g) (hb : PSs X body tb)
    (hs : ∀ x, foldedSetIterable iter X.env x = pure x := by intro _; rfl) : PS X (.For tg iter body [] pos) (tFor wi g tb) := by
  intro pins s σ H D I h
  refine wpAny_For (thn (hi pins s σ H _ I h) fun v s1 h1 => thn h1 fun itv s2 h2 => ?_) hs
  obtain ⟨it, fp, tn, J, H2, e, I2, T, st2, f2, W, ⟨m0, w0⟩, turn⟩ := h2
  subst e
  -- what stays true of the iterator's objects through the loop
  have stat : ∀ {H' : Hp}, (∀ b ∈ fp, H' b = none) → ∀ b ∈ fp, FpOk X pins H' b := fun hn b hb => ⟨hn b hb, (f2 b hb).2⟩
  refine codeAny_forLoop_any (fun n s' => ∃ i σ' H', Inv X pins σ' H' s' ∧ tn i s'.heap ∧ (∀ b ∈ fp, H' b = none) ∧ W i n σ' H') ?_ m0 ⟨0, σ, H2, I2, st2, fun b hb => (f2 b hb).1, w0⟩
  rintro n s3 ⟨i, σ3, H3, I3, st3, fr3, w3⟩
  rcases turn i n σ3 H3 w3 with ⟨stop, qn⟩ | ⟨go, N, hN, step⟩
  · refine wpAny_passesOwn hp (thn (T.done X rfl rfl rfl hc i pins s3 σ3 H3 X.xe I3 (stat fr3) st3 stop) fun r s4 ⟨hr, I4⟩ => ?_)
    subst hr
    exact wpAny_execs_nil ⟨σ3, H3, I4, qn⟩
  · refine wpAny_passesOwn hp (thn (T.item X rfl rfl rfl hc i pins s3 σ3 H3 X.xe I3 (stat fr3) st3 go) fun r s4 ⟨u, hr, h4⟩ => ?_)
    subst hr
    refine wpAny_passesOwn hp (thn h4 fun _ s5 ⟨x, H5, I5, r5, y5, st5, fr5⟩ => ?_)
    have I5' := I5.pinned (stat fr5) (T.obj _ _ st5)
    refine wpAny_passesOwn hp (thn (hg _ s5 σ3 H5 x u _ I5' r5 (step x H5 y5)) fun _ s6 ⟨σ6, H6, I6, q6⟩ => ?_)
    refine wpAny_passesOwn hp (thn (hb _ s6 σ6 H6 _ I6 q6) fun f s7 q7 => ?_)
    have again : ∀ {σ7 : St} {H7 : Hp}, Inv X (pins ++ pinsAt fp s5.heap) σ7 H7 s7 → N σ7 H7 → ∃ m, m < n ∧ ∃ i σ' H', Inv X pins σ' H' s7 ∧ tn i s7.heap ∧ (∀ b ∈ fp, H' b = none) ∧ W i m σ' H' := fun {σ7 H7} I7 n7 => by
      obtain ⟨m', hm, w7⟩ := hN σ7 H7 n7
      refine ⟨m', hm, i + 1, σ7, H7, I7.unpinned, T.keep _ _ _ st5 fun b hb o e => (I7.pin (b, o) (List.mem_append_right _ (List.mem_append_right _ (mem_pinsAt hb e)))).1, fun b hb => ?_, w7⟩
      obtain ⟨o, e, d⟩ := T.obj _ _ st5 b hb
      exact (I7.pin (b, o) (List.mem_append_right _ (List.mem_append_right _ (mem_pinsAt hb e)))).2.1
    cases f with
    | next => obtain ⟨σ7, H7, I7, n7⟩ := q7; exact again I7 n7
    | cont => obtain ⟨σ7, H7, I7, n7⟩ := q7; exact again I7 n7
    | brk => obtain ⟨σ7, H7, I7, q7⟩ := q7; exact ⟨σ7, H7, I7.unpinned, q7⟩
    | ret v => obtain ⟨x7, σ7, H7, I7, r7, q7⟩ := q7; exact ⟨x7, σ7, H7, I7.unpinned, r7, q7⟩
end

/-! ### the forms one uses -/
/-- over a list that the body leaves as it is -/
theorem for_list {K : PySem.W.Frag} {a : Addr} {xs : List V} {g : TG} {tb : TS} {D : Ends} {σ : St} {H : Hp} (Pv : Nat → St → Hp → Prop) (h0 : Pv 0 σ H) (hl : ∀ i σ H, i ≤ xs.length → Pv i σ H → SqL K H a xs)
    (hs : ∀ i x σ H, xs[i]? = some x → Pv i σ H → g x σ H fun σ2 H2 => tb { D with nx := Pv (i + 1), ct := Pv (i + 1), bk := D.nx } σ2 H2) (hd : ∀ σ H, Pv xs.length σ H → D.nx σ H) :
    ∃ W : Nat → Nat → St → Hp → Prop, (∃ m, W 0 m σ H) ∧ ∀ i m σ H, W i m σ H →
      ((Itl K a).stop i H ∧ D.nx σ H) ∨ ((Itl K a).go i H ∧ ∃ N : St → Hp → Prop, (∀ σ' H', N σ' H' → ∃ m', m' < m ∧ W (i + 1) m' σ' H') ∧ ∀ x H', (Itl K a).yld i H x H' → g x σ H' fun σ2 H2 => tb { D with nx := N, ct := N, bk := D.nx } σ2 H2) := by
  refine ⟨fun i m σ H => m = xs.length - i ∧ i ≤ xs.length ∧ Pv i σ H, ⟨xs.length, by simp, Nat.zero_le _, h0⟩, ?_⟩
  rintro i m σ H ⟨rfl, hi, p⟩
  have q := hl i σ H hi p
  by_cases hlt : i < xs.length
  · refine .inr ⟨⟨xs, xs[i], q, by simp [hlt]⟩, Pv (i + 1), fun σ' H' p' => ⟨xs.length - (i + 1), by omega, rfl, hlt, p'⟩, fun x H' y => ?_⟩
    obtain ⟨e, y⟩ := y
    subst e
    exact hs i x σ _ (y xs q) p
  · have e : i = xs.length := by omega
    subst e
    exact .inl ⟨⟨xs, q, Nat.le_refl _⟩, hd σ H p⟩
theorem for_tup {K : PySem.W.Frag} {a : Addr} {xs : List V} {g : TG} {tb : TS} {D : Ends} {σ : St} {H : Hp} (Pv : Nat → St → Hp → Prop) (h0 : Pv 0 σ H) (hl : ∀ i σ H, i ≤ xs.length → Pv i σ H → SqT K H a xs)
    (hs : ∀ i x σ H, xs[i]? = some x → Pv i σ H → g x σ H fun σ2 H2 => tb { D with nx := Pv (i + 1), ct := Pv (i + 1), bk := D.nx } σ2 H2) (hd : ∀ σ H, Pv xs.length σ H → D.nx σ H) :
    ∃ W : Nat → Nat → St → Hp → Prop, (∃ m, W 0 m σ H) ∧ ∀ i m σ H, W i m σ H →
      ((Itt K a).stop i H ∧ D.nx σ H) ∨ ((Itt K a).go i H ∧ ∃ N : St → Hp → Prop, (∀ σ' H', N σ' H' → ∃ m', m' < m ∧ W (i + 1) m' σ' H') ∧ ∀ x H', (Itt K a).yld i H x H' → g x σ H' fun σ2 H2 => tb { D with nx := N, ct := N, bk := D.nx } σ2 H2) := by
  refine ⟨fun i m σ H => m = xs.length - i ∧ i ≤ xs.length ∧ Pv i σ H, ⟨xs.length, by simp, Nat.zero_le _, h0⟩, ?_⟩
  rintro i m σ H ⟨rfl, hi, p⟩
  have q := hl i σ H hi p
  by_cases hlt : i < xs.length
  · refine .inr ⟨⟨xs, xs[i], q, by simp [hlt]⟩, Pv (i + 1), fun σ' H' p' => ⟨xs.length - (i + 1), by omega, rfl, hlt, p'⟩, fun x H' y => ?_⟩
    obtain ⟨e, y⟩ := y
    subst e
    exact hs i x σ _ (y xs q) p
  · have e : i = xs.length := by omega
    subst e
    exact .inl ⟨⟨xs, q, Nat.le_refl _⟩, hd σ H p⟩
theorem for_range {lo : Int} {n : Nat} {g : TG} {tb : TS} {D : Ends} {σ : St} {H : Hp} (Pv : Nat → St → Hp → Prop) (h0 : Pv 0 σ H)
    (hs : ∀ i σ H, i < n → Pv i σ H → g (.int (lo + i)) σ H fun σ2 H2 => tb { D with nx := Pv (i + 1), ct := Pv (i + 1), bk := D.nx } σ2 H2) (hd : ∀ σ H, Pv n σ H → D.nx σ H) :
    ∃ W : Nat → Nat → St → Hp → Prop, (∃ m, W 0 m σ H) ∧ ∀ i m σ H, W i m σ H →
      ((Itr lo n).stop i H ∧ D.nx σ H) ∨ ((Itr lo n).go i H ∧ ∃ N : St → Hp → Prop, (∀ σ' H', N σ' H' → ∃ m', m' < m ∧ W (i + 1) m' σ' H') ∧ ∀ x H', (Itr lo n).yld i H x H' → g x σ H' fun σ2 H2 => tb { D with nx := N, ct := N, bk := D.nx } σ2 H2) := by
  refine ⟨fun i m σ H => m = n - i ∧ i ≤ n ∧ Pv i σ H, ⟨n, by simp, Nat.zero_le _, h0⟩, ?_⟩
  rintro i m σ H ⟨rfl, hi, p⟩
  by_cases hlt : i < n
  · refine .inr ⟨hlt, Pv (i + 1), fun σ' H' p' => ⟨n - (i + 1), by omega, rfl, hlt, p'⟩, fun x H' y => ?_⟩
    obtain ⟨e, y⟩ := y
    subst e y
    exact hs i σ _ hlt p
  · have e : i = n := by omega
    subst e
    exact .inl ⟨Nat.le_refl _, hd σ H p⟩
/-- while, by a word and a measure of the state -/
theorem while_by {c : TT} {tb : TS} {D : Ends} {σ : St} {H : Hp} (Pv : St → Hp → Prop) (μ : St → Hp → Nat) (h0 : Pv σ H)
    (hs : ∀ σ H, Pv σ H → c σ H fun b H1 => if b = true then tb { D with nx := fun σ' H' => Pv σ' H' ∧ μ σ' H' < μ σ H, ct := fun σ' H' => Pv σ' H' ∧ μ σ' H' < μ σ H, bk := D.nx } σ H1 else D.nx σ H1)
    (mono : ∀ σ H Q Q', (∀ b H1, Q b H1 → Q' b H1) → c σ H Q → c σ H Q') : tWhile c tb D σ H := by
  refine ⟨fun m σ H => m = μ σ H ∧ Pv σ H, ⟨_, rfl, h0⟩, ?_⟩
  rintro m σ H ⟨rfl, p⟩
  refine mono σ H _ _ (fun b H1 q => ?_) (hs σ H p)
  cases b with
  | true => exact ⟨_, fun σ' H' ⟨p', l⟩ => ⟨_, l, rfl, p'⟩, q⟩
  | false => exact q
end L2

namespace L2
open PySem PySem.Spec PyProof.Rows

abbrev R2 := V → V → Hp → VK → Prop
/-- a two-place operation on values: f is binaryOp op, inplaceOp op or compareOp op -/
def OpR (X : Cx) (f : Value → Value → Sem Value) (r : R2) : Prop :=
  ∀ (pins : List (Addr × Obj)) (s : Shared) (σ : St) (H : Hp) (x y : V) (v u : Value) (Q : VK), Inv X pins σ H s → RelV x v → RelV y u → r x y H Q →
    wpAny (model X.prog X.w) X.A (f v u) (EP X pins σ Q) X.xe s
/-- a one-place operation -/
def UnR (X : Cx) (f : Value → Sem Value) (r : V → Hp → VK → Prop) : Prop :=
  ∀ (pins : List (Addr × Obj)) (s : Shared) (σ : St) (H : Hp) (x : V) (v : Value) (Q : VK), Inv X pins σ H s → RelV x v → r x H Q →
    wpAny (model X.prog X.w) X.A (f v) (EP X pins σ Q) X.xe s
/-- a call of a value that is known (a builtin, a type) with values -/
def CallR (X : Cx) (f : Value) (r : List V → Hp → VK → Prop) : Prop :=
  ∀ (pins : List (Addr × Obj)) (s : Shared) (σ : St) (H : Hp) (xs : List V) (us : List Value) (Q : VK), Inv X pins σ H s → Vals xs us → r xs H Q →
    wpAny (model X.prog X.w) X.A (call f us) (EP X pins σ Q) X.xe s
/-- a value's truth -/
def TruR (X : Cx) (r : V → Hp → (Bool → Hp → Prop) → Prop) : Prop :=
  ∀ (pins : List (Addr × Obj)) (s : Shared) (σ : St) (H : Hp) (x : V) (v : Value) (Q : Bool → Hp → Prop), Inv X pins σ H s → RelV x v → r x H Q →
    wpAny (model X.prog X.w) X.A (truthy v) (TP X pins σ Q) X.xe s

def tOp (r : R2) (ta tb : TE) : TE := fun σ H Q => ta σ H fun x H1 => tb σ H1 fun y H2 => r x y H2 Q
def tUn (r : V → Hp → VK → Prop) (ta : TE) : TE := fun σ H Q => ta σ H fun x H1 => r x H1 Q
/-- ints in, under C, and a value out -/
def rI (C : Int → Int → Prop) (g : Int → Int → V) : R2 := fun x y H Q => ∃ i j, x = .int i ∧ y = .int j ∧ C i j ∧ Q (g i j) H
def rI0 (g : Int → Int → V) : R2 := fun x y H Q => ∃ i j, x = .int i ∧ y = .int j ∧ Q (g i j) H
def rU (g : Int → V) : V → Hp → VK → Prop := fun x H Q => ∃ i, x = .int i ∧ Q (g i) H

section
variable {X : Cx} {a b c : Expr} {ta tb tc : TE} {pos : Pos}

theorem binT (ha : PE X a ta) (hb : PE X b tb) {pins : List (Addr × Obj)} {s : Shared} {σ : St} {H : Hp} {R : V → V → Hp → Prop} (I : Inv X pins σ H s)
    (h : ta σ H fun x H1 => tb σ H1 fun y H2 => R x y H2) {Q : Value → Shared → Prop} {f : Value → Value → Sem Value}
    (hf : ∀ v u s2 x y H2, Inv X pins σ H2 s2 → RelV x v → RelV y u → R x y H2 → wpAny (model X.prog X.w) X.A (f v u) Q X.xe s2) :
    wpAny (model X.prog X.w) X.A (eval a X.env) (fun v s₁ => wpAny (model X.prog X.w) X.A (eval b X.env) (fun u s₂ => wpAny (model X.prog X.w) X.A (f v u) Q X.xe s₂) X.xe s₁) X.xe s := by
  refine thn (ha pins s σ H _ I h) fun v s1 ⟨x, H1, I1, r1, q1⟩ => ?_
  refine thn (hb pins s1 σ H1 _ I1 q1) fun u s2 ⟨y, H2, I2, r2, q2⟩ => ?_
  exact hf v u s2 x y H2 I2 r1 r2 q2

theorem pe_op {op : Operator} {r : R2} (ho : OpR X (binaryOp op) r) (ha : PE X a ta) (hb : PE X b tb) : PE X (.BinOp a op b pos) (tOp r ta tb) := by
  intro pins s σ H Q I h
  exact wpAny_BinOp (binT ha hb I h fun v u s2 x y H2 I2 rx ry q => ho pins s2 σ H2 x y v u Q I2 rx ry q)
theorem pe_un {op : UnaryOp} {r : V → Hp → VK → Prop} (ho : UnR X (unaryOp op) r) (ha : PE X a ta) : PE X (.UnaryOp op a pos) (tUn r ta) := by
  intro pins s σ H Q I h
  exact UnaryOp_ (thn (ha pins s σ H _ I h) fun v s1 ⟨x, H1, I1, r1, q1⟩ => ho pins s1 σ H1 x v Q I1 r1 q1)
/-- a op= e at a name: the name's slot i -/
theorem augR {op : Operator} {r : R2} (ho : OpR X (inplaceOp op) r) {pins : List (Addr × Obj)} {s : Shared} {σ : St} {H : Hp} {x y : V} {v u : Value} {Q : VK} (I : Inv X pins σ H s)
    (rx : RelV x v) (ry : RelV y u) (q : r x y H Q) : wpAny (model X.prog X.w) X.A (inplaceOp op v u) (EP X pins σ Q) X.xe s := ho pins s σ H x y v u Q I rx ry q

/-! ### ints -/
theorem opI {f : Value → Value → Sem Value} {C : Int → Int → Prop} {g : Int → Int → Int}
    (rule : ∀ (i j : Int) (t u : Tok) (s : Shared) (Q : Value → Shared → Prop) (E : Value → Shared → Prop), C i j → Q (.int (g i j) s.toks) { s with toks := s.toks + 1 } → wpAny (model X.prog X.w) X.A (f (.int i t) (.int j u)) Q E s) :
    OpR X f (rI C fun i j => .int (g i j)) := by
  intro pins s σ H x y v u Q I rx ry h
  obtain ⟨i, j, rfl, rfl, hc, q⟩ := h
  obtain ⟨t, rfl⟩ := rx
  obtain ⟨t', rfl⟩ := ry
  exact rule i j t t' s _ _ hc ⟨.int (g i j), H, I.tok _, ⟨_, rfl⟩, q⟩
theorem opI0 {f : Value → Value → Sem Value} {g : Int → Int → Int}
    (rule : ∀ (i j : Int) (t u : Tok) (s : Shared) (Q : Value → Shared → Prop) (E : Value → Shared → Prop), Q (.int (g i j) s.toks) { s with toks := s.toks + 1 } → wpAny (model X.prog X.w) X.A (f (.int i t) (.int j u)) Q E s) :
    OpR X f (rI0 fun i j => .int (g i j)) := by
  intro pins s σ H x y v u Q I rx ry h
  obtain ⟨i, j, rfl, rfl, q⟩ := h
  obtain ⟨t, rfl⟩ := rx
  obtain ⟨t', rfl⟩ := ry
  exact rule i j t t' s _ _ ⟨.int (g i j), H, I.tok _, ⟨_, rfl⟩, q⟩
theorem opB0 {f : Value → Value → Sem Value} {g : Int → Int → Bool}
    (rule : ∀ (i j : Int) (t u : Tok) (s : Shared) (Q : Value → Shared → Prop) (E : Value → Shared → Prop), Q (.bool (g i j)) s → wpAny (model X.prog X.w) X.A (f (.int i t) (.int j u)) Q E s) :
    OpR X f (rI0 fun i j => .bl (g i j)) := by
  intro pins s σ H x y v u Q I rx ry h
  obtain ⟨i, j, rfl, rfl, q⟩ := h
  obtain ⟨t, rfl⟩ := rx
  obtain ⟨t', rfl⟩ := ry
  exact rule i j t t' s _ _ ⟨.bl (g i j), H, I, rfl, q⟩

def CDiv (i j : Int) : Prop := 0 < j ∧ j < 1073741824
def CDivN (i j : Int) : Prop := j ≠ 0 ∧ j.natAbs < 1073741824
def CPow (i j : Int) : Prop := 0 ≤ j ∧ j ≤ 1000000 ∧ i.natAbs < 2 ^ 64
def CMul (i j : Int) : Prop := (-(2 ^ 64) < i ∧ i < 2 ^ 64) ∨ (-(2 ^ 64) < j ∧ j < 2 ^ 64)
theorem CMul.ok {i j : Int} (h : CMul i j) : IntMulOk i j := by
  rcases h with ⟨h1, h2⟩ | ⟨h1, h2⟩
  · exact .of_left (intBits_le_64 h1 h2)
  · exact .of_right (intBits_le_64 h1 h2)
theorem two_pow_nn (k : Nat) : (0 : Int) ≤ 2 ^ k := by
  rw [two_pow_cast]
  exact Int.natCast_nonneg _

theorem op_add : OpR X (binaryOp .Add) (rI0 fun i j => .int (i + j)) := opI0 fun _ _ _ _ _ _ _ q => add_int q
theorem op_sub : OpR X (binaryOp .Sub) (rI0 fun i j => .int (i - j)) := opI0 fun _ _ _ _ _ _ _ q => sub_int q
theorem op_mul : OpR X (binaryOp .Mult) (rI CMul fun i j => .int (i * j)) := opI fun _ _ _ _ _ _ _ hc q => mul_int q hc.ok
/-- // by a positive divisor -/
theorem op_fdiv : OpR X (binaryOp .FloorDiv) (rI CDiv fun i j => .int (i / j)) := opI fun i j _ _ _ _ _ hc q => by
  have h1 : (0 : Int) < j := hc.1
  have h2 : j < 1073741824 := hc.2
  exact floordiv_int (by omega) (by rw [Int.fdiv_eq_ediv_of_nonneg i (by omega)]; exact q) (.inl (PyProof.noPylong_small (by omega)))
theorem op_fdivN : OpR X (binaryOp .FloorDiv) (rI CDivN fun i j => .int (i.fdiv j)) := opI fun _ _ _ _ _ _ _ hc q => floordiv_int hc.1 q (.inl (PyProof.noPylong_small hc.2))
/-- % by a positive divisor of any size -/
theorem op_mod : OpR X (binaryOp .Mod) (rI (fun _ j => 0 < j) fun i j => .int (i % j)) := opI fun i j _ _ _ _ _ hc q => by
  have h1 : (0 : Int) < j := hc
  exact mod_int' (by omega) (by rw [Int.fmod_eq_emod_of_nonneg i (by omega)]; exact q)
theorem op_modN : OpR X (binaryOp .Mod) (rI (fun _ j => j ≠ 0) fun i j => .int (i.fmod j)) := opI fun _ _ _ _ _ _ _ hc q => mod_int' hc q
theorem op_pow : OpR X (binaryOp .Pow) (rI CPow fun i j => .int (i ^ j.toNat)) := opI fun _ _ _ _ _ _ _ hc q => pow_int_small hc.1 hc.2.1 hc.2.2 q
theorem op_shl : OpR X (binaryOp .LShift) (rI CPow fun i j => .int (i * 2 ^ j.toNat)) := opI fun _ _ _ _ _ _ _ hc q => lshift_int_small hc.1 hc.2.1 hc.2.2 q
theorem op_shr : OpR X (binaryOp .RShift) (rI (fun _ j => 0 ≤ j) fun i j => .int (i / 2 ^ j.toNat)) := opI fun i j _ _ _ _ _ hc q =>
  rshift_int hc (by rw [Int.fdiv_eq_ediv_of_nonneg i (two_pow_nn _)]; exact q)
theorem op_and : OpR X (binaryOp .BitAnd) (rI0 fun i j => .int (Builtin.bitAnd i j)) := opI0 fun _ _ _ _ _ _ _ q => and_int q
theorem op_or : OpR X (binaryOp .BitOr) (rI0 fun i j => .int (Builtin.bitOr i j)) := opI0 fun _ _ _ _ _ _ _ q => or_int q
theorem op_xor : OpR X (binaryOp .BitXor) (rI0 fun i j => .int (Builtin.bitXor i j)) := opI0 fun _ _ _ _ _ _ _ q => xor_int q

theorem iop_add : OpR X (inplaceOp .Add) (rI0 fun i j => .int (i + j)) := opI0 fun _ _ _ _ _ _ _ q => iadd_int q
theorem iop_sub : OpR X (inplaceOp .Sub) (rI0 fun i j => .int (i - j)) := opI0 fun _ _ _ _ _ _ _ q => isub_int q
theorem iop_mul : OpR X (inplaceOp .Mult) (rI CMul fun i j => .int (i * j)) := opI fun _ _ _ _ _ _ _ hc q => imul_int q hc.ok
theorem iop_fdiv : OpR X (inplaceOp .FloorDiv) (rI CDiv fun i j => .int (i / j)) := opI fun i j _ _ _ _ _ hc q => by
  have h1 : (0 : Int) < j := hc.1
  have h2 : j < 1073741824 := hc.2
  exact ifloordiv_int (by omega) (by rw [Int.fdiv_eq_ediv_of_nonneg i (by omega)]; exact q) (.inl (PyProof.noPylong_small (by omega)))
theorem iop_mod : OpR X (inplaceOp .Mod) (rI (fun _ j => 0 < j) fun i j => .int (i % j)) := opI fun i j _ _ _ _ _ hc q => by
  have h1 : (0 : Int) < j := hc
  exact imod_int (by omega) (by rw [Int.fmod_eq_emod_of_nonneg i (by omega)]; exact q)
theorem iop_shl : OpR X (inplaceOp .LShift) (rI CPow fun i j => .int (i * 2 ^ j.toNat)) := opI fun _ _ _ _ _ _ _ hc q => ilshift_int_small hc.1 hc.2.1 hc.2.2 q
theorem iop_shr : OpR X (inplaceOp .RShift) (rI (fun _ j => 0 ≤ j) fun i j => .int (i / 2 ^ j.toNat)) := opI fun i j _ _ _ _ _ hc q =>
  irshift_int hc (by rw [Int.fdiv_eq_ediv_of_nonneg i (two_pow_nn _)]; exact q)
theorem iop_and : OpR X (inplaceOp .BitAnd) (rI0 fun i j => .int (Builtin.bitAnd i j)) := opI0 fun _ _ _ _ _ _ _ q => iand_int q
theorem iop_or : OpR X (inplaceOp .BitOr) (rI0 fun i j => .int (Builtin.bitOr i j)) := opI0 fun _ _ _ _ _ _ _ q => ior_int q
theorem iop_xor : OpR X (inplaceOp .BitXor) (rI0 fun i j => .int (Builtin.bitXor i j)) := opI0 fun _ _ _ _ _ _ _ q => ixor_int q

theorem unI {f : Value → Sem Value} {g : Int → Int}
    (rule : ∀ (i : Int) (t : Tok) (s : Shared) (Q : Value → Shared → Prop) (E : Value → Shared → Prop), Q (.int (g i) s.toks) { s with toks := s.toks + 1 } → wpAny (model X.prog X.w) X.A (f (.int i t)) Q E s) :
    UnR X f (rU fun i => .int (g i)) := by
  intro pins s σ H x v Q I rx h
  obtain ⟨i, rfl, q⟩ := h
  obtain ⟨t, rfl⟩ := rx
  exact rule i t s _ _ ⟨.int (g i), H, I.tok _, ⟨_, rfl⟩, q⟩
theorem un_neg : UnR X (unaryOp .USub) (rU fun i => .int (-i)) := unI fun _ _ _ _ _ q => neg_int q
theorem un_inv : UnR X (unaryOp .Invert) (rU fun i => .int (Builtin.bitNot i)) := unI fun _ _ _ _ _ q => invert_int q

/-! ### bools among ints: n += (a < b) -/
theorem op_add_ib : OpR X (binaryOp .Add) (fun x y H Q => ∃ i k, x = .int i ∧ y = .bl k ∧ Q (.int (i + b2i k)) H) := by
  intro pins s σ H x y v u Q I rx ry h
  obtain ⟨i, k, rfl, rfl, q⟩ := h
  obtain ⟨t, rfl⟩ := rx
  cases ry
  exact add_int_bool ⟨.int (i + b2i k), H, I.tok _, ⟨_, rfl⟩, q⟩
end

/-! ### comparisons -/
/-- the scalars that == tells apart as data does -/
def scal : V → V → Bool
  | .non, .non => true | .non, .int _ => true | .int _, .non => true | .non, .bl _ => true | .bl _, .non => true | .non, .str _ => true | .str _, .non => true
  | .int _, .int _ => true | .bl _, .bl _ => true | .str _, .str _ => true | .byt _, .byt _ => true
  | .int _, .str _ => true | .str _, .int _ => true | .bl _, .str _ => true | .str _, .bl _ => true
  | _, _ => false
def rEq : R2 := fun x y H Q => scal x y = true ∧ Q (.bl (decide (x = y))) H
def rNe : R2 := fun x y H Q => scal x y = true ∧ Q (.bl (!decide (x = y))) H

theorem dec_int {i j : Int} : decide (V.int i = V.int j) = (i == j) := by
  rw [Bool.eq_iff_iff]
  simp
theorem dec_bl {i j : Bool} : decide (V.bl i = V.bl j) = (i == j) := by
  rw [Bool.eq_iff_iff]
  simp
theorem dec_str {i j : Str} : decide (V.str i = V.str j) = (i == j) := by
  rw [Bool.eq_iff_iff]
  simp
theorem dec_byt {i j : Array UInt8} : decide (V.byt i = V.byt j) = (i.toList == j.toList) := by
  rw [Bool.eq_iff_iff]
  cases i
  cases j
  simp

section
variable {X : Cx} {a b c : Expr} {ta tb tc : TE} {pos : Pos}
theorem fin_bl {pins : List (Addr × Obj)} {σ : St} {H : Hp} {s : Shared} {Q : VK} {k k' : Bool} (I : Inv X pins σ H s) (q : Q (.bl k) H) (e : k = k') : EP X pins σ Q (.bool k') s := by
  subst e
  exact ⟨.bl k, H, I, rfl, q⟩
theorem op_eq : OpR X (compareOp .Eq) rEq := by
  intro pins s σ H x y v u Q I rx ry h
  obtain ⟨hs, q⟩ := h
  cases x with
  | non =>
    cases rx
    cases y with
    | non => cases ry; exact PySem.EqNone.eq_none_none (fin_bl I q (by simp))
    | bl j => cases ry; exact PySem.EqNone.eq_none_bool (fin_bl I q (by simp))
    | int j => obtain ⟨t', rfl⟩ := ry; exact PySem.EqNone.eq_none_int (fin_bl I q (by simp))
    | str j => obtain ⟨t', rfl⟩ := ry; exact PySem.EqNone.eq_none_str (fin_bl I q (by simp))
    | _ => exact absurd (show false = true from hs) Bool.false_ne_true
  | bl i =>
    cases rx
    cases y with
    | non => cases ry; exact PySem.EqNone.eq_bool_none (fin_bl I q (by simp))
    | bl j => cases ry; exact eq_bool (fin_bl I q dec_bl)
    | str j => obtain ⟨t', rfl⟩ := ry; exact PySem.EqMixed.eq_bool_str (fin_bl I q (by simp))
    | _ => exact absurd (show false = true from hs) Bool.false_ne_true
  | int i =>
    obtain ⟨t, rfl⟩ := rx
    cases y with
    | non => cases ry; exact PySem.EqNone.eq_int_none (fin_bl I q (by simp))
    | int j => obtain ⟨t', rfl⟩ := ry; exact eq_int (fin_bl I q dec_int)
    | str j => obtain ⟨t', rfl⟩ := ry; exact PySem.EqMixed.eq_int_str (fin_bl I q (by simp))
    | _ => exact absurd (show false = true from hs) Bool.false_ne_true
  | str i =>
    obtain ⟨t, rfl⟩ := rx
    cases y with
    | non => cases ry; exact PySem.EqNone.eq_str_none (fin_bl I q (by simp))
    | bl j => cases ry; exact PySem.EqMixed.eq_str_bool (fin_bl I q (by simp))
    | int j => obtain ⟨t', rfl⟩ := ry; exact PySem.EqMixed.eq_str_int (fin_bl I q (by simp))
    | str j => obtain ⟨t', rfl⟩ := ry; exact eq_str (fin_bl I q dec_str)
    | _ => exact absurd (show false = true from hs) Bool.false_ne_true
  | byt i =>
    obtain ⟨t, rfl⟩ := rx
    cases y with
    | byt j => obtain ⟨t', rfl⟩ := ry; exact PySem.W.eq_bytes (fin_bl I q dec_byt)
    | _ => exact absurd (show false = true from hs) Bool.false_ne_true
  | _ => cases y <;> exact absurd (show false = true from hs) Bool.false_ne_true
theorem op_ne : OpR X (compareOp .NotEq) rNe := by
  intro pins s σ H x y v u Q I rx ry h
  obtain ⟨hs, q⟩ := h
  cases x with
  | non =>
    cases rx
    cases y with
    | non => cases ry; exact PySem.EqNone.ne_none_none (fin_bl I q (by simp))
    | bl j => cases ry; exact PySem.EqNone.ne_none_bool (fin_bl I q (by simp))
    | int j => obtain ⟨t', rfl⟩ := ry; exact PySem.EqNone.ne_none_int (fin_bl I q (by simp))
    | str j => obtain ⟨t', rfl⟩ := ry; exact PySem.EqNone.ne_none_str (fin_bl I q (by simp))
    | _ => exact absurd (show false = true from hs) Bool.false_ne_true
  | bl i =>
    cases rx
    cases y with
    | non => cases ry; exact PySem.EqNone.ne_bool_none (fin_bl I q (by simp))
    | bl j => cases ry; exact ne_bool (fin_bl I q (congrArg not dec_bl))
    | str j => obtain ⟨t', rfl⟩ := ry; exact PySem.EqMixed.ne_bool_str (fin_bl I q (by simp))
    | _ => exact absurd (show false = true from hs) Bool.false_ne_true
  | int i =>
    obtain ⟨t, rfl⟩ := rx
    cases y with
    | non => cases ry; exact PySem.EqNone.ne_int_none (fin_bl I q (by simp))
    | int j => obtain ⟨t', rfl⟩ := ry; exact ne_int (fin_bl I q (congrArg not dec_int))
    | str j => obtain ⟨t', rfl⟩ := ry; exact PySem.EqMixed.ne_int_str (fin_bl I q (by simp))
    | _ => exact absurd (show false = true from hs) Bool.false_ne_true
  | str i =>
    obtain ⟨t, rfl⟩ := rx
    cases y with
    | non => cases ry; exact PySem.EqNone.ne_str_none (fin_bl I q (by simp))
    | bl j => cases ry; exact PySem.EqMixed.ne_str_bool (fin_bl I q (by simp))
    | int j => obtain ⟨t', rfl⟩ := ry; exact PySem.EqMixed.ne_str_int (fin_bl I q (by simp))
    | str j => obtain ⟨t', rfl⟩ := ry; exact ne_str (fin_bl I q (congrArg not dec_str))
    | _ => exact absurd (show false = true from hs) Bool.false_ne_true
  | byt i =>
    obtain ⟨t, rfl⟩ := rx
    cases y with
    | byt j => obtain ⟨t', rfl⟩ := ry; exact PySem.W.ne_bytes (fin_bl I q (congrArg not dec_byt))
    | _ => exact absurd (show false = true from hs) Bool.false_ne_true
  | _ => cases y <;> exact absurd (show false = true from hs) Bool.false_ne_true

theorem op_lt : OpR X (compareOp .Lt) (rI0 fun i j => .bl (decide (i < j))) := opB0 fun _ _ _ _ _ _ _ q => lt_int q
theorem op_le : OpR X (compareOp .LtE) (rI0 fun i j => .bl (decide (i ≤ j))) := opB0 fun _ _ _ _ _ _ _ q => le_int q
theorem op_gt : OpR X (compareOp .Gt) (rI0 fun i j => .bl (decide (j < i))) := opB0 fun _ _ _ _ _ _ _ q => gt_int q
theorem op_ge : OpR X (compareOp .GtE) (rI0 fun i j => .bl (decide (j ≤ i))) := opB0 fun _ _ _ _ _ _ _ q => ge_int q
theorem op_lt_str : OpR X (compareOp .Lt) (fun x y H Q => ∃ i j, x = .str i ∧ y = .str j ∧ Q (.bl (decide (i.cps.toList < j.cps.toList))) H) := by
  intro pins s σ H x y v u Q I rx ry h
  obtain ⟨i, j, rfl, rfl, q⟩ := h
  obtain ⟨t, rfl⟩ := rx
  obtain ⟨t', rfl⟩ := ry
  exact lt_str (fin_bl I q rfl)
/-- the one string within the other -/
theorem op_in_str : OpR X (compareOp .In) (fun x y H Q => ∃ i j, x = .str i ∧ y = .str j ∧ Q (.bl (!(Builtin.Str.occurrences j i 0 j.length 1).isEmpty)) H) := by
  intro pins s σ H x y v u Q I rx ry h
  obtain ⟨i, j, rfl, rfl, q⟩ := h
  obtain ⟨t, rfl⟩ := rx
  obtain ⟨t', rfl⟩ := ry
  exact in_str (fin_bl I q rfl)

/-- is None, is not None: the right side a value none -/
theorem op_isN : OpR X (compareOp .Is) (fun x y H Q => y = .non ∧ Q (.bl (decide (x = .non))) H) := by
  intro pins s σ H x y v u Q I rx ry h
  obtain ⟨rfl, q⟩ := h
  cases ry
  refine is_none_gen (fin_bl I q ?_)
  cases x <;> first
    | (cases rx; rfl)
    | (obtain ⟨t, rfl⟩ := rx; rfl)
theorem op_notN : OpR X (compareOp .IsNot) (fun x y H Q => y = .non ∧ Q (.bl (!decide (x = .non))) H) := by
  intro pins s σ H x y v u Q I rx ry h
  obtain ⟨rfl, q⟩ := h
  cases ry
  refine isnot_none_gen (fin_bl I q ?_)
  cases x <;> first
    | (cases rx; rfl)
    | (obtain ⟨t, rfl⟩ := rx; rfl)

theorem op_notin_str : OpR X (compareOp .NotIn) (fun x y H Q => ∃ i j, x = .str i ∧ y = .str j ∧ Q (.bl (!(!(Builtin.Str.occurrences j i 0 j.length 1).isEmpty))) H) := by
  intro pins s σ H x y v u Q I rx ry h
  obtain ⟨i, j, rfl, rfl, q⟩ := h
  obtain ⟨t, rfl⟩ := rx
  obtain ⟨t', rfl⟩ := ry
  exact notIn_str (fin_bl I q rfl)
/-- is, is not of two objects that are tracked lists or instances -/
def isObj : HO → Bool
  | .lst _ => true
  | .ins _ _ _ => true
  | _ => false
theorem obj_there {pins : List (Addr × Obj)} {s : Shared} {σ : St} {H : Hp} {a : Addr} {o : HO} (I : Inv X pins σ H s) (h : H a = some o) (p : isObj o = true) : ∃ ob, s.heap.get? a = some ob ∧ ob.cls ≠ .type "tuple" := by
  cases o with
  | lst xs =>
    obtain ⟨_, its, n, _, e⟩ : xs.length ≤ sizeLine ∧ ∃ (its : List Value) (n : Nat), Vals xs its ∧ s.heap.get? a = some { cls := .type "list", data := .seq its.toArray n } := I.hok a _ h
    exact ⟨_, e, (by show Value.type "list" ≠ .type "tuple"; decide +kernel)⟩
  | ins C dx fs =>
    have x := I.hok a _ h
    obtain ⟨_, _, _, e, _⟩ := x
    exact ⟨_, e, (by show Value.ref C ≠ .type "tuple"; exact fun z => by cases z)⟩
  | _ => exact absurd (show false = true from p) Bool.false_ne_true
theorem op_is_ref : OpR X (compareOp .Is) (fun x y H Q => ∃ a b oa ob, x = .ref a ∧ y = .ref b ∧ H a = some oa ∧ isObj oa = true ∧ H b = some ob ∧ isObj ob = true ∧ Q (.bl (decide (a = b))) H) := by
  intro pins s σ H x y v u Q I rx ry h
  obtain ⟨a, b, oa, ob, rfl, rfl, ha, pa, hb, pb, q⟩ := h
  cases rx
  cases ry
  obtain ⟨o1, e1, n1⟩ := obj_there I ha pa
  obtain ⟨o2, e2, _⟩ := obj_there I hb pb
  by_cases z : a = b
  · subst z
    exact wpAny_is_ref_self (fin_bl I q (by simp))
  · exact wpAny_is_ref_other z e1 e2 n1 (fin_bl I q (by simp [z]))
theorem op_isnot_ref : OpR X (compareOp .IsNot) (fun x y H Q => ∃ a b oa ob, x = .ref a ∧ y = .ref b ∧ H a = some oa ∧ isObj oa = true ∧ H b = some ob ∧ isObj ob = true ∧ Q (.bl (!decide (a = b))) H) := by
  intro pins s σ H x y v u Q I rx ry h
  obtain ⟨a, b, oa, ob, rfl, rfl, ha, pa, hb, pb, q⟩ := h
  cases rx
  cases ry
  obtain ⟨o1, e1, n1⟩ := obj_there I ha pa
  obtain ⟨o2, e2, _⟩ := obj_there I hb pb
  by_cases z : a = b
  · subst z
    exact wpAny_isNot_ref_self (fin_bl I q (by simp))
  · exact wpAny_isNot_ref_other z e1 e2 n1 (fin_bl I q (by simp [z]))

/-- two rules for one operation: by cases -/
theorem OpR.or {f : Value → Value → Sem Value} {r r' : R2} (h : OpR X f r) (h' : OpR X f r') : OpR X f (fun x y H Q => r x y H Q ∨ r' x y H Q) := by
  intro pins s σ H x y v u Q I rx ry q
  rcases q with q | q
  · exact h pins s σ H x y v u Q I rx ry q
  · exact h' pins s σ H x y v u Q I rx ry q

theorem nomark (b : Expr) {op : CmpOp} (h : op ≠ .In := by decide) (h2 : op ≠ .NotIn := by decide) : behindInMarks op b = false := by
  have e1 : (op == CmpOp.In) = false := by cases op <;> first | rfl | exact absurd rfl h
  have e2 : (op == CmpOp.NotIn) = false := by cases op <;> first | rfl | exact absurd rfl h2
  cases b <;> simp [behindInMarks, e1, e2]
/-- a comparison as a value; hm: nomark b, or (for in, not in) by with_unfolding_all rfl -/
theorem pe_cmpR {op : CmpOp} {r : R2} (ho : OpR X (compareOp op) r) (ha : PE X a ta) (hb : PE X b tb) (hm : behindInMarks op b = false) : PE X (.Compare a [op] [b] pos) (tOp r ta tb) := by
  intro pins s σ H Q I h
  exact wpAny_Compare1 (binT ha hb I h fun v u s2 x y H2 I2 rx ry q => ho pins s2 σ H2 x y v u Q I2 rx ry q) hm
/-- a reading of a value as a test -/
def tTest (t : TE) : TT := fun σ H Q => t σ H fun x H' => ∃ k, x = .bl k ∧ Q k H'
theorem pt_cmpR {op : CmpOp} {r : R2} (ho : OpR X (compareOp op) r) (ha : PE X a ta) (hb : PE X b tb) (hm : behindInMarks op b = false) : PT X (.Compare a [op] [b] pos) (tTest (tOp r ta tb)) := by
  intro pins s σ H Q I h
  refine wpAny_isTrue_Compare1 (thn (ha pins s σ H _ I h) fun v s1 ⟨x, H1, I1, r1, q1⟩ => thn (hb pins s1 σ H1 _ I1 q1) fun u s2 ⟨y, H2, I2, r2, q2⟩ =>
    thn (ho pins s2 σ H2 x y v u _ I2 r1 r2 q2) fun c s3 ⟨z, H3, I3, r3, k, e, q3⟩ => ?_) hm
  subst e
  cases r3
  exact wpAny_truthy_bool ⟨H3, I3, q3⟩
/-- a op1 b op2 c -/
def tChain (r r' : R2) (ta tb tc : TE) : TE := fun σ H Q => ta σ H fun x H1 => tb σ H1 fun y H2 => r x y H2 fun z H3 => ∃ k, z = .bl k ∧
  (if k = true then tc σ H3 fun w' H4 => r' y w' H4 Q else Q (.bl false) H3)
theorem pe_chain {op op' : CmpOp} {r r' : R2} (ho : OpR X (compareOp op) r) (ho' : OpR X (compareOp op') r') (ha : PE X a ta) (hb : PE X b tb) (hc : PE X c tc)
    (hm : lastMarks [op, op'] [b, c] = false := by with_unfolding_all rfl) : PE X (.Compare a [op, op'] [b, c] pos) (tChain r r' ta tb tc) := by
  intro pins s σ H Q I h
  refine Compare_chain (thn (ha pins s σ H _ I h) fun v s1 ⟨x, H1, I1, r1, q1⟩ => chain_link (thn (hb pins s1 σ H1 _ I1 q1) fun u s2 ⟨y, H2, I2, r2, q2⟩ =>
    thn (ho pins s2 σ H2 x y v u _ I2 r1 r2 q2) fun d s3 ⟨z, H3, I3, r3, k, e, q3⟩ => ?_)) hm
  subst e
  cases r3
  refine wpAny_truthy_bool ?_
  cases k with
  | false => exact ite_ff ⟨.bl false, H3, I3, rfl, q3⟩
  | true => exact ite_tt (chain_last (thn (hc pins s3 σ H3 _ I3 q3) fun w' s4 ⟨z', H4, I4, r4, q4⟩ => ho' pins s4 σ H4 y z' u w' Q I4 r2 r4 q4))
theorem pt_chain {op op' : CmpOp} {r r' : R2} (ho : OpR X (compareOp op) r) (ho' : OpR X (compareOp op') r') (ha : PE X a ta) (hb : PE X b tb) (hc : PE X c tc)
    (hm : lastMarks [op, op'] [b, c] = false := by with_unfolding_all rfl) : PT X (.Compare a [op, op'] [b, c] pos) (tTest (tChain r r' ta tb tc)) := by
  intro pins s σ H Q I h
  refine isTrue_chain (thn (ha pins s σ H _ I h) fun v s1 ⟨x, H1, I1, r1, q1⟩ => test_link (thn (hb pins s1 σ H1 _ I1 q1) fun u s2 ⟨y, H2, I2, r2, q2⟩ =>
    thn (ho pins s2 σ H2 x y v u _ I2 r1 r2 q2) fun d s3 ⟨z, H3, I3, r3, k, e, q3⟩ => ?_)) hm
  subst e
  cases r3
  refine wpAny_truthy_bool ?_
  cases k with
  | false =>
    obtain ⟨k', e', q'⟩ := q3
    cases e'
    exact ite_ff ⟨H3, I3, q'⟩
  | true =>
    refine ite_tt (test_last (thn (hc pins s3 σ H3 _ I3 q3) fun w' s4 ⟨z', H4, I4, r4, q4⟩ => thn (ho' pins s4 σ H4 y z' u w' _ I4 r2 r4 q4) fun d' s5 ⟨z2, H5, I5, r5, k2, e2, q5⟩ => ?_))
    subst e2
    cases r5
    exact wpAny_truthy_bool ⟨H5, I5, q5⟩

/-! ### truth -/
/-- a value's truth by the abstract heap -/
def TruV (K : PySem.W.Frag) (x : V) (H : Hp) (k : Bool) : Prop :=
  match x with
  | .non => k = false
  | .bl b => k = b
  | .int i => k = (i != 0)
  | .str y => y.length ≤ sizeLine ∧ k = ((y.length : Int) != 0)
  | .byt y => y.size ≤ sizeLine ∧ k = ((y.size : Int) != 0)
  | .ref p => (∃ xs, SqL K H p xs ∧ k = !xs.isEmpty) ∨ (∃ xs, SqT K H p xs ∧ k = !xs.isEmpty) ∨ ∃ kvs, H p = some (.dK kvs) ∧ k = !kvs.isEmpty
  | _ => False
theorem isEmpty_kv {κ : Type} {kvs : List (κ × V)} {vs : List (κ × Value)} (r : KV kvs vs) : (!vs.isEmpty) = !kvs.isEmpty := by
  cases r <;> rfl
theorem isEmpty_of {xs : List V} {its : List Value} (r : Vals xs its) : (!its.toArray.isEmpty) = !xs.isEmpty := by
  cases r <;> simp
theorem line63 : (sizeLine : Nat) < 2 ^ 63 := by rw [sizeLine_eq]; decide
theorem tru_ok : TruR X (fun x H Q => ∃ k, TruV X.K x H k ∧ Q k H) := by
  intro pins s σ H x v Q I rx h
  obtain ⟨k, e, q⟩ := h
  have hl := line63
  have hs : sizeLine = 16777216 := sizeLine_eq
  cases x with
  | non =>
    cases rx
    have e' : k = false := e
    subst e'
    exact truthy_none ⟨H, I, q⟩
  | bl b =>
    cases rx
    have e' : k = b := e
    subst e'
    exact wpAny_truthy_bool ⟨H, I, q⟩
  | int i =>
    obtain ⟨t, rfl⟩ := rx
    have e' : k = (i != 0) := e
    subst e'
    exact PySem.P.truthy_int ⟨H, I, q⟩
  | str y =>
    obtain ⟨t, rfl⟩ := rx
    obtain ⟨hy, e'⟩ : y.length ≤ sizeLine ∧ k = ((y.length : Int) != 0) := e
    subst e'
    exact PySem.P.truthy_str (by omega) ⟨H, I.tok _, q⟩
  | byt y =>
    obtain ⟨t, rfl⟩ := rx
    obtain ⟨hy, e'⟩ : y.size ≤ sizeLine ∧ k = ((y.size : Int) != 0) := e
    subst e'
    exact PySem.W.truthy_bytes (by omega) ⟨H, I.tok _, q⟩
  | ref p =>
    cases rx
    have e' : (∃ xs, SqL X.K H p xs ∧ k = !xs.isEmpty) ∨ (∃ xs, SqT X.K H p xs ∧ k = !xs.isEmpty) ∨ ∃ kvs, H p = some (.dK kvs) ∧ k = !kvs.isEmpty := e
    rcases e' with ⟨xs, hx, e'⟩ | ⟨xs, hx, e'⟩ | ⟨kvs, hx, e'⟩
    · subst e'
      obtain ⟨its, r, pl, hz⟩ := I.list hx
      have hlen := r.length
      exact wpAny_truthy_list pl.isList (by simp only [List.size_toArray]; omega) ⟨H, I.tok _, by rw [isEmpty_of r]; exact q⟩
    · subst e'
      obtain ⟨its, r, pl, hz⟩ := I.tuple hx
      have hlen := r.length
      exact truthy_tuple pl (by simp only [List.size_toArray]; omega) ⟨H, I.tok _, by rw [isEmpty_of r]; exact q⟩
    · subst e'
      obtain ⟨hz, hS, vs, r, m⟩ : kvs.length ≤ sizeLine ∧ (p == sysModules) = false ∧ ∃ vs, KV kvs vs ∧ s.heap.DictOf (mixKind X.prog X.w) p vs := I.hok p _ hx
      have hlen : kvs.length = vs.length := Paired.length r
      exact wpAny_truthy_dict hS m (by omega) ⟨H, I.tok _, by rw [isEmpty_kv r]; exact q⟩
  | _ => exact (show False from e).elim
/-- any expression whose test is its value's truth (a name, a call, a subscript, a field ..: he by fun _ => rfl) -/
theorem pt_truth (ha : PE X a ta) (he : ∀ whole, isTrue a X.env whole = (do let v ← whole; standAt a.pos; holding [v] (truthy v))) :
    PT X a (fun σ H Q => ta σ H fun x H' => ∃ k, TruV X.K x H' k ∧ Q k H') := by
  intro pins s σ H Q I h
  exact isTrue_plain (thn (ha pins s σ H _ I h) fun v s1 ⟨x, H1, I1, r1, q1⟩ => tru_ok pins s1 σ H1 x v Q I1 r1 q1) (he _)

/-! ### strs and bytes -/
theorem pe_byt {x : List UInt8} {k : Nat} : PE X (.Constant (.bytes x) k pos) (fun _ H Q => Q (.byt x.toArray) H) := fun _ _ _ H _ I h => PySem.W.Constant_bytes ⟨.byt x.toArray, H, I.tok _, ⟨_, rfl⟩, h⟩
theorem op_add_str : OpR X (binaryOp .Add) (fun x y H Q => ∃ i j, x = .str i ∧ y = .str j ∧ i.length + j.length ≤ sizeLine ∧ Q (.str (i ++ j)) H) := by
  intro pins s σ H x y v u Q I rx ry h
  obtain ⟨i, j, rfl, rfl, hz, q⟩ := h
  obtain ⟨t, rfl⟩ := rx
  obtain ⟨t', rfl⟩ := ry
  exact add_str (fun t' tk => ⟨.str (i ++ j), H, I.tok _, ⟨_, rfl⟩, q⟩) hz
theorem iop_add_str : OpR X (inplaceOp .Add) (fun x y H Q => ∃ i j, x = .str i ∧ y = .str j ∧ i.length + j.length ≤ sizeLine ∧ Q (.str (i ++ j)) H) := by
  intro pins s σ H x y v u Q I rx ry h
  obtain ⟨i, j, rfl, rfl, hz, q⟩ := h
  obtain ⟨t, rfl⟩ := rx
  obtain ⟨t', rfl⟩ := ry
  exact iadd_str (fun t' tk => ⟨.str (i ++ j), H, I.tok _, ⟨_, rfl⟩, q⟩) hz
theorem op_add_byt : OpR X (binaryOp .Add) (fun x y H Q => ∃ i j, x = .byt i ∧ y = .byt j ∧ i.size + j.size ≤ 16777216 ∧ Q (.byt (i ++ j)) H) := by
  intro pins s σ H x y v u Q I rx ry h
  obtain ⟨i, j, rfl, rfl, hz, q⟩ := h
  obtain ⟨t, rfl⟩ := rx
  obtain ⟨t', rfl⟩ := ry
  exact PySem.W.KBy.add_bytes hz (fun t' tk => ⟨.byt (i ++ j), H, I.tok _, ⟨_, rfl⟩, q⟩)

def PlainIxT (b : Expr) : Prop := ∀ o i, subscripted b false o i = operate [o, i] (getItem o i)
/-- s[i], 0 ≤ i < len -/
theorem pe_item_str (ha : PE X a ta) (hb : PE X b tb) (hs : PlainIxT b) :
    PE X (.Subscript a b pos) (tOp (fun x y H Q => ∃ z i c, x = .str z ∧ y = .int i ∧ 0 ≤ i ∧ i < 2 ^ 63 ∧ i < z.length ∧ z.cps[i.toNat]? = some c ∧ Q (.str ⟨#[c]⟩) H) ta tb) := by
  intro pins s σ H Q I h
  refine Subscript_ (binT ha hb I h fun v u s2 x y H2 I2 rx ry q => ?_)
  obtain ⟨z, i, c, rfl, rfl, h0, h63, h1, hc, q⟩ := q
  obtain ⟨t, rfl⟩ := rx
  obtain ⟨t', rfl⟩ := ry
  have e : seqIndex? i z.length = some i.toNat := PySem.StrLaws.seqIndex_nonneg h0 h1
  exact tail_any (typeIs_str s2 z t) slot_str_getitem.lookup (getItem_str (c := c) (by
    have e1 : decide (i < -(2 ^ 63 : Int)) = false := decide_eq_false (by omega)
    have e2 : decide (i ≥ 2 ^ 63) = false := decide_eq_false (by omega)
    rw [e1, e2] <;> rfl) (by rw [e]; exact hc) ⟨.str ⟨#[c]⟩, H2, I2.tok _, ⟨_, rfl⟩, q⟩) (hs _ _)
/-- b[i], 0 ≤ i < len -/
theorem pe_item_byt (ha : PE X a ta) (hb : PE X b tb) (hs : PlainIxT b) :
    PE X (.Subscript a b pos) (tOp (fun x y H Q => ∃ (z : List UInt8) (i : Int), x = .byt z.toArray ∧ y = .int i ∧ z.length ≤ sizeLine ∧ 0 ≤ i ∧ i < z.length ∧ Q (.int ((z.getD i.toNat 0).toNat : Nat)) H) ta tb) := by
  intro pins s σ H Q I h
  refine Subscript_ (binT ha hb I h fun v u s2 x y H2 I2 rx ry q => ?_)
  obtain ⟨z, i, rfl, rfl, hz, h0, h1, q⟩ := q
  obtain ⟨t, rfl⟩ := rx
  obtain ⟨t', rfl⟩ := ry
  have hl : sizeLine = 16777216 := sizeLine_eq
  exact tail_any (PySem.W.typeIs_bytes s2 z.toArray t) PySem.W.FB.slot_bytes_getitem.lookup (PySem.W.getItem_bytes (by omega) h0 h1 ⟨.int ((z.getD i.toNat 0).toNat : Nat), H2, I2.tok _, ⟨_, rfl⟩, q⟩) (hs _ _)

/-! ### scalar builtins, by CallR -/
theorem vals1 {x : V} {us : List Value} (r : Vals [x] us) : ∃ u, us = [u] ∧ RelV x u := by
  cases r with
  | cons r1 r2 => cases r2; exact ⟨_, rfl, r1⟩
theorem vals2 {x y : V} {us : List Value} (r : Vals [x, y] us) : ∃ u w', us = [u, w'] ∧ RelV x u ∧ RelV y w' := by
  cases r with
  | cons r1 r2 =>
    cases r2 with
    | cons r3 r4 => cases r4; exact ⟨_, _, rfl, r1, r3⟩
theorem call_abs : CallR X (.builtin "abs") (fun xs H Q => ∃ i, xs = [.int i] ∧ Q (.int (if i < 0 then -i else i)) H) := by
  intro pins s σ H xs us Q I r h
  obtain ⟨i, rfl, q⟩ := h
  obtain ⟨u, rfl, t, rfl⟩ := vals1 r
  exact call_abs_int fun u tk => ⟨.int (if i < 0 then -i else i), H, I.tok _, ⟨_, rfl⟩, q⟩
theorem call_max2 (hc : X.calm = true) : CallR X (.builtin "max") (fun xs H Q => ∃ i j, xs = [.int i, .int j] ∧ Q (.int (if j > i then j else i)) H) := by
  intro pins s σ H xs us Q I r h
  obtain ⟨i, j, rfl, q⟩ := h
  obtain ⟨u, w', rfl, ⟨t, rfl⟩, ⟨t', rfl⟩⟩ := vals2 r
  refine max_two_ints (I.ok.hd hc) fun h' tk k => ⟨_, H, I.kept k, ?_, q⟩
  by_cases hj : j > i
  · rw [if_pos hj, if_pos hj]; exact ⟨_, rfl⟩
  · rw [if_neg hj, if_neg hj]; exact ⟨_, rfl⟩
theorem call_min2 (hc : X.calm = true) : CallR X (.builtin "min") (fun xs H Q => ∃ i j, xs = [.int i, .int j] ∧ Q (.int (if j < i then j else i)) H) := by
  intro pins s σ H xs us Q I r h
  obtain ⟨i, j, rfl, q⟩ := h
  obtain ⟨u, w', rfl, ⟨t, rfl⟩, ⟨t', rfl⟩⟩ := vals2 r
  refine min_two_ints (I.ok.hd hc) fun h' tk k => ⟨_, H, I.kept k, ?_, q⟩
  by_cases hj : j < i
  · rw [if_pos hj, if_pos hj]; exact ⟨_, rfl⟩
  · rw [if_neg hj, if_neg hj]; exact ⟨_, rfl⟩
theorem call_int1 : CallR X (.type "int") (fun xs H Q => (∃ i, xs = [.int i] ∧ Q (.int i) H) ∨ ∃ k, xs = [.bl k] ∧ Q (.int (if k then 1 else 0)) H) := by
  intro pins s σ H xs us Q I r h
  rcases h with ⟨i, rfl, q⟩ | ⟨k, rfl, q⟩
  · obtain ⟨u, rfl, t, rfl⟩ := vals1 r
    exact call_int_int ⟨.int i, H, I, ⟨_, rfl⟩, q⟩
  · obtain ⟨u, rfl, r1⟩ := vals1 r
    cases r1
    exact call_int_bool ⟨.int (if k then 1 else 0), H, I.tok _, ⟨_, rfl⟩, q⟩
theorem call_bool1 : CallR X (.type "bool") (fun xs H Q => (∃ i, xs = [.int i] ∧ Q (.bl (i != 0)) H) ∨ ∃ k, xs = [.bl k] ∧ Q (.bl k) H) := by
  intro pins s σ H xs us Q I r h
  rcases h with ⟨i, rfl, q⟩ | ⟨k, rfl, q⟩
  · obtain ⟨u, rfl, t, rfl⟩ := vals1 r
    exact call_bool_int ⟨.bl (i != 0), H, I, rfl, q⟩
  · obtain ⟨u, rfl, r1⟩ := vals1 r
    cases r1
    exact call_bool_bool ⟨.bl k, H, I, rfl, q⟩
theorem call_str_int : CallR X (.type "str") (fun xs H Q => ∃ i, xs = [.int i] ∧ i.natAbs.log2 < 1920 ∧ Q (.str (toString i)) H) := by
  intro pins s σ H xs us Q I r h
  obtain ⟨i, rfl, hz, q⟩ := h
  obtain ⟨u, rfl, t, rfl⟩ := vals1 r
  exact PySem.P.str_of_int hz ⟨.str _, H, I.tok _, ⟨_, rfl⟩, q⟩
theorem call_ord : CallR X (.builtin "ord") (fun xs H Q => ∃ x, xs = [.str x] ∧ x.length = 1 ∧ Q (.int (x.cps.getD 0 0 : Nat)) H) := by
  intro pins s σ H xs us Q I r h
  obtain ⟨x, rfl, hz, q⟩ := h
  obtain ⟨u, rfl, t, rfl⟩ := vals1 r
  exact ord_of_one hz ⟨.int _, H, I.tok _, ⟨_, rfl⟩, q⟩
theorem call_chr : CallR X (.builtin "chr") (fun xs H Q => ∃ i, xs = [.int i] ∧ 0 ≤ i ∧ i ≤ 1114111 ∧ Q (.str ⟨#[i.toNat]⟩) H) := by
  intro pins s σ H xs us Q I r h
  obtain ⟨i, rfl, h0, h1, q⟩ := h
  obtain ⟨u, rfl, t, rfl⟩ := vals1 r
  exact chr_of_range h0 h1 ⟨.str _, H, I.tok _, ⟨_, rfl⟩, q⟩
/-- len of a str, a bytes, a list, a tuple -/
def LenV (K : PySem.W.Frag) (x : V) (H : Hp) (n : Nat) : Prop :=
  match x with
  | .str y => y.length ≤ sizeLine ∧ n = y.length
  | .byt y => y.size ≤ sizeLine ∧ n = y.size
  | .ref p => (∃ xs, SqL K H p xs ∧ n = xs.length) ∨ ∃ xs, SqT K H p xs ∧ n = xs.length
  | _ => False
theorem call_len : CallR X (.builtin "len") (fun xs H Q => ∃ x n, xs = [x] ∧ LenV X.K x H n ∧ Q (.int n) H) := by
  intro pins s σ H xs us Q I r h
  obtain ⟨x, n, rfl, e, q⟩ := h
  obtain ⟨u, rfl, rx⟩ := vals1 r
  have hl := line63
  have hs : sizeLine = 16777216 := sizeLine_eq
  cases x with
  | str y =>
    obtain ⟨t, rfl⟩ := rx
    obtain ⟨hy, e'⟩ : y.length ≤ sizeLine ∧ n = y.length := e
    subst e'
    exact len_str (by omega) ⟨.int _, H, I.tok _, ⟨_, rfl⟩, q⟩
  | byt y =>
    obtain ⟨t, rfl⟩ := rx
    obtain ⟨hy, e'⟩ : y.size ≤ sizeLine ∧ n = y.size := e
    subst e'
    exact PySem.W.len_bytes (by omega) ⟨.int _, H, I.tok _, ⟨_, rfl⟩, q⟩
  | ref p =>
    cases rx
    have e' : (∃ xs, SqL X.K H p xs ∧ n = xs.length) ∨ ∃ xs, SqT X.K H p xs ∧ n = xs.length := e
    rcases e' with ⟨xs, hx, e'⟩ | ⟨xs, hx, e'⟩
    · subst e'
      obtain ⟨its, r', pl, hz⟩ := I.list hx
      have hlen := r'.length
      exact Calls.call_len_list pl.isList (by simp only [List.size_toArray]; omega) ⟨.int xs.length, H, I.tok _, ⟨_, by simp only [List.size_toArray]; rw [hlen]⟩, q⟩
    · subst e'
      obtain ⟨its, r', pl, hz⟩ := I.tuple hx
      have hlen := r'.length
      exact len_tuple pl (by simp only [List.size_toArray]; omega) ⟨.int xs.length, H, I.tok _, ⟨_, by simp only [List.size_toArray]; rw [hlen]⟩, q⟩
  | _ => exact (show False from e).elim
/-- divmod: a new tuple -/
theorem call_divmod : CallR X (.builtin "divmod") (fun xs H Q => ∃ i j, xs = [.int i, .int j] ∧ CDiv i j ∧ ∀ p, H p = none → Q (.ref p) (upd H p (.tup [.int (i / j), .int (i % j)]))) := by
  intro pins s σ H xs us Q I r h
  obtain ⟨i, j, rfl, ⟨h1, h2⟩, q⟩ := h
  obtain ⟨u, w', rfl, ⟨t, rfl⟩, ⟨t', rfl⟩⟩ := vals2 r
  refine divmod_int (by omega) ?_ (.inl (PyProof.noPylong_small (by omega)))
  rw [Int.fdiv_eq_ediv_of_nonneg i (by omega), Int.fmod_eq_emod_of_nonneg i (by omega)]
  have hn : H s.heap.objs.size = none := I.hok.fresh (Nat.le_refl _)
  refine ⟨.ref s.heap.objs.size, _, ?_, rfl, q _ hn⟩
  refine I.laid (fun b o e => Heap.get?_push_of_some _ e) (Nat.le_refl _) ⟨by simp only [List.length_cons, List.length_nil]; rw [sizeLine_eq]; decide, [.int (i / j) s.toks, .int (i % j) (s.toks + 1)], .cons ⟨_, rfl⟩ (.cons ⟨_, rfl⟩ .nil), ?_⟩
  exact ⟨_, Heap.get?_push_size s.heap rfl, rfl, 0, rfl⟩
end
end L2

namespace L2
open PySem PySem.Spec PyProof.Rows

/-! ### an instance, its attributes a map -/
structure ObjM (h : Heap) (x dx C : Addr) (mA : Str → Option Value) : Prop where
  obj : h.get? x = some (PySem.W.instObj C dx)
  ns : h.Ns1 dx mA
  ne : dx ≠ x

theorem lookIn_ns {h : Heap} {dx : Addr} {mA : Str → Option Value} (n : h.Ns1 dx mA) : ∃ od, h.get? dx = some od ∧ ∀ name, PySem.W.lookIn name od = some (mA name) := by
  obtain ⟨o, es, ep, ho, hd, hk, _, hm⟩ := n
  refine ⟨o, ho, fun name => ?_⟩
  have e := hm name
  unfold nsFind findBy at e
  rw [← Array.find?_toList] at e
  unfold PySem.W.lookIn
  rw [hd]
  dsimp only
  split
  · rename_i y q
    rw [q] at e
    exact congrArg some e
  · rename_i q
    rw [q] at e
    have a : es.toList.any (·.refKey) = false := by
      rw [List.any_eq_false]
      intro y hy
      obtain ⟨z, t, hkey⟩ := hk y (Array.mem_toList_iff.mp hy)
      simp [DictEntry.refKey, hkey]
    have a' : ¬ es.toList.any (·.refKey) = true := by rw [a]; exact Bool.false_ne_true
    rw [if_neg a']
    exact congrArg some e

theorem ObjM.look {h : Heap} {x dx C : Addr} {mA : Str → Option Value} (I : ObjM h x dx C mA) : ∃ od, PySem.W.InstAt h x (PySem.W.instObj C dx) C (some od) ∧ ∀ name, PySem.W.lookIn name od = some (mA name) :=
  let ⟨od, ho, hl⟩ := lookIn_ns I.ns
  ⟨od, ⟨I.obj, rfl, rfl, ho⟩, hl⟩

section
variable {prog : Program} {w : World} {A : Around} {E : Value → Shared → Prop} {s : Shared} {K : PySem.W.Frag} {x dx C f : Addr} {mA : Str → Option Value} {name : Str} {v : Value}

theorem get_map {expr : Bool} {Q : Value → Shared → Prop} (X : K.In s.heap) (I : ObjM s.heap x dx C mA) (hg : PySem.W.plainGet K C name = true) (hh : PySem.W.hasDictIn K C = true)
    (ha : PySem.W.findIn K (.ref C) name = some none) (hv : mA name = some v) (hv' : PySem.W.handedIn v = true) (h : Q v { s with toks := s.toks + 1 }) :
    wpAny (model prog w) A (getAttr (.ref x) name expr) Q E s := by
  obtain ⟨od, J, hl⟩ := I.look
  exact PySem.W.get_value X J (PySem.W.plainGet_of hg).1 (PySem.W.findObj_own hh ha rfl (by rw [hl, hv])) hv' h

theorem get_const {expr : Bool} {a : Value} {Q : Value → Shared → Prop} (X : K.In s.heap) (I : ObjM s.heap x dx C mA) (hg : PySem.W.plainGet K C name = true) (hh : PySem.W.hasDictIn K C = true)
    (ha : PySem.W.findIn K (.ref C) name = some (some a)) (hn : PySem.W.specialIn K a "__get__" = some none) (hc : PySem.W.copiedNames.contains name = false) (hv : mA name = none) (hv' : PySem.W.handedIn a = true)
    (h : Q a { s with toks := s.toks + 1 }) : wpAny (model prog w) A (getAttr (.ref x) name expr) Q E s := by
  obtain ⟨od, J, hl⟩ := I.look
  exact PySem.W.get_value X J (PySem.W.plainGet_of hg).1 (PySem.W.findObj_cls hh ha hn hv' hc (by rw [hl, hv])) hv' h

theorem get_meth {pl : Sem Bool} {Q : Value × List Value → Shared → Prop} (X : K.In s.heap) (I : ObjM s.heap x dx C mA) (hg : PySem.W.plainGet K C name = true)
    (hf : PySem.W.findIn K (.ref C) name = some (some (.ref f))) (ht : PySem.W.isFn K (.ref f) = true) (hv : mA name = none) (h : Q (.ref f, [.ref x]) s) :
    wpAny (model prog w) A (getMethod (.ref x) name pl) Q E s := by
  obtain ⟨od, J, hl⟩ := I.look
  exact PySem.W.method_fn X J (PySem.W.plainGet_of hg).1 (PySem.W.plainGet_of hg).2 hf (beq_iff_eq.mp ht) (by show (PySem.W.lookIn name od).map (·.isSome) = some false; rw [hl, hv]; rfl) h

theorem set_map {ns : List Str} {Q : Unit → Shared → Prop} (X : K.In s.heap) (I : ObjM s.heap x dx C mA)
    (hs : PySem.W.findIn K (.ref C) "__setattr__" = some (some (.builtin "object.__setattr__"))) (hp : PySem.W.plainOver K C = true) (ht : PySem.W.takerIn K C name = some none) (hh : PySem.W.hasDictIn K C = true)
    (hw : PySem.Within mA ns) (hsz : ns.length ≤ sizeLine)
    (h : ∀ h', ObjM h' x dx C (fun y => if y = name then some v else mA y) → Heap.SameBut dx s.heap h' → Q () { s with heap := h', toks := s.toks + 2 }) :
    wpAny (model prog w) A (setAttr (.ref x) name v) Q E s := by
  obtain ⟨od, J, hl⟩ := I.look
  refine PySem.W.set_plain X J hs (PySem.W.osa_open (s := { s with toks := s.toks + 1 }) (r := none) X J hp ht fun b => ?_)
  obtain ⟨cd, hc, hd'⟩ := PySem.W.any_some hh
  have hx : s.heap.get? x = some ⟨.ref C, some dx, .plain, #[]⟩ := I.obj
  refine wpAny_bind (wpAny_pure (wpAny_bind (wpAny_bind (wpAny_loadPart hx (wpAny_bind (PySem.W.Looks.here (s := { s with toks := s.toks + 1 }) (PySem.W.looks_clsIn X hc) ?_))))))
  rw [hd']
  refine wpAny_pure (a := some dx) (wpAny_bind (wpAny_pure (wpAny_bind ?_)))
  refine wpAny_nsSet1 (s := { s with toks := s.toks + 1 }) I.ns fun h' hn2 hs2 => ?_
  obtain ⟨oD, esD, epD, hoD, hdD, hcD⟩ := hn2.count (PySem.Within.cons name v hw)
  refine wpAny_bind (wpAny_lookBehind hoD (by rw [hdD]; exact pastItsLine_dict (Nat.le_trans hcD (by rw [List.length_cons]; omega))) ?_)
  exact wpAny_pure (h _ ⟨(hs2.2 _ (Ne.symm I.ne)).trans I.obj, hn2, I.ne⟩ hs2)

/-- C(..): the dict at the heap's end, the instance behind it; then its __init__ -/
theorem make_map {R : Result → Shared → Prop} {vs : List Value} {kw : List (Str × Value)} (X : K.In s.heap) (hm : PySem.W.makesIn K C = true)
    (hi : PySem.W.findIn K (.ref C) "__init__" = some (some (.ref f))) (hf : PySem.W.typeIn K (.ref f) = some (.type "function"))
    (h : codeAny (model prog w) (A.under (.builtin "type.__call__" ⟨.ref C :: vs, kw⟩)) (.call (.ref f) ⟨.ref (s.heap.objs.size + 1) :: vs, kw⟩) (PySem.W.InitBack (s.heap.objs.size + 1) R)
      { s with heap := (s.heap.push PySem.W.emptyDict).push (PySem.W.instObj C s.heap.objs.size) }) :
    codeAny (model prog w) A (.call (.ref C) ⟨vs, kw⟩) R s := by
  obtain ⟨hh, g, d, t, os⟩ := s
  exact PySem.W.make_core (PySem.W.makes_of X hm) (PySem.W.looks_findIn X hi) (fun self => PySem.W.bind_fn X self hf) (.inl rfl) h
/-- C() where there is no __init__ but object's -/
theorem make_map0 {R : Result → Shared → Prop} (X : K.In s.heap) (hm : PySem.W.makesIn K C = true)
    (hi : PySem.W.findIn K (.ref C) "__init__" = some (some (.builtin "object.__init__")))
    (hb : ∀ self, PySem.W.Looks (model prog w) s.heap (bindSpecial (.builtin "object.__init__") self) (.builtin "object.__init__", [self]))
    (h : codeAny (model prog w) (A.under (.builtin "type.__call__" ⟨[.ref C], []⟩)) (.call (.builtin "object.__init__") ⟨[.ref (s.heap.objs.size + 1)], []⟩) (PySem.W.InitBack (s.heap.objs.size + 1) R)
      { s with heap := (s.heap.push PySem.W.emptyDict).push (PySem.W.instObj C s.heap.objs.size) }) :
    codeAny (model prog w) A (.call (.ref C) ⟨[], []⟩) R s := by
  obtain ⟨hh, g, d, t, os⟩ := s
  exact PySem.W.make_core (PySem.W.makes_of X hm) (PySem.W.looks_findIn X hi) hb (.inr ⟨rfl, rfl⟩) h
end

/-! ### the attributes as a list of pairs -/
def putF (f : Str) (v : V) : List (Str × V) → List (Str × V)
  | [] => [(f, v)]
  | (g, x) :: r => if g = f then (g, v) :: r else (g, x) :: putF f v r
theorem lookup_putF (f g : Str) (v : V) : ∀ fs : List (Str × V), (putF f v fs).lookup g = if g = f then some v else fs.lookup g
  | [] => by
    show List.lookup g [(f, v)] = _
    by_cases h : g = f
    · have hb : (g == f) = true := beq_iff_eq.mpr h
      simp only [List.lookup, hb, if_pos h]
    · have hb : (g == f) = false := beq_eq_false_iff_ne.mpr h
      simp only [List.lookup, hb, if_neg h]
  | (k, x) :: r => by
    have ih := lookup_putF f g v r
    rw [show putF f v ((k, x) :: r) = (if k = f then (k, v) :: r else (k, x) :: putF f v r) from rfl]
    by_cases hk : k = f
    · rw [if_pos hk]
      by_cases h : g = k
      · have hb : (g == k) = true := beq_iff_eq.mpr h
        simp only [List.lookup, hb, if_pos (h.trans hk)]
      · have hb : (g == k) = false := beq_eq_false_iff_ne.mpr h
        simp only [List.lookup, hb, if_neg (fun e : g = f => h (e.trans hk.symm))]
    · rw [if_neg hk]
      by_cases h : g = k
      · have hb : (g == k) = true := beq_iff_eq.mpr h
        simp only [List.lookup, hb, if_neg (fun e : g = f => hk (h.symm.trans e))]
      · have hb : (g == k) = false := beq_eq_false_iff_ne.mpr h
        simp only [List.lookup, hb]
        exact ih
theorem keys_putF (f : Str) (v : V) : ∀ fs : List (Str × V), f ∈ (putF f v fs).map (·.1) ∧ ∀ g, g ∈ fs.map (·.1) → g ∈ (putF f v fs).map (·.1)
  | [] => ⟨by simp [putF], fun g h => by simp at h⟩
  | (k, x) :: r => by
    obtain ⟨i1, i2⟩ := keys_putF f v r
    rw [show putF f v ((k, x) :: r) = (if k = f then (k, v) :: r else (k, x) :: putF f v r) from rfl]
    by_cases hk : k = f
    · rw [if_pos hk]
      subst hk
      exact ⟨by simp, fun g h => by simpa using h⟩
    · rw [if_neg hk]
      refine ⟨?_, fun g h => ?_⟩
      · rw [List.map_cons]
        exact List.mem_cons_of_mem _ i1
      · rw [List.map_cons] at h ⊢
        rcases List.mem_cons.mp h with e | e
        · exact List.mem_cons.mpr (.inl e)
        · exact List.mem_cons_of_mem _ (i2 g e)
theorem length_putF (f : Str) (v : V) : ∀ fs : List (Str × V), (putF f v fs).length ≤ fs.length + 1
  | [] => by simp [putF]
  | (k, x) :: r => by
    have ih := length_putF f v r
    rw [show putF f v ((k, x) :: r) = (if k = f then (k, v) :: r else (k, x) :: putF f v r) from rfl]
    by_cases hk : k = f
    · rw [if_pos hk, List.length_cons, List.length_cons]; omega
    · rw [if_neg hk, List.length_cons, List.length_cons]; omega

theorem RelO.some_of {v : V} {o : Option Value} (r : RelO (some v) o) : ∃ u, o = some u ∧ RelV v u := by
  cases o with
  | none => exact (show False from r).elim
  | some u => exact ⟨u, rfl, r⟩
theorem RelO.none_of {o : Option Value} (r : RelO none o) : o = none := by
  cases o with
  | none => rfl
  | some u => exact (show False from r).elim
theorem handed_of {v : V} {u : Value} (r : RelV v u) : PySem.W.handedIn u = true := by
  cases v with
  | non => cases (show u = Value.none from r); rfl
  | bl b => cases (show u = Value.bool b from r); rfl
  | int i => obtain ⟨t, e⟩ := (show ∃ t, u = Value.int i t from r); cases e; rfl
  | str x => obtain ⟨t, e⟩ := (show ∃ t, u = Value.str x t from r); cases e; rfl
  | byt b => obtain ⟨t, e⟩ := (show ∃ t, u = Value.bytes b t from r); cases e; rfl
  | flt b => obtain ⟨t, e⟩ := (show ∃ t, u = Value.float b t from r); cases e; rfl
  | ref a => cases (show u = Value.ref a from r); rfl
  | ty n => cases (show u = Value.type n from r); rfl

section
variable {P : Program} {w : World} {H H' : Hp} {h h' : Heap} {a C dx : Addr} {fs fs' : List (Str × V)}
theorem ins_get (hok : HOk P w H h) (e : H a = some (.ins C dx fs)) : ∃ mA, ObjM h a dx C mA ∧ (∀ f, RelO (fs.lookup f) (mA f)) ∧ PySem.Within mA (fs.map (·.1)) ∧ fs.length ≤ 1000 ∧ H dx = some (.own a) := by
  obtain ⟨d, z, ne, ob, mA, n, r, q⟩ := (show ObjOk P w H h a (.ins C dx fs) from hok a _ e)
  exact ⟨mA, ⟨ob, n, ne⟩, r, q, z, d⟩
end

/-! ### what of the text a class must have -/
structure Cls (K : PySem.W.Frag) (C : Addr) : Prop where
  pg : PySem.W.plainGet K C Str.empty = true
  hd : PySem.W.hasDictIn K C = true
  po : PySem.W.plainOver K C = true
  sa : PySem.W.findIn K (.ref C) "__setattr__" = some (some (.builtin "object.__setattr__"))
theorem Cls.get {K : PySem.W.Frag} {C : Addr} (c : Cls K C) (f : Str) : PySem.W.plainGet K C f = true := c.pg
/-- no class of it has the name -/
def NoAttr (K : PySem.W.Frag) (C : Addr) (f : Str) : Prop := PySem.W.findIn K (.ref C) f = some none
theorem NoAttr.taker {K : PySem.W.Frag} {C : Addr} {f : Str} (n : NoAttr K C f) : PySem.W.takerIn K C f = some none := by
  unfold PySem.W.takerIn
  rw [show PySem.W.findIn K (.ref C) f = some none from n]
  rfl
/-- a constant of the class -/
structure Con (K : PySem.W.Frag) (C : Addr) (f : Str) (v : V) (u : Value) : Prop where
  at_ : PySem.W.findIn K (.ref C) f = some (some u)
  rel : RelV v u
  get : PySem.W.specialIn K u "__get__" = some none
  cp : PySem.W.copiedNames.contains f = false
/-- a method: a plain def of the class or of one above it -/
structure Meth (K : PySem.W.Frag) (C : Addr) (m : Str) (f : Addr) : Prop where
  at_ : PySem.W.findIn K (.ref C) m = some (some (.ref f))
  fn : PySem.W.isFn K (.ref f) = true
  kp : PySem.W.keepIn K (.ref f) = true

section
variable {X : Cx} {pins : List (Addr × Obj)} {σ : St} {H : Hp} {s : Shared} {a C dx : Addr} {fs : List (Str × V)} {f : Str} {v : V} {A : Around} {E : Value → Shared → Prop}

theorem getattr_ok {b : Bool} {Q : Value → Shared → Prop} (I : Inv X pins σ H s) (e : H a = some (.ins C dx fs)) (c : Cls X.K C) (n : NoAttr X.K C f) (l : fs.lookup f = some v)
    (h : ∀ u s', Inv X pins σ H s' → RelV v u → Q u s') : wpAny (model X.prog X.w) A (getAttr (.ref a) f b) Q E s := by
  obtain ⟨mA, O, r, _, _, _⟩ := ins_get I.hok e
  obtain ⟨u, hu, ru⟩ := RelO.some_of (v := v) (o := mA f) (by rw [← l]; exact r f)
  exact get_map I.kIn O (c.get f) c.hd n hu (handed_of ru) (h u _ (I.tok _) ru)

theorem getcon_ok {b : Bool} {u : Value} {Q : Value → Shared → Prop} (I : Inv X pins σ H s) (e : H a = some (.ins C dx fs)) (c : Cls X.K C) (k : Con X.K C f v u) (l : fs.lookup f = none)
    (h : ∀ s', Inv X pins σ H s' → Q u s') : wpAny (model X.prog X.w) A (getAttr (.ref a) f b) Q E s := by
  obtain ⟨mA, O, r, _, _, _⟩ := ins_get I.hok e
  have hn : mA f = none := RelO.none_of (by rw [← l]; exact r f)
  exact get_const I.kIn O (c.get f) c.hd k.at_ k.get k.cp hn (handed_of k.rel) (h _ (I.tok _))

theorem getmeth_ok {m : Str} {g : Addr} {pl : Sem Bool} {Q : Value × List Value → Shared → Prop} (I : Inv X pins σ H s) (e : H a = some (.ins C dx fs)) (c : Cls X.K C) (k : Meth X.K C m g) (l : fs.lookup m = none)
    (h : Q (.ref g, [.ref a]) s) : wpAny (model X.prog X.w) A (getMethod (.ref a) m pl) Q E s := by
  obtain ⟨mA, O, r, _, _, _⟩ := ins_get I.hok e
  have hn : mA m = none := RelO.none_of (by rw [← l]; exact r m)
  exact get_meth I.kIn O (c.get m) k.at_ k.fn hn h

theorem setattr_ok {y : V} {u : Value} {Q : Unit → Shared → Prop} (I : Inv X pins σ H s) (e : H a = some (.ins C dx fs)) (c : Cls X.K C) (n : NoAttr X.K C f) (hl : fs.length < 1000) (ry : RelV y u)
    (h : ∀ s', Inv X pins σ (upd H a (.ins C dx (putF f y fs))) s' → Q () s') : wpAny (model X.prog X.w) A (setAttr (.ref a) f u) Q E s := by
  obtain ⟨mA, O, r, wi, _, ho⟩ := ins_get I.hok e
  have hz : (fs.map (·.1)).length ≤ sizeLine := by rw [List.length_map, sizeLine_eq]; omega
  refine set_map I.kIn O c.sa c.po n.taker c.hd wi hz fun h' O' sb => h _ ?_
  have hd : ∃ o, h'.get? dx = some o := let ⟨o, _, _, e', _⟩ := O'.ns; ⟨o, e'⟩
  refine I.write (x := a) (e := dx) (by rw [e]; exact True.intro) (.inr ho) (fun b q hb z => (sb.2 b hb).trans z) hd ?_
  refine ⟨by rw [upd_ne O.ne]; exact ho, ?_, O.ne, O'.obj, _, O'.ns, fun g => ?_, fun g hg => ?_⟩
  · have := length_putF f y fs; omega
  · show RelO ((putF f y fs).lookup g) (if g = f then some u else mA g)
    rw [lookup_putF]
    by_cases q : g = f
    · rw [if_pos q, if_pos q]; exact ry
    · rw [if_neg q, if_neg q]; exact r g
  · by_cases q : g = f
    · rw [q]; exact (keys_putF f y fs).1
    · refine (keys_putF f y fs).2 g (wi g fun z => hg ?_)
      show (if g = f then some u else mA g) = none
      rw [if_neg q]; exact z

/-- a new instance, tracked, without attributes -/
theorem Inv.made (I : Inv X pins σ H s) : Inv X pins σ (upd (upd H s.heap.objs.size (.own (s.heap.objs.size + 1))) (s.heap.objs.size + 1) (.ins C s.heap.objs.size []))
    { s with heap := (s.heap.push PySem.W.emptyDict).push (PySem.W.instObj C s.heap.objs.size) } := by
  have e1 : (s.heap.push PySem.W.emptyDict).get? s.heap.objs.size = some PySem.W.emptyDict := Heap.get?_push_size s.heap rfl
  have e2 : ((s.heap.push PySem.W.emptyDict).push (PySem.W.instObj C s.heap.objs.size)).get? (s.heap.objs.size + 1) = some (PySem.W.instObj C s.heap.objs.size) := by
    have := Heap.get?_push_size (s.heap.push PySem.W.emptyDict) (o := PySem.W.instObj C s.heap.objs.size) rfl
    rwa [Heap.size_push] at this
  have e3 : (s.heap.push PySem.W.emptyDict).Ns s.heap.objs.size (fun _ => none) := ⟨PySem.W.emptyDict, #[], _, e1, rfl, (fun e he => absurd he (by simp)), fun _ => rfl⟩
  have I1 := I.laid (a := s.heap.objs.size) (o := .own (s.heap.objs.size + 1)) (h' := s.heap.push PySem.W.emptyDict) (t' := s.toks) (fun b u q => Heap.get?_push_of_some _ q) (Nat.le_refl _) ⟨_, e1⟩
  refine I1.laid (a := s.heap.objs.size + 1) (o := .ins C s.heap.objs.size []) (t' := s.toks) (fun b u q => Heap.get?_push_of_some _ q) (Nat.le_of_eq (Heap.size_push _ _)) ?_
  have ne : s.heap.objs.size ≠ s.heap.objs.size + 1 := Nat.ne_of_lt (Nat.lt_succ_self _)
  refine ⟨by rw [upd_ne ne, upd_same], Nat.zero_le _, ne, e2, fun _ => none, (Heap.Ns1.of_empty e3).at fun o q => Heap.get?_push_of_some _ q, fun _ => True.intro, fun y hy => absurd rfl hy⟩

/-- e.f where nothing but the object is asked: through attributeBase (super) and the last hold -/
theorem attr_of {prog : Program} {w : World} {env : Env} {e : Expr} {f : Str} {pos : Pos} {s : Shared} {Q : Value → Shared → Prop} (hb : attributeBase e f env (eval e env) = eval e env)
    (h : wpAny (model prog w) A (eval e env) (fun o s₁ => wpAny (model prog w) A (getAttr o f true) Q E s₁) E s) : wpAny (model prog w) A (eval (.Attribute e f pos) env) Q E s :=
  Attribute_any_ h (by rw [arm_eval_Attribute, hb])
end

/-! ### readings and rules -/
/-- e.f, an attribute of the instance -/
def tFld (K : PySem.W.Frag) (ta : TE) (f : Str) : TE := fun σ H Q => ta σ H fun x H1 => ∃ a C dx fs v, x = .ref a ∧ H1 a = some (.ins C dx fs) ∧ Cls K C ∧ NoAttr K C f ∧ fs.lookup f = some v ∧ Q v H1
/-- e.f, a constant of the class -/
def tCon (K : PySem.W.Frag) (ta : TE) (f : Str) : TE := fun σ H Q => ta σ H fun x H1 => ∃ a C dx fs v u, x = .ref a ∧ H1 a = some (.ins C dx fs) ∧ Cls K C ∧ Con K C f v u ∧ fs.lookup f = none ∧ Q v H1
/-- e.f = value -/
def sFld (K : PySem.W.Frag) (ta tv : TE) (f : Str) : TS := fun D σ H => tv σ H fun y H1 => ta σ H1 fun x H2 => ∃ a C dx fs, x = .ref a ∧ H2 a = some (.ins C dx fs) ∧ Cls K C ∧ NoAttr K C f ∧ fs.length < 1000 ∧
  D.nx σ (upd H2 a (.ins C dx (putF f y fs)))
/-- an augmented operator on two values -/
def InOp (X : Cx) (op : Operator) (rd : V → V → Hp → VK → Prop) : Prop :=
  ∀ (pins : List (Addr × Obj)) (s : Shared) (σ : St) (H : Hp) (x y : V) (u v : Value) (Q : VK), Inv X pins σ H s → RelV x u → RelV y v → rd x y H Q → wpAny (model X.prog X.w) X.A (inplaceOp op u v) (EP X pins σ Q) X.xe s
/-- e.f op= value -/
def sFldAug (K : PySem.W.Frag) (ta tv : TE) (rd : V → V → Hp → VK → Prop) (f : Str) : TS := fun D σ H => ta σ H fun x H1 => ∃ a C dx fs v, x = .ref a ∧ H1 a = some (.ins C dx fs) ∧ Cls K C ∧ NoAttr K C f ∧ fs.lookup f = some v ∧
  tv σ H1 fun y H2 => rd v y H2 fun z H3 => ∃ dx' fs', H3 a = some (.ins C dx' fs') ∧ fs'.length < 1000 ∧ D.nx σ (upd H3 a (.ins C dx' (putF f z fs')))

section
variable {X : Cx} {o e value : Expr} {f : Str} {pos pos' tpos : Pos} {ta tv : TE}
theorem pe_fld (he : PE X e ta) (hb : attributeBase e f X.env (eval e X.env) = eval e X.env) : PE X (.Attribute e f pos) (tFld X.K ta f) := by
  intro pins s σ H Q I h
  refine attr_of hb (thn (he pins s σ H _ I h) fun u s1 ⟨x, H1, I1, rx, a, C, dx, fs, v, ex, ea, c, n, l, q⟩ => ?_)
  subst ex
  obtain rfl : u = Value.ref a := rx
  exact getattr_ok I1 ea c n l fun u' s2 I2 ru => ⟨v, H1, I2, ru, q⟩
theorem pe_con (he : PE X e ta) (hb : attributeBase e f X.env (eval e X.env) = eval e X.env) : PE X (.Attribute e f pos) (tCon X.K ta f) := by
  intro pins s σ H Q I h
  refine attr_of hb (thn (he pins s σ H _ I h) fun u s1 ⟨x, H1, I1, rx, a, C, dx, fs, v, u0, ex, ea, c, k, l, q⟩ => ?_)
  subst ex
  obtain rfl : u = Value.ref a := rx
  exact getcon_ok I1 ea c k l fun s2 I2 => ⟨v, H1, I2, k.rel, q⟩
theorem ps_fld (ha : PE X o ta) (hv : PE X value tv) (hs : swapsWith value (some (.Attribute o f pos')) pos.line X.env = pure false) : PS X (.Assign [.Attribute o f pos'] value pos) (sFld X.K ta tv f) := by
  intro pins s σ H D I h
  refine plainObj_wpAny_Assign_Attribute (thn (hv pins s σ H _ I h) fun u s1 ⟨y, H1, I1, ry, q⟩ => thn (ha pins s1 σ H1 _ I1 q) fun ov s2 ⟨x, H2, I2, rx, a, C, dx, fs, ex, ea, c, n, l, q2⟩ => ?_) hs
  subst ex
  obtain rfl : ov = Value.ref a := rx
  exact setattr_ok I2 ea c n l ry fun s3 I3 => ⟨σ, _, I3, q2⟩
theorem ps_fldaug {op : Operator} {rd : V → V → Hp → VK → Prop} (ha : PE X o ta) (hv : PE X value tv) (hop : InOp X op rd) : PS X (.AugAssign (.Attribute o f tpos) op value pos) (sFldAug X.K ta tv rd f) := by
  intro pins s σ H D I h
  refine wpAny_AugAssign_AttributeAny (thn (ha pins s σ H _ I h) fun ov s1 ⟨x, H1, I1, rx, a, C, dx, fs, v, ex, ea, c, n, l, q⟩ => ?_)
  subst ex
  obtain rfl : ov = Value.ref a := rx
  refine getattr_ok I1 ea c n l fun u s2 I2 ru => thn (hv pins s2 σ H1 _ I2 q) fun w3 s3 ⟨y, H2, I3, ry, q3⟩ => thn (hop pins s3 σ H2 v y u w3 _ I3 ru ry q3) fun w4 s4 ⟨z, H3, I4, rz, dx', fs', ea', l', q4⟩ => ?_
  exact setattr_ok I4 ea' c n l' rz fun s5 I5 => ⟨σ, _, I5, q4⟩
def rAdd : V → V → Hp → VK → Prop := fun x y H Q => ∃ i j, x = .int i ∧ y = .int j ∧ Q (.int (i + j)) H
def rSub : V → V → Hp → VK → Prop := fun x y H Q => ∃ i j, x = .int i ∧ y = .int j ∧ Q (.int (i - j)) H
theorem in_add : InOp X .Add rAdd := by
  rintro pins s σ H x y u v Q I rx ry ⟨i, j, rfl, rfl, q⟩
  obtain ⟨t, rfl⟩ := (show ∃ t, u = Value.int i t from rx)
  obtain ⟨t', rfl⟩ := (show ∃ t', v = Value.int j t' from ry)
  exact PyProof.Rows.iadd_int ⟨.int (i + j), H, I.tok _, ⟨_, rfl⟩, q⟩
theorem in_sub : InOp X .Sub rSub := by
  rintro pins s σ H x y u v Q I rx ry ⟨i, j, rfl, rfl, q⟩
  obtain ⟨t, rfl⟩ := (show ∃ t, u = Value.int i t from rx)
  obtain ⟨t', rfl⟩ := (show ∃ t', v = Value.int j t' from ry)
  exact PyProof.Rows.isub_int ⟨.int (i - j), H, I.tok _, ⟨_, rfl⟩, q⟩

/-- what is between an instance and its method: the tree of a method call -/
theorem methcall_of {pl : Sem Bool} {m : Str} {apos : Pos} {args : List Expr} {pins : List (Addr × Obj)} {s : Shared} {σ : St} {H : Hp} {Q : Value → Shared → Prop} {te : TE} (he : PE X e te) (I : Inv X pins σ H s)
    (h : te σ H fun x H1 => ∃ a C dx fs g, x = .ref a ∧ H1 a = some (.ins C dx fs) ∧ Cls X.K C ∧ Meth X.K C m g ∧ fs.lookup m = none ∧
      ∀ s1, Inv X pins σ H1 s1 → wpAny (model X.prog X.w) X.A (callWith pos (.ref g) [.ref a] (backTo pos (starEach args X.env)) (backToKw pos (keywordEach [] X.env))) Q X.xe s1)
    (ht : eval (.Call (.Attribute e m apos) args [] pos) X.env = (do
      let ov ← eval e X.env
      standAt apos.atName
      let (f, first) ← holding [ov] (getMethod ov m pl)
      callWith pos f first (backTo pos (starEach args X.env)) (backToKw pos (keywordEach [] X.env)))) :
    wpAny (model X.prog X.w) X.A (eval (.Call (.Attribute e m apos) args [] pos) X.env) Q X.xe s := by
  refine PySem.W.methodCall_KW (pl := pl) (thn (he pins s σ H _ I h) fun u s1 ⟨x, H1, I1, rx, a, C, dx, fs, g, ex, ea, c, k, l, q⟩ => ?_) ht
  subst ex
  obtain rfl : u = Value.ref a := rx
  exact getmeth_ok I1 ea c k l (q s1 I1)
end

/-! ### isinstance -/
section
variable {X : Cx} {pins : List (Addr × Obj)} {σ : St} {H : Hp} {s : Shared} {A : Around} {E : Value → Shared → Prop} {Q : Value → Shared → Prop} {c : Value} {b : Bool}
/-- the type of a value, as the fragment's deciders take it; for an instance its class -/
inductive TyOf (K : PySem.W.Frag) (H : Hp) : V → Value → Prop where
  | non : TyOf K H .non (.type "NoneType")
  | bl (x : Bool) : TyOf K H (.bl x) (.type "bool")
  | int (i : Int) : TyOf K H (.int i) (.type "int")
  | str (x : Str) : TyOf K H (.str x) (.type "str")
  | flt (x : UInt64) : TyOf K H (.flt x) (.type "float")
  | lst {a : Addr} {xs : List V} (e : H a = some (.lst xs)) : TyOf K H (.ref a) (.type "list")
  | frz {a : Addr} {o : Obj} {xs : List V} (e : H a = some (.frz o (.lst xs))) : TyOf K H (.ref a) (.type "list")
  | tup {a : Addr} {xs : List V} (e : H a = some (.tup xs)) : TyOf K H (.ref a) (.type "tuple")
  | dK {a : Addr} {kvs : List (Key × V)} (e : H a = some (.dK kvs)) : TyOf K H (.ref a) (.type "dict")
  | dT {a : Addr} {kvs : List (List Key × V)} (e : H a = some (.dT kvs)) : TyOf K H (.ref a) (.type "dict")
  | ins {a C dx : Addr} {fs : List (Str × V)} (e : H a = some (.ins C dx fs)) (cl : Cls K C) (ha : PySem.W.findIn K (.ref C) "__class__" = some (some (.builtin "object.__class__")))
      (hn : PySem.W.specialIn K (.builtin "object.__class__") "__get__" = some (some (.builtin "getset_descriptor.__get__"))) (htk : PySem.W.takesIn K (.builtin "object.__class__") = some true)
      (hm : PySem.W.mroIn K C (.type "object") = some true) : TyOf K H (.ref a) (.ref C)
/-- isinstance(x, c) for one class c, a built-in or an own one: kitOne's answer -/
theorem isinst_ok {x : V} {u t : Value} (I : Inv X pins σ H s) (rx : RelV x u) (ty : TyOf X.K H x t) (e : PySem.W.kitOne X.K t c = some b) (h : ∀ tk, Q (.bool b) { s with toks := tk }) :
    wpAny (model X.prog X.w) A (call (.builtin "isinstance") [u, c]) Q E s := by
  cases ty with
  | non => cases (show u = Value.none from rx); exact PySem.W.kia_one PySem.W.kitx_none I.kIn True.intro e (fun z => nomatch z) h
  | bl y => cases (show u = Value.bool y from rx); exact PySem.W.kia_one PySem.W.kitx_bool I.kIn True.intro e (fun z => nomatch z) h
  | int i => obtain ⟨t, q⟩ := (show ∃ t, u = Value.int i t from rx); cases q; exact PySem.W.kia_one PySem.W.kitx_int I.kIn True.intro e (fun z => nomatch z) h
  | str y => obtain ⟨t, q⟩ := (show ∃ t, u = Value.str y t from rx); cases q; exact PySem.W.kia_one PySem.W.kitx_str I.kIn True.intro e (fun z => nomatch z) h
  | flt y => obtain ⟨t, q⟩ := (show ∃ t, u = Value.float y t from rx); cases q; exact PySem.W.kia_one PySem.W.kitx_float I.kIn True.intro e (fun z => nomatch z) h
  | @lst a xs ea =>
    cases (show u = Value.ref a from rx)
    obtain ⟨_, _, n, _, h1⟩ := (show ObjOk X.prog X.w H s.heap a (.lst xs) from I.hok a _ ea)
    exact PySem.W.kia_one PySem.W.kitx_list I.kIn ⟨_, h1, rfl⟩ e (fun z => nomatch z) h
  | @frz a ob xs ea =>
    cases (show u = Value.ref a from rx)
    obtain ⟨_, _, _, n, _, h1⟩ := (show ObjOk X.prog X.w H s.heap a (.frz ob (.lst xs)) from I.hok a _ ea)
    exact PySem.W.kia_one PySem.W.kitx_list I.kIn ⟨_, h1, rfl⟩ e (fun z => nomatch z) h
  | @tup a xs ea =>
    cases (show u = Value.ref a from rx)
    obtain ⟨_, _, _, p⟩ := (show ObjOk X.prog X.w H s.heap a (.tup xs) from I.hok a _ ea)
    obtain ⟨o, h1, h2, _⟩ := p
    exact PySem.W.kia_one PySem.W.kitx_tuple I.kIn ⟨o, h1, h2⟩ e (fun z => nomatch z) h
  | @dK a kvs ea =>
    cases (show u = Value.ref a from rx)
    obtain ⟨_, _, vs, _, p⟩ := (show ObjOk X.prog X.w H s.heap a (.dK kvs) from I.hok a _ ea)
    obtain ⟨o, es, ep, h1, h2, _⟩ := p
    exact PySem.W.kia_one PySem.W.kitx_dict I.kIn ⟨o, h1, h2.1⟩ e (fun z => nomatch z) h
  | @dT a kvs ea =>
    cases (show u = Value.ref a from rx)
    obtain ⟨_, _, xs, _, o, es, ep, h1, h2, _⟩ := (show ObjOk X.prog X.w H s.heap a (.dT kvs) from I.hok a _ ea)
    exact PySem.W.kia_one PySem.W.kitx_dict I.kIn ⟨o, h1, h2.1⟩ e (fun z => nomatch z) h
  | @ins a C dx fs ea cl ha hn htk hm =>
    cases (show u = Value.ref a from rx)
    obtain ⟨mA, O, _⟩ := ins_get I.hok ea
    obtain ⟨od, J, _⟩ := O.look
    exact PySem.W.kia_one (PySem.W.kitx_own (cl.get _) cl.hd ha hn htk hm) I.kIn J e (fun z => nomatch z) h
end
end L2

namespace L2
open PySem PySem.Spec PyProof.Rows

/-! ### room -/
structure Room (k : Nat) (A : Around) : Prop where
  hd : A.handled = none
  dp : A.depth + 3 * k + 5 < recursionLimit
  un : A.units + 16 * k + 200 < cLine
theorem Room.mono {j k : Nat} {A : Around} (r : Room k A) (h : j ≤ k) : Room j A := ⟨r.hd, by have := r.dp; omega, by have := r.un; omega⟩
theorem Room.deeper {k : Nat} {A : Around} (r : Room (k + 1) A) (env : Env) : Room k (A.deeper env) :=
  ⟨r.hd, by have := r.dp; show A.depth + 1 + 3 * k + 5 < _; omega, by have := r.un; show A.units + 3 + 16 * k + 200 < _; omega⟩
theorem Room.in1 {k : Nat} {A : Around} (r : Room (k + 1) A) : Room k A.in1 :=
  ⟨r.hd, by have := r.dp; show A.depth + 3 * k + 5 < _; omega, by have := r.un; show A.units + 1 + 16 * k + 200 < _; omega⟩
theorem make_depth {A : Around} {C : Addr} {us : List Value} {kw : List (Str × Value)} : (A.under (.builtin "type.__call__" ⟨.ref C :: us, kw⟩)).depth = A.depth + 1 := by
  first | rfl | simp [Around.under, Code.weight, Code.isCreation, Code.isGuard, Code.isCaller, Code.frames, Code.isFrame, guardIds]
theorem make_units {A : Around} {C : Addr} {us : List Value} {kw : List (Str × Value)} : (A.under (.builtin "type.__call__" ⟨.ref C :: us, kw⟩)).units = A.units + 1 := by
  first | rfl | simp [Around.under, Code.cUnits, Code.frames, Code.isFrame]
theorem Room.make {k : Nat} {A : Around} (r : Room (k + 1) A) (C : Addr) (us : List Value) (kw : List (Str × Value)) : Room k (A.under (.builtin "type.__call__" ⟨.ref C :: us, kw⟩)) :=
  ⟨r.hd, by have := r.dp; rw [make_depth]; omega, by have := r.un; rw [make_units]; omega⟩
theorem Room.depth {k : Nat} {A : Around} (r : Room k A) : A.depth < recursionLimit := by have := r.dp; omega
theorem Room.units {k : Nat} {A : Around} (r : Room k A) : A.units + 64 < cLine := by have := r.un; omega
theorem Room.units0 {k : Nat} {A : Around} (r : Room k A) : A.units < cLine := by have := r.un; omega

/-! ### argument lists and displays -/
def tNil : TA := fun _ H Q => Q [] H
def tCons (ta : TE) (tr : TA) : TA := fun σ H Q => ta σ H fun x H1 => tr σ H1 fun xs H2 => Q (x :: xs) H2
section
variable {X : Cx} {e : Expr} {es : List Expr} {te : TE} {t : TA} {pos : Pos}
theorem pa_nil : PA X [] tNil := fun _ _ _ _ H Q I h => Calls.spliced_nil ⟨[], H, I, .nil, h⟩
theorem pa_cons (ha : PE X e te) (hr : PA X es t) (hs : starEach (e :: es) X.env = (false, eval e X.env) :: starEach es X.env := by rfl) : PA X (e :: es) (tCons te t) := by
  intro pos pins s σ H Q I h
  rw [hs]
  show wpAny _ _ (spliced ((false, eval e X.env) :: backTo pos (starEach es X.env))) _ _ s
  refine Calls.spliced_cons (thn (ha pins s σ H _ I h) fun u s1 ⟨x, H1, I1, r1, q1⟩ => ?_)
  exact thn (hr pos pins s1 σ H1 _ I1 q1) fun us s2 ⟨xs, H2, I2, r2, q2⟩ => ⟨x :: xs, H2, I2, .cons r1 r2, q2⟩

/-- a tuple, a list of written items -/
def tTup (t : TA) : TE := fun σ H Q => t σ H fun xs H1 => xs.length ≤ sizeLine ∧ ∀ p, H1 p = none → Q (.ref p) (upd H1 p (.tup xs))
def tLst (t : TA) : TE := fun σ H Q => t σ H fun xs H1 => xs.length ≤ sizeLine ∧ ∀ p, H1 p = none → Q (.ref p) (upd H1 p (.lst xs))
theorem pe_tup {x1} (h : PA X es t) : PE X (.Tuple es x1 pos) (tTup t) := by
  intro pins s σ H Q I hq
  refine wpAny_Tuple_spliced (thn (h pos pins s σ H _ I hq) fun us s1 ⟨xs, H1, I1, r, z, q⟩ => ⟨by rw [← r.length]; exact z, ?_⟩)
  have hf : H1 s1.heap.objs.size = none := I1.hok.fresh (Nat.le_refl _)
  refine ⟨.ref s1.heap.objs.size, upd H1 s1.heap.objs.size (.tup xs), I1.laid (t' := s1.toks) (fun b u e => Heap.get?_push_of_some _ e) (Nat.le_refl _) ?_, rfl, q _ hf⟩
  exact ⟨z, us, r, ⟨_, Heap.get?_push_size _ rfl, rfl, _, rfl⟩⟩
theorem pe_lst (h : PA X es t) : PE X (.List es pos) (tLst t) := by
  intro pins s σ H Q I hq
  refine wpAny_List_spliced (thn (h pos pins s σ H _ I hq) fun us s1 ⟨xs, H1, I1, r, z, q⟩ => ⟨by rw [← r.length]; exact z, ?_⟩)
  have hf : H1 s1.heap.objs.size = none := I1.hok.fresh (Nat.le_refl _)
  refine ⟨.ref s1.heap.objs.size, upd H1 s1.heap.objs.size (.lst xs), I1.laid (t' := s1.toks) (fun b u e => Heap.get?_push_of_some _ e) (Nat.le_refl _) ?_, rfl, q _ hf⟩
  exact ⟨z, us, 0, r, Heap.get?_push_size _ rfl⟩
end

/-! ### what a def promises -/
/-- a def's promise: the bound arguments in the parameters' order, the heap, the wanted end, the wanted exception -/
abbrev Sp := List V → Hp → VK → XK → Prop
/-- how an exception lies behind a call (file 08 gives it): the callers' frames, abstract heap and state ahead of the call, the wish, the exception, the state -/
abbrev CXT := List Env → Hp → Shared → XK → Value → Shared → Prop

/-- the state at a call -/
structure Env0 (P : Program) (w : World) (K : PySem.W.Frag) (mg : Str → Option Value) (base : Heap) (A : Around) (outer : List Env) (s : Shared) (H : Hp) : Prop where
  frames : A.frames = some outer
  mod : Mod K mg base
  bs : ∀ b o, base.get? b = some o → s.heap.get? b = some o ∧ H b = none
  bsz : base.objs.size ≤ s.heap.objs.size
  funs : s.heap.FunFrames base outer
  frf : ∀ b ∈ frs outer, H b = none
  hok : HOk P w H s.heap
  bare : AllBare s.gens
/-- a call's end -/
def CE (outer : List Env) (P : Program) (w : World) (H : Hp) (s : Shared) (Q : VK) (u : Value) (s' : Shared) : Prop :=
  ∃ v H', s'.os = s.os ∧ AllBare s'.gens ∧ Un (frs outer) [] H H' s.heap s'.heap ∧ HOk P w H' s'.heap ∧ RelV v u ∧ Q v H'
def CR (CX : CXT) (outer : List Env) (P : Program) (w : World) (H : Hp) (s : Shared) (Q : VK) (E : XK) (r : Result) (s' : Shared) : Prop :=
  match r with
  | .ok (.ret u) => CE outer P w H s Q u s'
  | .ok _ => False
  | .error e => CX outer H s E e s'
structure FnOk (P : Program) (w : World) (K : PySem.W.Frag) (mg : Str → Option Value) (base : Heap) (CX : CXT) (k : Nat) (f : Addr) (fd : FuncData) (ps : List Str) (sp : Sp) : Prop where
  len : ∀ vs H Q E, sp vs H Q E → vs.length = ps.length
  run : ∀ (A : Around) (outer : List Env) (s : Shared) (H : Hp) (args : Args) (us : List Value) (vs : List V) (Q : VK) (E : XK), Room k A → Env0 P w K mg base A outer s H → BindsTo s fd args (ps.zip us) → Vals vs us → sp vs H Q E →
    codeAny (model P w) A (.call (.ref f) args) (CR CX outer P w H s Q E) s
theorem FnOk.mono {P : Program} {w : World} {K : PySem.W.Frag} {mg : Str → Option Value} {base : Heap} {CX : CXT} {j k : Nat} {f : Addr} {fd : FuncData} {ps : List Str} {sp : Sp} (F : FnOk P w K mg base CX j f fd ps sp) (h : j ≤ k) :
    FnOk P w K mg base CX k f fd ps sp := ⟨F.len, fun A outer s H args us vs Q E hr => F.run A outer s H args us vs Q E (hr.mono h)⟩
/-- a weaker promise -/
theorem FnOk.imp {P : Program} {w : World} {K : PySem.W.Frag} {mg : Str → Option Value} {base : Heap} {CX : CXT} {k : Nat} {f : Addr} {fd : FuncData} {ps : List Str} {sp sp' : Sp} (F : FnOk P w K mg base CX k f fd ps sp)
    (h : ∀ vs H Q E, sp' vs H Q E → sp vs H Q E) : FnOk P w K mg base CX k f fd ps sp' :=
  ⟨fun vs H Q E q => F.len vs H Q E (h _ _ _ _ q), fun A outer s H args us vs Q E hr he hb hv hs => F.run A outer s H args us vs Q E hr he hb hv (h _ _ _ _ hs)⟩

theorem Env0.make {P : Program} {w : World} {K : PySem.W.Frag} {mg : Str → Option Value} {base : Heap} {A : Around} {outer : List Env} {s : Shared} {H : Hp} (e : Env0 P w K mg base A outer s H) (C : Addr) (us : List Value) (kw : List (Str × Value)) :
    Env0 P w K mg base (A.under (.builtin "type.__call__" ⟨.ref C :: us, kw⟩)) outer s H := ⟨by first | exact e.frames | (simpa [Around.under, Code.envs, Code.isFrame, pushEnvs] using e.frames), e.mod, e.bs, e.bsz, e.funs, e.frf, e.hok, e.bare⟩
theorem Env0.in1 {P : Program} {w : World} {K : PySem.W.Frag} {mg : Str → Option Value} {base : Heap} {A : Around} {outer : List Env} {s : Shared} {H : Hp} (e : Env0 P w K mg base A outer s H) :
    Env0 P w K mg base A.in1 outer s H := ⟨e.frames, e.mod, e.bs, e.bsz, e.funs, e.frf, e.hok, e.bare⟩

section
variable {X : Cx} {pins : List (Addr × Obj)} {σ : St} {H : Hp} {s s' : Shared}
/-- from a body: what a callee wants -/
theorem Inv.env0 (I : Inv X pins σ H s) : Env0 X.prog X.w X.K X.mg X.base X.A X.stack s H :=
  ⟨I.ok.frames, I.ok.mod, I.bs, Nat.le_trans I.ok.bsz I.sz, I.stack, I.stkFree, I.hok, I.bare⟩
/-- behind a call -/
theorem Inv.after {Q : VK} {u : Value} (I : Inv X pins σ H s) (h : CE X.stack X.prog X.w H s Q u s') : EP X pins σ Q u s' := by
  obtain ⟨v, H', os, bare, un, hok, r, q⟩ := h
  obtain ⟨hh, g, d, t, os'⟩ := s'
  obtain rfl : os' = s.os := os
  exact ⟨v, H', I.call (h' := hh) (g' := g) (d' := d) (t' := t) (ch := []) un hok bare (fun b z => absurd z (by simp)), r, q⟩
end

/-! ### calls -/
/-- f(..): the written arguments, then the defaults dvs; E: what is wanted of an exception -/
def tCall (sp : Sp) (dvs : List V) (E : XK) (t : TA) : TE := fun σ H Q => t σ H fun vs H1 => sp (vs ++ dvs) H1 Q E
/-- o.m(..) of an instance of the class at C -/
def tMeth (C : Addr) (m : Str) (sp : Sp) (dvs : List V) (E : XK) (ta : TE) (t : TA) : TE := fun σ H Q => ta σ H fun x H1 => ∃ a dx fs, x = .ref a ∧ H1 a = some (.ins C dx fs) ∧ fs.lookup m = none ∧
  t σ H1 fun vs H2 => sp (x :: (vs ++ dvs)) H2 Q E
/-- C(..): a new instance and its dict, then __init__ -/
def tMake (C : Addr) (sp : Sp) (dvs : List V) (E : XK) (t : TA) : TE := fun σ H Q => t σ H fun vs H1 => ∀ x dx, H1 x = none → H1 dx = none → dx ≠ x →
  sp (.ref x :: (vs ++ dvs)) (upd (upd H1 dx (.own x)) x (.ins C dx [])) (fun v H2 => v = .non ∧ Q (.ref x) H2) E

/-- how the parameters are bound: us the positional arguments, kw the keywords' values by name, ds the defaults that fill up -/
def Binds (K : PySem.W.Frag) (fd : FuncData) (ps : List Str) (ds : List Value) : Prop :=
  ∀ (s : Shared) (us : List Value), K.In s.heap → (us ++ ds).length = ps.length → BindsTo s fd ⟨us, []⟩ (ps.zip (us ++ ds))
/-- every parameter is given -/
theorem Binds.all {K : PySem.W.Frag} {fd : FuncData} {ps : List Str} (h : ∀ us : List Value, us.length = ps.length → bindArgs fd ⟨us, []⟩ = pure (ps.zip us)) : Binds K fd ps [] := fun s us _ hl => by
  rw [List.append_nil] at hl ⊢
  exact .of_eq (h us hl)

/-- an exception of a callee reaches what this body wants of exceptions -/
def Passes (CX : CXT) (X : Cx) (E : XK) : Prop := ∀ (pins : List (Addr × Obj)) (σ : St) (H : Hp) (s : Shared) (e : Value) (s' : Shared), Inv X pins σ H s → CX X.stack H s E e s' → X.xe e s'

section
variable {X : Cx} {CX : CXT} {k : Nat} {f C : Addr} {fd : FuncData} {ps : List Str} {sp : Sp} {dvs : List V} {ds : List Value} {E : XK} {x m : Str} {p pos apos : Pos} {e o : Expr} {es : List Expr} {ta : TE} {t : TA}

/-- the callee runs -/
theorem run_fn {pins : List (Addr × Obj)} {σ : St} {H : Hp} {s : Shared} {Q : VK} {us : List Value} {vs : List V} (F : FnOk X.prog X.w X.K X.mg X.base CX k f fd ps sp) (hr : Room k X.A) (hb : Binds X.K fd ps ds) (hd : Vals dvs ds) (hx : Passes CX X E)
    (I : Inv X pins σ H s) (r : Vals vs us) (h : sp (vs ++ dvs) H Q E) : wpAny (model X.prog X.w) X.A (call (.ref f) us) (EP X pins σ Q) X.xe s := by
  have r2 : Vals (vs ++ dvs) (us ++ ds) := r.append hd
  have hl : (us ++ ds).length = ps.length := by rw [← r2.length]; exact F.len _ _ _ _ h
  refine wpAny_call (codeAny_mono (F.run X.A X.stack s H ⟨us, []⟩ (us ++ ds) (vs ++ dvs) Q E hr I.env0 (hb s us I.kIn hl) r2 h) fun r s' hq => ?_)
  cases r with
  | error e => exact hx pins σ H s e s' I hq
  | ok fl =>
    cases fl with
    | ret u => exact I.after hq
    | next => exact False.elim hq
    | brk => exact False.elim hq
    | cont => exact False.elim hq

theorem pe_call (F : FnOk X.prog X.w X.K X.mg X.base CX k f fd ps sp) (hr : Room k X.A) (hg : Gl X x) (hm : X.mg x = some (.ref f)) (hk : PySem.W.keepIn X.K (.ref f) = true) (hb : Binds X.K fd ps ds) (hd : Vals dvs ds) (hx : Passes CX X E)
    (ha : PA X (e :: es) t) (hdb : (x == ("__debug__" : Str)) = false := by decide) (he : starEach (e :: es) X.env = (false, eval e X.env) :: starEach es X.env := by rfl) (hpl : (backTo pos (starEach es X.env)).any (·.1) = false := by rfl) :
    PE X (.Call (.Name x p) (e :: es) [] pos) (tCall sp dvs E t) := by
  intro pins s σ H Q I h
  refine wpAny_Call_Name_kw (ld_glob I hg hm ?_ hdb)
  refine PySem.W.callWith_K (h₀ := X.base) I.ok.mod.kin hk (thn (ha pos pins s σ H _ I h) fun us s1 ⟨vs, H1, I1, r, q⟩ => ⟨I1.kIn, ?_⟩) he hpl
  exact run_fn F hr hb hd hx I1 r q
theorem pe_call0 (F : FnOk X.prog X.w X.K X.mg X.base CX k f fd ps sp) (hr : Room k X.A) (hg : Gl X x) (hm : X.mg x = some (.ref f)) (hk : PySem.W.keepIn X.K (.ref f) = true) (hb : Binds X.K fd ps ds) (hd : Vals dvs ds) (hx : Passes CX X E)
    (hdb : (x == ("__debug__" : Str)) = false := by decide) : PE X (.Call (.Name x p) [] [] pos) (tCall sp dvs E tNil) := by
  intro pins s σ H Q I h
  refine wpAny_Call_Name_kw (ld_glob I hg hm ?_ hdb)
  exact PySem.W.callWith_K0 I.kIn hk (run_fn (us := []) F hr hb hd hx I .nil h)

/-- o.m(e, ..) -/
theorem pe_meth {pl : Sem Bool} (he : PE X o ta) (c : Cls X.K C) (hm : Meth X.K C m f) (F : FnOk X.prog X.w X.K X.mg X.base CX k f fd ps sp) (hr : Room k X.A) (hb : Binds X.K fd ps ds) (hd : Vals dvs ds) (hx : Passes CX X E) (ha : PA X (e :: es) t)
    (hst : starEach (e :: es) X.env = (false, eval e X.env) :: starEach es X.env := by rfl) (hpl : (backTo pos (starEach es X.env)).any (·.1) = false := by rfl)
    (ht : eval (.Call (.Attribute o m apos) (e :: es) [] pos) X.env = (do
      let ov ← eval o X.env
      standAt apos.atName
      let (f, first) ← holding [ov] (getMethod ov m pl)
      callWith pos f first (backTo pos (starEach (e :: es) X.env)) (backToKw pos (keywordEach [] X.env))) := by rfl) :
    PE X (.Call (.Attribute o m apos) (e :: es) [] pos) (tMeth C m sp dvs E ta t) := by
  intro pins s σ H Q I h
  refine PySem.W.methodCall_KW (pl := pl) (thn (he pins s σ H _ I h) fun u s1 ⟨x, H1, I1, rx, a, dx, fs, ex, ea, l, q⟩ => ?_) ht
  subst ex
  obtain rfl : u = Value.ref a := rx
  refine getmeth_ok I1 ea c hm l ?_
  refine PySem.W.callWith_K (first := [.ref a]) (h₀ := X.base) I.ok.mod.kin hm.kp (thn (ha pos pins s1 σ H1 _ I1 q) fun us s2 ⟨vs, H2, I2, r, q2⟩ => ⟨I2.kIn, ?_⟩) hst hpl
  exact run_fn (us := .ref a :: us) (vs := .ref a :: vs) F hr hb hd hx I2 (.cons rfl r) q2
/-- o.m() -/
theorem pe_meth0 {pl : Sem Bool} (he : PE X o ta) (c : Cls X.K C) (hm : Meth X.K C m f) (F : FnOk X.prog X.w X.K X.mg X.base CX k f fd ps sp) (hr : Room k X.A) (hb : Binds X.K fd ps ds) (hd : Vals dvs ds) (hx : Passes CX X E)
    (ht : eval (.Call (.Attribute o m apos) [] [] pos) X.env = (do
      let ov ← eval o X.env
      standAt apos.atName
      let (f, first) ← holding [ov] (getMethod ov m pl)
      callWith pos f first (backTo pos (starEach [] X.env)) (backToKw pos (keywordEach [] X.env))) := by rfl) :
    PE X (.Call (.Attribute o m apos) [] [] pos) (tMeth C m sp dvs E ta tNil) := by
  intro pins s σ H Q I h
  refine PySem.W.methodCall_KW (pl := pl) (thn (he pins s σ H _ I h) fun u s1 ⟨x, H1, I1, rx, a, dx, fs, ex, ea, l, q⟩ => ?_) ht
  subst ex
  obtain rfl : u = Value.ref a := rx
  refine getmeth_ok I1 ea c hm l ?_
  exact PySem.W.callWith_K0 (first := [.ref a]) I1.kIn hm.kp (run_fn (us := [.ref a]) (vs := [.ref a]) F hr hb hd hx I1 (.cons rfl .nil) q)

/-- what a class must have to be made -/
structure Mk (K : PySem.W.Frag) (C f : Addr) : Prop where
  makes : PySem.W.makesIn K C = true
  init : PySem.W.findIn K (.ref C) "__init__" = some (some (.ref f))
  fn : PySem.W.isFn K (.ref f) = true
  kp : PySem.W.keepIn K (.ref C) = true

theorem run_make {pins : List (Addr × Obj)} {σ : St} {H : Hp} {s : Shared} {Q : VK} {us : List Value} {vs : List V} (M : Mk X.K C f) (F : FnOk X.prog X.w X.K X.mg X.base CX k f fd ps sp) (hr : Room (k + 1) X.A) (hb : Binds X.K fd ps ds) (hd : Vals dvs ds)
    (hx : Passes CX X E) (I : Inv X pins σ H s) (r : Vals vs us)
    (h : ∀ x dx, H x = none → H dx = none → dx ≠ x → sp (.ref x :: (vs ++ dvs)) (upd (upd H dx (.own x)) x (.ins C dx [])) (fun v H2 => v = .non ∧ Q (.ref x) H2) E) :
    wpAny (model X.prog X.w) X.A (call (.ref C) us) (EP X pins σ Q) X.xe s := by
  have hq := h (s.heap.objs.size + 1) s.heap.objs.size (I.hok.fresh (Nat.le_succ _)) (I.hok.fresh (Nat.le_refl _)) (Nat.ne_of_lt (Nat.lt_succ_self _))
  have I2 := Inv.made (C := C) I
  have r2 : Vals (V.ref (s.heap.objs.size + 1) :: (vs ++ dvs)) (Value.ref (s.heap.objs.size + 1) :: (us ++ ds)) := .cons rfl (r.append hd)
  have hl : (Value.ref (s.heap.objs.size + 1) :: us ++ ds).length = ps.length := by
    have e := r2.length
    rw [F.len _ _ _ _ hq] at e
    exact e.symm
  refine wpAny_call (make_map (f := f) I.kIn M.makes M.init (beq_iff_eq.mp M.fn) (codeAny_mono (F.run _ X.stack _ _ ⟨Value.ref (s.heap.objs.size + 1) :: us, []⟩ (Value.ref (s.heap.objs.size + 1) :: (us ++ ds)) _ _ E (hr.make C us [])
    (I2.env0.make C us []) (hb _ (Value.ref (s.heap.objs.size + 1) :: us) I2.kIn hl) r2 hq) fun r s' hq' => ?_))
  cases r with
  | error e => exact hx pins σ _ _ e s' I2 hq'
  | ok fl =>
    cases fl with
    | ret u =>
      obtain ⟨v, H', I3, rv, ev, q3⟩ := I2.after hq'
      subst ev
      exact ⟨rv, ⟨V.ref (s.heap.objs.size + 1), H', I3, rfl, q3⟩⟩
    | next => exact False.elim hq'
    | brk => exact False.elim hq'
    | cont => exact False.elim hq'
theorem pe_make (M : Mk X.K C f) (F : FnOk X.prog X.w X.K X.mg X.base CX k f fd ps sp) (hr : Room (k + 1) X.A) (hg : Gl X x) (hm : X.mg x = some (.ref C)) (hb : Binds X.K fd ps ds) (hd : Vals dvs ds) (hx : Passes CX X E)
    (ha : PA X (e :: es) t) (hdb : (x == ("__debug__" : Str)) = false := by decide) (he : starEach (e :: es) X.env = (false, eval e X.env) :: starEach es X.env := by rfl) (hpl : (backTo pos (starEach es X.env)).any (·.1) = false := by rfl) :
    PE X (.Call (.Name x p) (e :: es) [] pos) (tMake C sp dvs E t) := by
  intro pins s σ H Q I h
  refine wpAny_Call_Name_kw (ld_glob I hg hm ?_ hdb)
  refine PySem.W.callWith_K (h₀ := X.base) I.ok.mod.kin M.kp (thn (ha pos pins s σ H _ I h) fun us s1 ⟨vs, H1, I1, r, q⟩ => ⟨I1.kIn, ?_⟩) he hpl
  exact run_make M F hr hb hd hx I1 r q
theorem pe_make0 (M : Mk X.K C f) (F : FnOk X.prog X.w X.K X.mg X.base CX k f fd ps sp) (hr : Room (k + 1) X.A) (hg : Gl X x) (hm : X.mg x = some (.ref C)) (hb : Binds X.K fd ps ds) (hd : Vals dvs ds) (hx : Passes CX X E)
    (hdb : (x == ("__debug__" : Str)) = false := by decide) : PE X (.Call (.Name x p) [] [] pos) (tMake C sp dvs E tNil) := by
  intro pins s σ H Q I h
  refine wpAny_Call_Name_kw (ld_glob I hg hm ?_ hdb)
  exact PySem.W.callWith_K0 I.kIn M.kp (run_make (us := []) M F hr hb hd hx I .nil h)
end

/-! ### keywords -/
/-- the values of the keywords, from the left -/
def PK (X : Cx) (kws : List Keyword) (t : TA) : Prop :=
  ∀ (pos : Pos) (pins : List (Addr × Obj)) (s : Shared) (σ : St) (H : Hp) (Q : List V → Hp → Prop), Inv X pins σ H s → t σ H Q → wpAny (model X.prog X.w) X.A (evalAll ((backToKw pos (keywordEach kws X.env)).map (·.2))) (AP X pins σ Q) X.xe s
section
variable {X : Cx} {CX : CXT} {k : Nat} {f C : Addr} {fd : FuncData} {ps ks : List Str} {sp : Sp} {E : XK} {x m : Str} {p pos apos kpos : Pos} {e o : Expr} {es : List Expr} {kws : List Keyword} {te ta : TE} {t tk : TA} {nm : Option Str}
theorem pk_nil : PK X [] tNil := fun _ _ _ _ H Q I h => wpAny_evalAll_nil ⟨[], H, I, .nil, h⟩
theorem pk_cons (ha : PE X e te) (hr : PK X kws t) : PK X (⟨nm, e, kpos⟩ :: kws) (tCons te t) := by
  intro pos pins s σ H Q I h
  show wpAny _ _ (evalAll ((do let v ← eval e X.env; standAt pos; pure v) :: (backToKw pos (keywordEach kws X.env)).map (·.2))) _ _ s
  refine wpAny_evalAll_cons (wpAny_bind (thn (ha pins s σ H _ I h) fun u s1 ⟨x, H1, I1, r1, q1⟩ => wpAny_bind (wpAny_standAt (wpAny_pure ?_))))
  exact thn (hr pos pins s1 σ H1 _ I1 q1) fun us s2 ⟨xs, H2, I2, r2, q2⟩ => ⟨x :: xs, H2, I2, .cons r1 r2, q2⟩

/-- how a call with keywords binds: g puts the positional values us and the keywords' values ws (names ks) in the parameters' order, defaults among them -/
structure KBinds (K : PySem.W.Frag) (fd : FuncData) (ps ks : List Str) (g : List Value → List Value → List Value) (gV : List V → List V → List V) : Prop where
  to : ∀ (s : Shared) (us ws : List Value), K.In s.heap → (g us ws).length = ps.length → BindsTo s fd ⟨us, ks.zip ws⟩ (ps.zip (g us ws))
  rel : ∀ {vs : List V} {us : List Value} {zs : List V} {ws : List Value}, Vals vs us → Vals zs ws → Vals (gV vs zs) (g us ws)
def tCallK (sp : Sp) (gV : List V → List V → List V) (E : XK) (t tk : TA) : TE := fun σ H Q => t σ H fun vs H1 => tk σ H1 fun zs H2 => sp (gV vs zs) H2 Q E
variable {g : List Value → List Value → List Value} {gV : List V → List V → List V}
theorem run_fnk {pins : List (Addr × Obj)} {σ : St} {H : Hp} {s : Shared} {Q : VK} {us ws : List Value} {vs zs : List V} (F : FnOk X.prog X.w X.K X.mg X.base CX k f fd ps sp) (hr : Room k X.A) (hb : KBinds X.K fd ps ks g gV) (hx : Passes CX X E)
    (I : Inv X pins σ H s) (r : Vals vs us) (rz : Vals zs ws) (h : sp (gV vs zs) H Q E) : wpAny (model X.prog X.w) X.A (call (.ref f) us (ks.zip ws)) (EP X pins σ Q) X.xe s := by
  have r2 := hb.rel r rz
  have hl : (g us ws).length = ps.length := by rw [← r2.length]; exact F.len _ _ _ _ h
  refine wpAny_call (codeAny_mono (F.run X.A X.stack s H ⟨us, ks.zip ws⟩ (g us ws) (gV vs zs) Q E hr I.env0 (hb.to s us ws I.kIn hl) r2 h) fun r s' hq => ?_)
  cases r with
  | error e => exact hx pins σ H s e s' I hq
  | ok fl =>
    cases fl with
    | ret u => exact I.after hq
    | next => exact False.elim hq
    | brk => exact False.elim hq
    | cont => exact False.elim hq
/-- f(e, .., k = v, ..) -/
theorem pe_callK (F : FnOk X.prog X.w X.K X.mg X.base CX k f fd ps sp) (hr : Room k X.A) (hg : Gl X x) (hm : X.mg x = some (.ref f)) (hk : PySem.W.keepIn X.K (.ref f) = true) (hb : KBinds X.K fd ps ks g gV) (hx : Passes CX X E)
    (ha : PA X (e :: es) t) (hkw : PK X kws tk) (hall : (backToKw pos (keywordEach kws X.env)).all (·.1.isSome) = true := by rfl) (hks : (backToKw pos (keywordEach kws X.env)).filterMap (·.1) = ks := by rfl)
    (hdb : (x == ("__debug__" : Str)) = false := by decide) (he : starEach (e :: es) X.env = (false, eval e X.env) :: starEach es X.env := by rfl)
    (hpl : ((backTo pos (starEach (e :: es) X.env)).any (·.1) || (backToKw pos (keywordEach kws X.env)).any (·.1.isNone)) = false := by rfl) :
    PE X (.Call (.Name x p) (e :: es) kws pos) (tCallK sp gV E t tk) := by
  intro pins s σ H Q I h
  refine wpAny_Call_Name_kw (ld_glob I hg hm ?_ hdb)
  refine PySem.W.callWith_KW (h₀ := X.base) I.ok.mod.kin hk hall (thn (ha pos pins s σ H _ I h) fun us s1 ⟨vs, H1, I1, r, q⟩ => ?_) hpl he
  refine thn (hkw pos pins s1 σ H1 _ I1 q) fun ws s2 ⟨zs, H2, I2, rz, q2⟩ => ⟨I2.kIn, ?_⟩
  rw [hks]
  exact run_fnk F hr hb hx I2 r rz q2
end

/-! ### a def's body keeps its promise -/
/-- names: the parameters first -/
structure FnScope (N P : List Str) (sc : Scope) : Prop where
  kind : sc.kind = .function
  co : sc.isCoroutine = false
  gen : sc.isGenerator = false
  nd : N.Nodup
  pre : N.take P.length = P
  par : ∀ x ∈ P, sc.names.lookup x = some .local ∨ sc.names.lookup x = some .cell
  nofree : ∀ y ∈ sc.names, y.2 ≠ .free

theorem bindL_out {kindOf : Str → Option NameKind} {x : Str} : ∀ {binds : List (Str × Value)} {m : Str → Option Value}, (∀ v, (x, v) ∉ binds) → bindL kindOf binds m x = m x
  | [], _, _ => rfl
  | (n, v) :: r, m, h => by
    unfold bindL
    rw [bindL_out fun w hw => h w (List.mem_cons_of_mem _ hw)]
    split
    · have : x ≠ n := by rintro rfl; exact h v List.mem_cons_self
      simp [this]
    · rfl
theorem bindC_out {kindOf : Str → Option NameKind} {x : Str} : ∀ {binds : List (Str × Value)} {m : Str → Option Value}, (∀ v, (x, v) ∉ binds) → bindC kindOf binds m x = m x
  | [], _, _ => rfl
  | (n, v) :: r, m, h => by
    unfold bindC
    rw [bindC_out fun w hw => h w (List.mem_cons_of_mem _ hw)]
    split
    · rfl
    · have : x ≠ n := by rintro rfl; exact h v List.mem_cons_self
      simp [this]
theorem bindL_get {kindOf : Str → Option NameKind} {x : Str} {v : Value} : ∀ {P : List Str} {vs : List Value} {i : Nat} {m : Str → Option Value}, P.Nodup → P[i]? = some x → vs[i]? = some v → kindOf x = some .local →
    bindL kindOf (P.zip vs) m x = some v
  | [], _, _, _, _, h, _, _ => by simp at h
  | _ :: _, [], _, _, _, _, h, _ => by simp at h
  | p :: P, w :: vs, 0, m, nd, h1, h2, hk => by
    simp at h1 h2; subst h1; subst h2
    show bindL kindOf ((p, w) :: P.zip vs) m p = _
    unfold bindL
    rw [bindL_out fun v hv => (List.nodup_cons.mp nd).1 (List.of_mem_zip hv).1, if_pos hk]
    simp
  | p :: P, w :: vs, i + 1, m, nd, h1, h2, hk => by
    show bindL kindOf ((p, w) :: P.zip vs) m x = _
    unfold bindL
    exact bindL_get (i := i) (List.nodup_cons.mp nd).2 (by simpa using h1) (by simpa using h2) hk
theorem bindC_get {kindOf : Str → Option NameKind} {x : Str} {v : Value} : ∀ {P : List Str} {vs : List Value} {i : Nat} {m : Str → Option Value}, P.Nodup → P[i]? = some x → vs[i]? = some v → kindOf x ≠ some .local →
    bindC kindOf (P.zip vs) m x = some v
  | [], _, _, _, _, h, _, _ => by simp at h
  | _ :: _, [], _, _, _, _, h, _ => by simp at h
  | p :: P, w :: vs, 0, m, nd, h1, h2, hk => by
    simp at h1 h2; subst h1; subst h2
    show bindC kindOf ((p, w) :: P.zip vs) m p = _
    unfold bindC
    rw [bindC_out fun v hv => (List.nodup_cons.mp nd).1 (List.of_mem_zip hv).1, if_neg hk]
    simp
  | p :: P, w :: vs, i + 1, m, nd, h1, h2, hk => by
    show bindC kindOf ((p, w) :: P.zip vs) m x = _
    unfold bindC
    exact bindC_get (i := i) (List.nodup_cons.mp nd).2 (by simpa using h1) (by simpa using h2) hk

/-- the names' values at the entry -/
def start (N : List Str) (vs : List V) : St := vs.map some ++ List.replicate (N.length - vs.length) none

/-- the context of a def's body, at its entry; an exception leaves the frame, then lies as CX says -/
def cxOf (CX : CXT) (P : Program) (w : World) (K : PySem.W.Frag) (mg : Str → Option Value) (base : Heap) (N : List Str) (qual : Str) (scope : Scope) (f : Addr) (cd : Value) (A : Around) (outer : List Env) (s : Shared) (H : Hp) (E : XK) : Cx where
  prog := P
  w := w
  K := K
  mg := mg
  base := base
  A := A.deeper (envOfC qual scope s.heap.objs.size f cd)
  N := N
  s₀ := s
  H₀ := H
  env := envOfC qual scope s.heap.objs.size f cd
  outer := outer
  stack := envOfC qual scope s.heap.objs.size f cd :: outer
  ex := []
  calm := true
  fn := fun _ => true
  pn := []
  xe := fun e s' => wpAny (model P w) (A.deeper (envOfC qual scope s.heap.objs.size f cd)) (leaving (envOfC qual scope s.heap.objs.size f cd) e) (fun _ s'' => CX outer H s E e s'') (fun e' s'' => CX outer H s E e' s'') s'

theorem cell_has {sc : Scope} {n : Nat} {x : Str} (h : sc.names.lookup x = some .cell) : ∃ c, (cellsFrom n sc.names []).lookup x = some c := by
  have q := PySem.W.cellsFrom_some sc.names n [] (.inl h)
  exact Option.isSome_iff_exists.mp q

theorem inv_start {CX : CXT} {P : Program} {w : World} {K : PySem.W.Frag} {mg : Str → Option Value} {base : Heap} {N ps : List Str} {qual : Str} {scope : Scope} {f : Addr} {cd : Value} {A : Around} {outer : List Env} {s s1 : Shared} {H : Hp} {E : XK} {us : List Value} {vs : List V}
    (S : FnScope N ps scope) (hd : A.handled = none) (e0 : Env0 P w K mg base A outer s H) (hl : vs.length = ps.length) (r : Vals vs us)
    (x : InCallC s s.heap.objs.size (bindL (envOfC qual scope s.heap.objs.size f cd).kindOf (ps.zip us) fun _ => none) (cellsFrom (s.heap.objs.size + 1) scope.names []) (bindC (envOfC qual scope s.heap.objs.size f cd).kindOf (ps.zip us) fun _ => none) s1) :
    Inv (cxOf CX P w K mg base N qual scope f cd A outer s H E) [] (start N vs) H s1 := by
  have hpl : ps.length ≤ N.length := by have := congrArg List.length S.pre; rw [List.length_take] at this; omega
  obtain ⟨h1, tk, rfl, hk⟩ := x.done
  have noA : ∀ b : Addr, b ∉ (cxOf CX P w K mg base N qual scope f cd A outer s H E).ex := fun b z => absurd (show b ∈ ([] : List Addr) from z) (by simp)
  refine ⟨⟨e0.mod, S.kind, rfl, rfl, Nat.le_refl _, fun y z c h1 h2 => ?_, fun y hy => ?_, fun y c _ h => ?_, fun _ => hd, Around.frames_deeper e0.frames, .inr ⟨rfl, rfl⟩, fun b z => absurd z (noA b), e0.bs, e0.bsz, fun b _ _ => noA b, fun b z => absurd z (noA b), e0.funs, e0.frf⟩,
    rfl, e0.bare, Un.kept hk, ⟨_, x.toInCall.ns, fun i y v h1 h2 h3 => ?_⟩, fun y c h => ⟨_, x.cell y c h⟩, e0.hok.fresh (Nat.le_refl _), fun y c h => ?_, fun p hp => absurd (show p ∈ ([] : List (Addr × Obj)) from hp) (by simp), e0.hok.kept hk, ?_⟩
  · exact name_of_addr x.apart (PySem.mem_of_lookup h1) (PySem.mem_of_lookup h2)
  · have hy : scope.names.lookup y = some .cell ∨ scope.names.lookup y = some .free := hy
    rcases hy with hy | hy
    · exact cell_has hy
    · exact absurd rfl (S.nofree _ (PySem.mem_of_lookup hy))
  · exact Nat.le_of_lt (x.above y c (PySem.mem_of_lookup h))
  · have hi : i < vs.length := by
      unfold start at h2
      by_cases hi : i < vs.length
      · exact hi
      · rw [List.getElem?_append_right (by simpa using hi)] at h2
        rw [List.getElem?_replicate] at h2
        split at h2 <;> cases h2
    have ha : vs[i]? = some v := by
      unfold start at h2
      rw [List.getElem?_append_left (by simpa using hi), List.getElem?_map] at h2
      cases e : vs[i]? with
      | none => rw [e] at h2; cases h2
      | some a => rw [e] at h2; cases h2; rfl
    obtain ⟨u, hu, rv⟩ := r.get ha
    have hp : ps[i]? = some y := by
      rw [← S.pre, List.getElem?_take_of_lt (by omega)]; exact h1
    have ndP : ps.Nodup := by rw [← S.pre]; exact S.nd.sublist (List.take_sublist _ _)
    refine ⟨u, rv, ?_⟩
    rcases S.par y (List.mem_of_getElem? hp) with k | k
    · exact .inl ⟨k, bindL_get ndP hp hu k⟩
    · obtain ⟨c, e⟩ := cell_has (n := s.heap.objs.size + 1) k
      refine .inr ⟨.inl k, c, e, ?_⟩
      have q := x.cell y c e
      rw [bindC_get ndP hp hu (by show scope.names.lookup y ≠ _; rw [k]; decide)] at q
      exact q
  · exact e0.hok.fresh (Nat.le_of_lt (x.above y c (PySem.mem_of_lookup h)))
  · unfold start
    show _ = N.length
    rw [List.length_append, List.length_map, List.length_replicate]
    omega

/-- THE RULE: a def (or a method) of the text, by its body. The body's reading t is chosen for each entry; it is run at the parameters' values -/
theorem fn_of {CX : CXT} {P : Program} {w : World} {K : PySem.W.Frag} {mg : Str → Option Value} {base : Heap} {k : Nat} {f : Addr} {name qual : Str} {params : Arguments} {body : List Stmt} {scope : Scope} {dV kV doc pm cdv ct oc : Value} {an od : Option Addr}
    {osl : Array (Option Value)} {N ps : List Str} {sp : Sp} (lk : K.lookup f = some ⟨oc, od, .func (PySem.W.fnOf name qual params body scope dV kV doc pm an cdv ct), osl⟩) (hcd : PySem.W.codeIn K cdv qual = true) (S : FnScope N ps scope)
    (len : ∀ vs H Q E, sp vs H Q E → vs.length = ps.length)
    (hbody : ∀ (A : Around) (outer : List Env) (s : Shared) (H : Hp) (vs : List V) (Q : VK) (E : XK), Room k (A.deeper (envOfC qual scope s.heap.objs.size f cdv)) → sp vs H Q E →
      ∃ t, PSs (cxOf CX P w K mg base N qual scope f cdv A outer s H E) body t ∧ t { nx := fun _ H' => Q .non H', rt := Q } (start N vs) H) :
    FnOk P w K mg base CX (k + 1) f (PySem.W.fnOf name qual params body scope dV kV doc pm an cdv ct) ps sp := by
  refine ⟨len, fun A outer s H args us vs Q E hr e0 hb r hsp => ?_⟩
  have hl := len _ _ _ _ hsp
  have KX : K.In s.heap := e0.mod.kin.keeps fun b o e => (e0.bs b o e).1
  have lim : s.heap.NoLimit := e0.mod.nolimit.keeps fun b o e => (e0.bs b o e).1
  have hkind : ∀ y ∈ ps.zip us, scope.names.lookup y.1 = some .local ∨ (scope.names.lookup y.1 = some .cell ∧ ((cellsFrom (s.heap.objs.size + 1) scope.names []).lookup y.1).isSome = true) := fun ⟨n, v⟩ hy => by
    rcases S.par n (List.of_mem_zip hy).1 with q | q
    · exact .inl q
    · exact .inr ⟨q, PySem.W.cellsFrom_some _ _ _ (.inl q)⟩
  refine codeAny_call_function hr.depth (KX _ _ lk) rfl S.co S.gen rfl (PySem.W.codeRec_of KX hcd) (hb _ _ _ _ ?_)
  refine wpAny_newFunctionEnv_cells S.kind hkind fun env he s1 x => ?_
  subst he
  refine ⟨lim.keeps x.toInCall.keep, codeAny_func ?_⟩
  obtain ⟨t, ht, hq⟩ := hbody A outer s H vs Q E (hr.deeper _) hsp
  have I : Inv (cxOf CX P w K mg base N qual scope f cdv A outer s H E) [] (start N vs) H s1 := inv_start S hr.hd e0 hl r x
  refine wpAny_mono (ht [] s1 (start N vs) H _ I hq) (fun fl s' hs => ?_) fun e s' hs => hs
  have fin : ∀ {σ' : St} {H' : Hp} {v : V} {u : Value}, Inv (cxOf CX P w K mg base N qual scope f cdv A outer s H E) [] σ' H' s' → RelV v u → Q v H' → CE outer P w H s Q u s' :=
    fun {σ' H' v u} J rv q => ⟨v, H', J.os, J.bare, J.base, J.hok, rv, q⟩
  cases fl with
  | ret u =>
    obtain ⟨v, σ', H', J, rv, q⟩ := hs
    exact fin J rv q
  | next =>
    obtain ⟨σ', H', J, q⟩ := hs
    exact fin (v := V.non) (u := Value.none) J rfl q
  | brk =>
    obtain ⟨_, _, _, q⟩ := hs
    exact False.elim q
  | cont =>
    obtain ⟨_, _, _, q⟩ := hs
    exact False.elim q
end L2

namespace L2
open PySem PySem.Spec PyProof.Rows
section
variable {X : Cx} {x : Str} {p pos : Pos} {e : Expr} {es : List Expr} {t : TA} {id T : String} {r : List V → Hp → VK → Prop}

def tCB (r : List V → Hp → VK → Prop) (t : TA) : TE := fun σ H Q => t σ H fun vs H1 => r vs H1 Q
/-- f(e, ..), f a built-in function -/
theorem pe_callB (hc : CallR X (.builtin id) r) (hg : Gl X x) (hm : X.mg x = none) (hv : bootBuiltins x = some (.builtin id)) (ha : PA X (e :: es) t) (hn : x ≠ "__name__" := by decide) (hdb : (x == ("__debug__" : Str)) = false := by decide)
    (he : starEach (e :: es) X.env = (false, eval e X.env) :: starEach es X.env := by rfl) (hpl : (backTo pos (starEach es X.env)).any (·.1) = false := by rfl) : PE X (.Call (.Name x p) (e :: es) [] pos) (tCB r t) := by
  intro pins s σ H Q I h
  refine wpAny_Call_Name_kw (ld_blt I hg hm hv ?_ hn hdb)
  exact PyProof.Rows.callWith_builtin1 (thn (ha pos pins s σ H _ I h) fun us s1 ⟨vs, H1, I1, r1, q1⟩ => hc pins s1 σ H1 vs us Q I1 r1 q1) he hpl
/-- T(e, ..), T a built-in type -/
theorem pe_callTy (hc : CallR X (.type T) r) (hg : Gl X x) (hm : X.mg x = none) (hv : bootBuiltins x = some (.type T)) (ha : PA X (e :: es) t) (hn : x ≠ "__name__" := by decide) (hdb : (x == ("__debug__" : Str)) = false := by decide)
    (he : starEach (e :: es) X.env = (false, eval e X.env) :: starEach es X.env := by rfl) (hpl : (backTo pos (starEach es X.env)).any (·.1) = false := by rfl) : PE X (.Call (.Name x p) (e :: es) [] pos) (tCB r t) := by
  intro pins s σ H Q I h
  refine wpAny_Call_Name_kw (ld_blt I hg hm hv ?_ hn hdb)
  exact PyProof.Rows.callWith_type1 (thn (ha pos pins s σ H _ I h) fun us s1 ⟨vs, H1, I1, r1, q1⟩ => hc pins s1 σ H1 vs us Q I1 r1 q1) he hpl
/-- T() -/
theorem pe_callTy0 (hc : CallR X (.type T) r) (hg : Gl X x) (hm : X.mg x = none) (hv : bootBuiltins x = some (.type T)) (hn : x ≠ "__name__" := by decide) (hdb : (x == ("__debug__" : Str)) = false := by decide) :
    PE X (.Call (.Name x p) [] [] pos) (tCB r tNil) := by
  intro pins s σ H Q I h
  refine wpAny_Call_Name_kw (ld_blt I hg hm hv ?_ hn hdb)
  exact PyProof.Rows.callWith_type0 (hc pins s σ H [] [] Q I .nil h)
end
end L2

namespace HT
open PySem PyProof.Rows

/-- t < u of tuples of ints -/
def lexLt : List Int → List Int → Bool
  | [], [] => false
  | [], _ :: _ => true
  | _ :: _, [] => false
  | x :: xs, y :: ys => if x = y then lexLt xs ys else decide (x < y)
theorem lexLt_cons (x y : Int) (xs ys : List Int) : lexLt (x :: xs) (y :: ys) = if x = y then lexLt xs ys else decide (x < y) := rfl
theorem lexLt_nil_nil : lexLt [] [] = false := rfl
theorem lexLt_nil_cons (y : Int) (ys : List Int) : lexLt [] (y :: ys) = true := rfl
theorem lexLt_cons_nil (x : Int) (xs : List Int) : lexLt (x :: xs) [] = false := rfl

theorem eqAt_int (A : Around) (s : Shared) (a : Int) (t : Tok) (c : Int) (u : Tok) : ∃ e, SeqAt.EqAt A s (.int a t) (.int c u) e ∧ (e = true ↔ a = c) :=
  ⟨(a == c), SeqAt.EqAt.int_int a t c u, by simp⟩
theorem rcLt_int (A : Around) (s : Shared) (a : Int) (t : Tok) (c : Int) (u : Tok) (prog : Program) (w : World) (E : Value → Shared → Prop) (Q : Value → Shared → Prop) (h : Q (.bool (decide (a < c))) s) :
    wpAny (model prog w) A (richCompare .Lt (.int a t) (.int c u)) Q E s :=
  (PyProof.Rows.lt_int h : wpAny (model prog w) A (compareOp .Lt (.int a t) (.int c u)) Q E s)

section
open PySem.SeqAt
open PySem.AutoSeq1 (wpAny_loadPart')
open PySem.MeetsSeq PySem.MeetsSeq2 PySem.MeetsSeq3

theorem tuple_lt_ints (l b : Addr) (items items2 : Array Value) (n n2 : Nat) (dd dd2 : Option Addr) (sl sl2 : Array (Option Value)) (ns ms : List Int) (hi : IntsAre items.toList ns) (hj : IntsAre items2.toList ms) :
    Meets (Builtin.«tuple.__lt__» ⟨[.ref l, .ref b], []⟩)
      (fun _ R s => s.heap.get? l = some { cls := .type "tuple", dict := dd, data := .seq items n, slots := sl } ∧ s.heap.get? b = some { cls := .type "tuple", dict := dd2, data := .seq items2 n2, slots := sl2 } ∧
        R (.ok (.ret (.bool (lexLt ns ms)))) s) :=
  .of_wp fun prog w A R s h => by
    obtain ⟨hp, g, d, tk, os⟩ := s; obtain ⟨hl, hb, h⟩ := h
    have f2 := AutoSeq1.sub_tuple_tuple
    have z1 : items.size = ns.length := by rw [← hi.length]; simp
    have z2 : items2.size = ms.length := by rw [← hj.length]; simp
    wp_walk using wpAny_loadPart' hl, wpAny_loadPart' hb, wpAny_forIn_list _ (fun rest b s' => b.1 = none ∧ s' = ⟨hp, g, d, tk, os⟩ ∧ ∃ (vs ws : List Value) (ns' ms' : List Int), rest = vs.zip ws ∧
      IntsAre vs ns' ∧ IntsAre ws ms' ∧ ns'.length + items2.size = ms'.length + items.size ∧ R (.ok (.ret (.bool (lexLt ns' ms')))) ⟨hp, g, d, tk, os⟩) _
    case turn =>
      rintro ⟨y, x⟩ rest b s' ⟨hb', rfl, vs, ws, ns', ms', hz, hvi, hwi, hlen, hR⟩
      cases hvi with
      | nil => rw [List.zip_nil_left] at hz; cases hz
      | cons a t hvi' =>
        cases hwi with
        | nil => rw [List.zip_nil_right] at hz; cases hz
        | cons c u hwi' =>
          rw [List.zip_cons_cons] at hz
          injection hz with hyx hrest
          injection hyx with hy hx
          subst hy hx
          rw [lexLt_cons] at hR
          simp only [List.length_cons] at hlen
          obtain ⟨e, he, hiff⟩ := eqAt_int A.in1 ⟨hp, g, d, tk, os⟩ a t c u
          refine wpAny_bind (he prog w _ _ ?_)
          cases e with
          | true =>
            rw [if_pos (hiff.mp rfl)] at hR
            wp_walk
            exact ⟨rfl, rfl, _, _, _, _, hrest, hvi', hwi', by omega, hR⟩
          | false =>
            rw [if_neg (fun q => absurd (hiff.mpr q) Bool.false_ne_true)] at hR
            have hri := rcLt_int A.in1 ⟨hp, g, d, tk, os⟩ a t c u prog w
            wp_walk using hri
            exact ⟨_, rfl, by simpa using hR⟩
    case fin =>
      rintro ⟨b1, b2⟩ s' ⟨hb', rfl, vs, ws, ns', ms', hz, hvi, hwi, hlen, hR⟩
      simp only at hb'
      subst hb'
      have hv : lexLt ns' ms' = decide (items.size < items2.size) := by
        cases hvi with
        | nil =>
          cases hwi with
          | nil =>
            simp only [List.length_nil] at hlen
            rw [lexLt_nil_nil]
            exact (decide_eq_false (by omega)).symm
          | cons c u hw =>
            simp only [List.length_nil, List.length_cons] at hlen
            rw [lexLt_nil_cons]
            exact (decide_eq_true (by omega)).symm
        | cons a t hv =>
          cases hwi with
          | nil =>
            simp only [List.length_nil, List.length_cons] at hlen
            rw [lexLt_cons_nil]
            exact (decide_eq_false (by omega)).symm
          | cons c u hw =>
            rw [List.zip_cons_cons] at hz
            cases hz
      rw [hv] at hR
      wp_walk
      exact ⟨_, rfl, by simpa [Builtin.Tuple.tupleCompareSizes] using hR⟩
    case h =>
      exact ⟨rfl, rfl, items.toList, items2.toList, ns, ms, rfl, hi, hj, by omega, h⟩
end

section
variable {prog : Program} {w : World} {A : Around} {E : Value → Shared → Prop} {s : Shared}

theorem lt_tupInts {l b : Addr} {items items2 : Array Value} {ns ms : List Int} {Q : Value → Shared → Prop} (hl : IsTup s.heap l items) (hb : IsTup s.heap b items2) (hi : IntsAre items.toList ns) (hj : IntsAre items2.toList ms)
    (hu : A.units < cLine) (h : Q (.bool (lexLt ns ms)) s) : wpAny (model prog w) A (compareOp .Lt (.ref l) (.ref b)) Q E s := by
  obtain ⟨⟨cls, dd, data, sl⟩, ho, hc, n, hd⟩ := id hl
  obtain ⟨⟨cls2, dd2, data2, sl2⟩, ho2, hc2, n2, hd2⟩ := id hb
  simp only at hc hd hc2 hd2
  subst hc hd hc2 hd2
  exact richCompare_meets_room (op := .Lt) ⟨_, ho, rfl⟩ ⟨_, ho2, rfl⟩ PySem.F.slot_tuple_lt PySem.F.entry_tuple_lt (PySem.F.args_tuple_lt_2 _ _) (tuple_lt_ints l b items items2 n n2 dd dd2 sl sl2 ns ms hi hj)
    ⟨ho, ho2, show Value.bool (lexLt ns ms) ≠ Value.notImplemented ∧ Q (.bool (lexLt ns ms)) s from ⟨(fun x => nomatch x), h⟩⟩ hu

/-- t + u, t not empty -/
theorem cat_tup {t b : Addr} {vs ws : List Value} {Q : Value → Shared → Prop} (ht : IsTup s.heap t vs.toArray) (hb : IsTup s.heap b ws.toArray) (hv : vs ≠ [])
    (h1 : ws = [] → Q (.ref t) s) (h2 : ws ≠ [] → Q (.ref s.heap.objs.size) { s with heap := s.heap.push { cls := .type "tuple", data := .seq (vs ++ ws).toArray } })
    (hsz : vs.length + ws.length ≤ sizeLine) : wpAny (model prog w) A (binaryOp .Add (.ref t) (.ref b)) Q E s := by
  obtain ⟨⟨cls, dd, data, sl⟩, ho, hc, n, hd⟩ := id ht
  obtain ⟨⟨cls2, dd2, data2, sl2⟩, ho2, hc2, n2, hd2⟩ := id hb
  simp only at hc hd hc2 hd2
  subst hc hd hc2 hd2
  have e : vs.toArray ++ ws.toArray = (vs ++ ws).toArray := by simp
  by_cases hw : ws = []
  · exact concat_meets ⟨_, ho, rfl⟩ ⟨_, ho2, rfl⟩ noFill_tuple_add seq_tuple_add PySem.F.slot_tuple_add PySem.F.entry_tuple_add (PySem.F.args_tuple_add_2 _ _)
      (tuple_addW1 t b vs.toArray ws.toArray n n2 dd dd2 sl sl2 (by simpa using hv) (by simp [hw])) ⟨ho, ho2, h1 hw⟩
  · refine concat_meets ⟨_, ho, rfl⟩ ⟨_, ho2, rfl⟩ noFill_tuple_add seq_tuple_add PySem.F.slot_tuple_add PySem.F.entry_tuple_add (PySem.F.args_tuple_add_2 _ _)
      (tuple_addW2 t b vs.toArray ws.toArray n n2 dd dd2 sl sl2 (by simpa using hv) (by simpa using hw) (by rw [List.size_toArray, List.size_toArray]; exact hsz)) ⟨ho, ho2, ?_⟩
    rw [e]
    exact h2 hw

/-! ### t[a:b], not the whole -/
/-- a slice's bound as a place among n (d where it is left out) -/
def sIx (n d : Nat) : Option Int → Nat
  | none => d
  | some v => if v < 0 then (v + (n : Int)).toNat else min v.toNat n
theorem sIx_none (n d : Nat) : sIx n d none = d := rfl
theorem sIx_nat (n d k : Nat) : sIx n d (some (k : Int)) = min k n := by
  show (if (k : Int) < 0 then ((k : Int) + (n : Int)).toNat else min (k : Int).toNat n) = min k n
  rw [if_neg (by omega), Int.toNat_natCast]
theorem sIx_le (n d : Nat) (hd : d ≤ n) (o : Option Int) : sIx n d o ≤ n := by
  cases o with
  | none => exact hd
  | some v =>
    show (if v < 0 then (v + (n : Int)).toNat else min v.toNat n) ≤ n
    by_cases hv : v < 0
    · rw [if_pos hv]; omega
    · rw [if_neg hv]; exact Nat.min_le_right _ _
theorem clip_eq (v : Int) (n d : Nat) : (if v < 0 then max (v + (n : Int)) 0 else min v (n : Int)) = ((sIx n d (some v) : Nat) : Int) := by
  show (if v < 0 then max (v + (n : Int)) 0 else min v (n : Int)) = (((if v < 0 then (v + (n : Int)).toNat else min v.toNat n) : Nat) : Int)
  by_cases hv : v < 0
  · simp only [if_pos hv]; omega
  · simp only [if_neg hv]; omega
theorem adjust_gen (lo hi : Option Int) (n : Nat) : Builtin.Slice.sliceAdjust lo hi 1 (n : Int) = (((sIx n 0 lo : Nat) : Int), ((sIx n n hi : Nat) : Int)) := by
  have h1 : ¬ ((1 : Int) < 0) := by omega
  unfold Builtin.Slice.sliceAdjust
  simp only [h1, if_false]
  refine Prod.ext ?_ ?_
  · cases lo with
    | none => rfl
    | some v => exact clip_eq v n 0
  · cases hi with
    | none => rfl
    | some v => exact clip_eq v n n
theorem places_gen (i j : Nat) : Builtin.Slice.slicePlaces (i : Int) (j : Int) 1 = j - i := by
  unfold Builtin.Slice.slicePlaces
  have h1 : (1 : Int) > 0 := by omega
  simp only [h1, if_true, Int.ediv_one]
  split <;> omega
theorem slicePart_ {v : Value} {o : Option Int} {Q : Option Int → Shared → Prop} (p : IsPart v o) (h : Q o s) : wpAny (model prog w) A (Builtin.Slice.slicePartIndex v) Q E s := by
  cases p with
  | none => exact slicePart_none h
  | int i t => exact slicePart_int h
theorem sliceApplied_gen {sl : Addr} {vl vu : Value} {lo hi : Option Int} {n : Nat} {Q : Int × Int × Nat → Shared → Prop} (hs : s.heap.IsSliceOf sl vl vu .none) (pl : IsPart vl lo) (pu : IsPart vu hi)
    (h : Q (((sIx n 0 lo : Nat) : Int), 1, sIx n n hi - sIx n 0 lo) s) : wpAny (model prog w) A (Builtin.Slice.sliceApplied (.ref sl) (pure (n : Int))) Q E s := by
  obtain ⟨os, hos, hcs, hds⟩ := id hs
  unfold Builtin.Slice.sliceApplied Builtin.Slice.sliceFields
  refine wpAny_bind (wpAny_bind (wpAny_field hos hds (x := vl) rfl (wpAny_bind (wpAny_field hos hds (x := vu) rfl (wpAny_bind (wpAny_field hos hds (x := .none) rfl (wpAny_pure ?_)))))))
  refine wpAny_bind (slicePart_none ?_)
  show wpAny _ _ (if ((1 : Int) == 0) = true then _ else _) _ _ s
  rw [if_neg (by decide)]
  refine wpAny_bind (slicePart_ pl (wpAny_bind (slicePart_ pu (wpAny_bind (wpAny_pure ?_)))))
  show wpAny _ _ (match Builtin.Slice.sliceAdjust lo hi 1 (n : Int) with | (lo, hi) => pure (lo, (1 : Int), Builtin.Slice.slicePlaces lo hi 1)) _ _ s
  rw [adjust_gen lo hi n]
  show wpAny _ _ (pure (((sIx n 0 lo : Nat) : Int), (1 : Int), Builtin.Slice.slicePlaces ((sIx n 0 lo : Nat) : Int) ((sIx n n hi : Nat) : Int) 1)) _ _ s
  rw [places_gen]
  exact wpAny_pure h
theorem pick_gen (xs : Array Value) (i k : Nat) : ((List.range k).filterMap fun (m : Nat) => xs[((i : Int) + (m : Int) * 1).toNat]?).toArray = ((xs.toList.drop i).take k).toArray := by
  have e : (fun (m : Nat) => xs[((i : Int) + (m : Int) * 1).toNat]?) = fun m => xs[i + m]? := by
    funext m
    have : ((i : Int) + (m : Int) * 1).toNat = i + m := by omega
    rw [this]
  rw [e]
  have := pick_run xs i k
  rw [List.filterMap_map] at this
  have e2 : ((fun x => xs[x]?) ∘ fun x => i + x) = fun m => xs[i + m]? := rfl
  rw [e2] at this
  rw [this]

theorem getItem_tuple_cut {t sl : Addr} {items : Array Value} {vl vu : Value} {lo hi : Option Int} {Q : Value → Shared → Prop} (ht : IsTup s.heap t items) (hs : s.heap.IsSliceOf sl vl vu .none) (pl : IsPart vl lo) (pu : IsPart vu hi)
    (hw : ¬ (sIx items.size 0 lo = 0 ∧ sIx items.size items.size hi = items.size))
    (h : Q (.ref s.heap.objs.size) { s with heap := s.heap.push { cls := .type "tuple", data := .seq ((items.toList.drop (sIx items.size 0 lo)).take (sIx items.size items.size hi - sIx items.size 0 lo)).toArray } })
    (hsz : items.size ≤ sizeLine) : wpAny (model prog w) A (getItem (.ref t) (.ref sl)) Q E s := by
  have htake : sizeOk (.seq ((items.toList.drop (sIx items.size 0 lo)).take (sIx items.size items.size hi - sIx items.size 0 lo)).toArray) := by
    show ((items.toList.drop (sIx items.size 0 lo)).take (sIx items.size items.size hi - sIx items.size 0 lo)).toArray.size ≤ sizeLine
    rw [List.size_toArray, List.length_take, List.length_drop, Array.length_toList]
    omega
  have hj : sIx items.size items.size hi ≤ items.size := sIx_le _ _ (Nat.le_refl _) hi
  obtain ⟨os, hos, hcs, hds⟩ := id hs
  have hTs : s.TypeIs (.ref sl) "slice" := ⟨os, hos, hcs⟩
  unfold getItem
  try with_reducible refine wpAny_holding ?_
  first | refine wpAny_bind (wpAny_pure ?_) | skip
  refine wpAny_bind (wpAny_sequenceKey ht.typeIs (by decide) ?_)
  refine wpAny_bind (wpAny_callSpecial?_slot (name := Str.ofString "__getitem__") ht.typeIs PyProof.Rows.slot_tuple_getitem
    (wpAny_call_entry PyProof.Rows.slot_tuple_getitem ht.typeIs entry_tuple_getitem ?_ (args_tuple_getitem _ _)))
  show wpAny _ _ (Builtin.Tuple.tupleItemsOf (.ref t) >>= _) _ _ s
  refine wpAny_bind (tupleItemsOf_ ht ?_)
  refine wpAny_bind (wpAny_typeOf hTs ?_)
  rw [if_pos (by decide)]
  refine wpAny_bind (sliceApplied_gen hs pl pu ?_)
  have hno : ¬ ((((sIx items.size 0 lo : Nat) : Int) == 0 && (1 : Int) == 1 && (sIx items.size items.size hi - sIx items.size 0 lo) == items.size) = true) := by
    intro q
    rw [Bool.and_eq_true, Bool.and_eq_true] at q
    have q1 : ((sIx items.size 0 lo : Nat) : Int) = 0 := eq_of_beq q.1.1
    have q2 : sIx items.size items.size hi - sIx items.size 0 lo = items.size := eq_of_beq q.2
    exact hw ⟨by omega, by omega⟩
  show wpAny _ _ (if (((sIx items.size 0 lo : Nat) : Int) == 0 && (1 : Int) == 1 && (sIx items.size items.size hi - sIx items.size 0 lo) == items.size) = true then _ else _) _ _ s
  rw [if_neg hno, pick_gen]
  first
    | exact wpAny_bind (m := Builtin.Tuple.tupleExact _) (wpAny_newObj_type (wpAny_pure ⟨_, rfl, wpAny_pure h⟩) htake)
    | exact wpAny_bind (m := Builtin.Tuple.tupleExact _) (wpAny_newObj_type (wpAny_bind (wpAny_pure (wpAny_pure ⟨_, rfl, wpAny_pure h⟩))) htake)
    | exact wpAny_bind (wpAny_bind (m := Builtin.Tuple.tupleExact _) (wpAny_newObj_type (wpAny_pure (wpAny_pure ⟨_, rfl, wpAny_pure h⟩)) htake))
    | exact wpAny_bind (wpAny_bind (m := Builtin.Tuple.tupleExact _) (wpAny_newObj_type (wpAny_pure ⟨_, rfl, wpAny_pure h⟩) htake))
end
end HT

namespace L2
open PySem PySem.Spec PyProof.Rows

/-! ### the parts of a slice -/
abbrev TO := St → Hp → (Option Int → Hp → Prop) → Prop
/-- a slice's part (left out, or an int) -/
def PO (X : Cx) (e : Option Expr) (t : TO) : Prop :=
  ∀ (pins : List (Addr × Obj)) (s : Shared) (σ : St) (H : Hp) (Q : Option Int → Hp → Prop), Inv X pins σ H s → t σ H Q →
    wpAny (model X.prog X.w) X.A (evalPart e X.env) (fun u s' => ∃ o H', Inv X pins σ H' s' ∧ IsPart u o ∧ Q o H') X.xe s
def tNoPart : TO := fun _ H Q => Q none H
def tPart (t : TE) : TO := fun σ H Q => t σ H fun x H1 => ∃ i, x = .int i ∧ Q (some i) H1

theorem intsAre_of {ns : List Int} : ∀ {us : List Value}, Vals (ns.map V.int) us → IntsAre us ns := by
  induction ns with
  | nil => intro us r; rw [List.map_nil] at r; cases r; exact .nil
  | cons n ns ih =>
    intro us r
    rw [List.map_cons] at r
    cases r with
    | cons r1 r2 =>
      obtain ⟨t, e⟩ := r1
      subst e
      exact .cons n t (ih r2)

section
variable {X : Cx} {e : Expr} {te : TE} {lo hi : Option Expr} {tl th : TO} {pos p2 : Pos}

theorem po_none : PO X none tNoPart := by
  intro pins s σ H Q I h
  rw [evalPart_none]
  exact wpAny_pure ⟨none, H, I, .none, h⟩
theorem po_some (h : PE X e te) : PO X (some e) (tPart te) := by
  intro pins s σ H Q I hw
  rw [evalPart_some]
  refine thn (h pins s σ H _ I hw) fun u s1 ⟨x, H1, I1, r1, q1⟩ => ?_
  obtain ⟨i, rfl, q⟩ := q1
  obtain ⟨t, rfl⟩ := r1
  exact ⟨some i, H1, I1, .int i t, q⟩

/-- what a slice of a value is, by values: the slice object stands at sl -/
def SlR (X : Cx) (r : V → Option Int → Option Int → Hp → VK → Prop) : Prop :=
  ∀ (pins : List (Addr × Obj)) (s : Shared) (σ : St) (H : Hp) (x : V) (v vl vu : Value) (lo hi : Option Int) (sl : Addr) (Q : VK), Inv X pins σ H s → RelV x v → s.heap.IsSliceOf sl vl vu .none → IsPart vl lo → IsPart vu hi → r x lo hi H Q →
    ∃ T id, typeLookup (.type T) "__getitem__" = pure (some (.builtin id)) ∧ s.TypeIs v T ∧ wpAny (model X.prog X.w) X.A (getItem v (.ref sl)) (EP X pins σ Q) X.xe s
theorem SlR.or {r r' : V → Option Int → Option Int → Hp → VK → Prop} (h : SlR X r) (h' : SlR X r') : SlR X (fun x lo hi H Q => r x lo hi H Q ∨ r' x lo hi H Q) := by
  intro pins s σ H x v vl vu lo hi sl Q I rx hs pl pu q
  rcases q with q | q
  · exact h pins s σ H x v vl vu lo hi sl Q I rx hs pl pu q
  · exact h' pins s σ H x v vl vu lo hi sl Q I rx hs pl pu q
def tSl (r : V → Option Int → Option Int → Hp → VK → Prop) (te : TE) (tl th : TO) : TE := fun σ H Q => te σ H fun x H1 => tl σ H1 fun l H2 => th σ H2 fun u H3 => r x l u H3 Q
/-- a[lo:hi], any a -/
theorem pe_slice {r : V → Option Int → Option Int → Hp → VK → Prop} (hr : SlR X r) (he : PE X e te) (hl : PO X lo tl) (hu : PO X hi th) : PE X (.Subscript e (.Slice lo hi none p2) pos) (tSl r te tl th) := by
  intro pins s σ H Q I h
  refine Subscript_ (thn (he pins s σ H _ I h) fun v s1 ⟨x, H1, I1, r1, q1⟩ => ?_)
  refine wpAny_Slice (thn (hl pins s1 σ H1 _ I1 q1) fun vl s2 ⟨l, H2, I2, pl, q2⟩ => thn (hu pins s2 σ H2 _ I2 q2) fun vu s3 ⟨u, H3, I3, pu, q3⟩ => ?_)
  rw [evalPart_none]
  refine wpAny_pure ?_
  have I4 : Inv X pins σ H3 { s3 with heap := s3.heap.push { cls := .type "slice", data := .fields #[vl, vu, .none] } } := I3.kept (t' := s3.toks) fun b ob q => Heap.get?_push_of_some _ q
  obtain ⟨T, id, hT, ht, hg⟩ := hr pins { s3 with heap := s3.heap.push { cls := .type "slice", data := .fields #[vl, vu, .none] } } σ H3 x v vl vu l u s3.heap.objs.size Q I4 r1 (Heap.IsSliceOf.new ..) pl pu q3
  show wpAny (model X.prog X.w) X.A (subscriptTail e (.Slice lo hi none p2) v (.ref s3.heap.objs.size)) (EP X pins σ Q) X.xe { s3 with heap := s3.heap.push { cls := .type "slice", data := .fields #[vl, vu, .none] } }
  exact tail_any (ops := [.ref s3.heap.objs.size, v]) ht hT hg (by with_unfolding_all rfl)

/-- the items of xs[lo:hi] -/
def cutV (xs : List V) (lo hi : Option Int) : List V := (xs.drop (HT.sIx xs.length 0 lo)).take (HT.sIx xs.length xs.length hi - HT.sIx xs.length 0 lo)
theorem cutV_length (xs : List V) (lo hi : Option Int) : (cutV xs lo hi).length ≤ xs.length := by
  unfold cutV
  rw [List.length_take, List.length_drop]
  omega
/-- t[lo:hi], not the whole of it (the whole would be t itself) -/
def rSlT (K : PySem.W.Frag) : V → Option Int → Option Int → Hp → VK → Prop := fun x lo hi H Q => ∃ a xs, x = .ref a ∧ SqT K H a xs ∧
  ¬ (HT.sIx xs.length 0 lo = 0 ∧ HT.sIx xs.length xs.length hi = xs.length) ∧ ∀ p, H p = none → Q (.ref p) (upd H p (.tup (cutV xs lo hi)))
theorem sl_tup : SlR X (rSlT X.K) := by
  intro pins s σ H x v vl vu lo hi sl Q I rx hs pl pu h
  obtain ⟨a, xs, rfl, hx, hw, q⟩ := h
  cases rx
  obtain ⟨its, r, ht, hz⟩ := I.tuple hx
  have hlen : its.toArray.size = xs.length := by rw [List.size_toArray]; exact r.length.symm
  refine ⟨"tuple", _, PyProof.Rows.slot_tuple_getitem.lookup, ht.typeIs, ?_⟩
  refine HT.getItem_tuple_cut ht hs pl pu (by rw [hlen]; exact hw) ?_ (by rw [hlen]; exact hz)
  rw [hlen]
  refine ⟨.ref s.heap.objs.size, _, I.laid (t' := s.toks) (o := .tup (cutV xs lo hi)) (fun b ob q => Heap.get?_push_of_some _ q) (Nat.le_refl _) ?_, rfl, q _ (I.hok.fresh (Nat.le_refl _))⟩
  exact ⟨Nat.le_trans (cutV_length xs lo hi) hz, _, (r.drop (HT.sIx xs.length 0 lo)).take (HT.sIx xs.length xs.length hi - HT.sIx xs.length 0 lo), IsTup.new _ _⟩

/-! ### t < u, t + u -/
def rLtT (K : PySem.W.Frag) : R2 := fun x y H Q => ∃ a b ns ms, x = .ref a ∧ y = .ref b ∧ SqT K H a (ns.map V.int) ∧ SqT K H b (ms.map V.int) ∧ Q (.bl (HT.lexLt ns ms)) H
theorem op_ltT (hu : X.A.units < cLine) : OpR X (compareOp .Lt) (rLtT X.K) := by
  intro pins s σ H x y v u Q I rx ry h
  obtain ⟨a, b, ns, ms, rfl, rfl, ha, hb, q⟩ := h
  cases rx
  cases ry
  obtain ⟨its, r1, p1, _⟩ := I.tuple ha
  obtain ⟨its2, r2, p2, _⟩ := I.tuple hb
  have i1 : IntsAre its.toArray.toList ns := intsAre_of r1
  have i2 : IntsAre its2.toArray.toList ms := intsAre_of r2
  exact HT.lt_tupInts p1 p2 i1 i2 hu ⟨.bl (HT.lexLt ns ms), H, I, rfl, q⟩
/-- t + u, t not empty: u empty gives t itself -/
def rCatT (K : PySem.W.Frag) : R2 := fun x y H Q => ∃ a b xs ys, x = .ref a ∧ y = .ref b ∧ SqT K H a xs ∧ SqT K H b ys ∧ xs ≠ [] ∧ xs.length + ys.length ≤ sizeLine ∧
  (ys = [] → Q (.ref a) H) ∧ (ys ≠ [] → ∀ p, H p = none → Q (.ref p) (upd H p (.tup (xs ++ ys))))
theorem Vals.nil_iff {xs : List V} {us : List Value} (r : Vals xs us) : us = [] ↔ xs = [] := by
  cases r with
  | nil => simp
  | cons _ _ => simp
theorem op_catT : OpR X (binaryOp .Add) (rCatT X.K) := by
  intro pins s σ H x y v u Q I rx ry h
  obtain ⟨a, b, xs, ys, rfl, rfl, ha, hb, hx, hz, q1, q2⟩ := h
  cases rx
  cases ry
  obtain ⟨its, r1, p1, _⟩ := I.tuple ha
  obtain ⟨its2, r2, p2, _⟩ := I.tuple hb
  refine HT.cat_tup p1 p2 (fun z => hx (r1.nil_iff.mp z)) (fun z => ⟨.ref a, H, I, rfl, q1 (r2.nil_iff.mp z)⟩) (fun z => ?_) (by rw [← r1.length, ← r2.length]; exact hz)
  refine ⟨.ref s.heap.objs.size, _, I.laid (t' := s.toks) (o := .tup (xs ++ ys)) (fun b ob q => Heap.get?_push_of_some _ q) (Nat.le_refl _) ?_, rfl, q2 (fun w => z (r2.nil_iff.mpr w)) _ (I.hok.fresh (Nat.le_refl _))⟩
  exact ⟨by rw [List.length_append]; exact hz, _, r1.append r2, IsTup.new _ _⟩
/-- tuple(t) -/
theorem call_tupleT : CallR X (.type "tuple") (fun xs H Q => ∃ a ys, xs = [.ref a] ∧ SqT X.K H a ys ∧ Q (.ref a) H) := by
  intro pins s σ H xs us Q I r h
  obtain ⟨a, ys, rfl, ha, q⟩ := h
  obtain ⟨u, rfl, ru⟩ := vals1 r
  cases ru
  obtain ⟨its, _, p1, _⟩ := I.tuple ha
  exact call_tuple_same (items := its.toArray) p1 ⟨.ref a, H, I, rfl, q⟩
end
end L2

namespace L2
open PySem PySem.Spec PyProof.Rows

/-! ### places -/
/-- the place that an index of any sign means -/
def ixN (n : Nat) (i : Int) : Option Nat := if 0 ≤ i then (if i < n then some i.toNat else none) else if -(n : Int) ≤ i then some (i + n).toNat else none
def atI {α : Type} (xs : List α) (i : Int) : Option α := (ixN xs.length i).bind fun j => xs[j]?
theorem ixN_seq {n : Nat} {i : Int} {j : Nat} (h : ixN n i = some j) : seqIndex? i n = some j ∧ j < n ∧ -(n : Int) ≤ i ∧ i < n := by
  unfold ixN at h
  by_cases h0 : 0 ≤ i
  · rw [if_pos h0] at h
    by_cases h1 : i < n
    · rw [if_pos h1] at h
      have e : i.toNat = j := Option.some.inj h
      exact ⟨by rw [seqIndex_of h0 h1, e], by omega, by omega, h1⟩
    · rw [if_neg h1] at h; cases h
  · rw [if_neg h0] at h
    by_cases h1 : -(n : Int) ≤ i
    · rw [if_pos h1] at h
      have e : (i + n).toNat = j := Option.some.inj h
      exact ⟨by rw [seqIndex_neg (by omega) h1, e], by omega, h1, by omega⟩
    · rw [if_neg h1] at h; cases h
theorem atI_get {α : Type} {xs : List α} {i : Int} {v : α} (h : atI xs i = some v) : ∃ j, seqIndex? i xs.length = some j ∧ xs[j]? = some v ∧ j < xs.length ∧ -(xs.length : Int) ≤ i ∧ i < xs.length := by
  unfold atI at h
  cases e : ixN xs.length i with
  | none => rw [e] at h; cases h
  | some j =>
    rw [e] at h
    obtain ⟨h1, h2, h3, h4⟩ := ixN_seq e
    exact ⟨j, h1, h, h2, h3, h4⟩
theorem atI_nat {α : Type} {xs : List α} {j : Nat} {v : α} (h : xs[j]? = some v) : atI xs (j : Int) = some v := by
  have hj : j < xs.length := (List.getElem?_eq_some_iff.mp h).1
  have e : ixN xs.length (j : Int) = some j := by
    unfold ixN
    rw [if_pos (by omega), if_pos (by omega)]; simp
  unfold atI; rw [e]; exact h
theorem atI_last {α : Type} (xs : List α) (v : α) : atI (xs ++ [v]) (-1) = some v := by
  have hl : (xs ++ [v]).length = xs.length + 1 := by simp
  have e : ixN (xs ++ [v]).length (-1) = some xs.length := by
    unfold ixN
    rw [hl, if_neg (by decide), if_pos (by omega)]
    congr 1
    omega
  unfold atI
  rw [e]
  show (xs ++ [v])[xs.length]? = some v
  simp

/-! ### what may be subscripted -/
/-- what stands as an index of a plain subscript -/
def PlainIx (b : Expr) : Prop := ∀ o i, subscripted b false o i = operate [o, i] (getItem o i)
/-- a subscript by values -/
def IxR (X : Cx) (r : R2) : Prop :=
  ∀ (value slice : Expr) (pins : List (Addr × Obj)) (s : Shared) (σ : St) (H : Hp) (x y : V) (v u : Value) (Q : VK), Inv X pins σ H s → RelV x v → RelV y u → r x y H Q →
    subscripted slice false v u = operate [v, u] (getItem v u) → wpAny (model X.prog X.w) X.A (subscriptTail value slice v u) (EP X pins σ Q) X.xe s
/-- a call of a builtin's method by values: the receiver, the arguments -/
def MtR (X : Cx) (id : String) (r : V → List V → Hp → VK → Prop) : Prop :=
  ∀ (pins : List (Addr × Obj)) (s : Shared) (σ : St) (H : Hp) (x : V) (xs : List V) (v : Value) (us : List Value) (Q : VK), Inv X pins σ H s → RelV x v → Vals xs us → r x xs H Q →
    wpAny (model X.prog X.w) X.A (call (.builtin id) (v :: us)) (EP X pins σ Q) X.xe s
section
variable {X : Cx} {a b : Expr} {ta tb : TE} {pos : Pos}
theorem IxR.or {r r' : R2} (h : IxR X r) (h' : IxR X r') : IxR X (fun x y H Q => r x y H Q ∨ r' x y H Q) := by
  intro value slice pins s σ H x y v u Q I rx ry q hs
  rcases q with q | q
  · exact h value slice pins s σ H x y v u Q I rx ry q hs
  · exact h' value slice pins s σ H x y v u Q I rx ry q hs
theorem MtR.or {id : String} {r r' : V → List V → Hp → VK → Prop} (h : MtR X id r) (h' : MtR X id r') : MtR X id (fun x xs H Q => r x xs H Q ∨ r' x xs H Q) := by
  intro pins s σ H x xs v us Q I rx rs q
  rcases q with q | q
  · exact h pins s σ H x xs v us Q I rx rs q
  · exact h' pins s σ H x xs v us Q I rx rs q
/-- a[b] -/
theorem pe_ix {r : R2} (hr : IxR X r) (ha : PE X a ta) (hb : PE X b tb) (hs : PlainIx b) : PE X (.Subscript a b pos) (tOp r ta tb) := by
  intro pins s σ H Q I h
  exact Subscript_ (binT ha hb I h fun v u s2 x y H2 I2 rx ry q => hr a b pins s2 σ H2 x y v u Q I2 rx ry q (hs _ _))

def rIxL (K : PySem.W.Frag) : R2 := fun x y H Q => ∃ p xs i v, x = .ref p ∧ y = .int i ∧ SqL K H p xs ∧ atI xs i = some v ∧ Q v H
def rIxT (K : PySem.W.Frag) : R2 := fun x y H Q => ∃ p xs i v, x = .ref p ∧ y = .int i ∧ SqT K H p xs ∧ atI xs i = some v ∧ Q v H
def rIxS : R2 := fun x y H Q => ∃ z i c, x = .str z ∧ y = .int i ∧ z.length ≤ sizeLine ∧ atI z.cps.toList i = some c ∧ Q (.str ⟨#[c]⟩) H
theorem ix_list : IxR X (rIxL X.K) := by
  intro value slice pins s σ H x y v u Q I rx ry h hs
  obtain ⟨p, xs, i, z, rfl, rfl, hq, he, q⟩ := h
  cases rx
  obtain ⟨t, rfl⟩ := ry
  obtain ⟨its, r, pl, hz⟩ := I.list hq
  obtain ⟨j, h1, h2, h3, h4, h5⟩ := atI_get he
  obtain ⟨w, ew, rw'⟩ := r.get h2
  have hl := r.length
  have hn := line63
  have fin : EP X pins σ Q w s := ⟨z, H, I, rw', q⟩
  by_cases h0 : 0 ≤ i
  · have hj : i.toNat = j := by
      rw [seqIndex_of h0 h5] at h1
      exact Option.some.inj h1
    exact item_listR pl.isList h0 (by omega) (by rw [hj]; simpa using ew) fin hs
  · have hj : (i + (its.toArray.size : Int)).toNat = j := by
      rw [seqIndex_neg (by omega) h4] at h1
      rw [List.size_toArray, ← hl]
      exact Option.some.inj h1
    exact subscriptTail_builtinR (x := w) pl.isList.typeIs slot_list_getitem.lookup
      (wpAny_getItem_list_neg (Q := fun r s' => r = w ∧ EP X pins σ Q r s') pl.isList (by omega) (by rw [List.size_toArray] <;> omega) (by omega) (by rw [hj]; simpa using ew) ⟨rfl, fin⟩) hs
theorem ix_tup : IxR X (rIxT X.K) := by
  intro value slice pins s σ H x y v u Q I rx ry h hs
  obtain ⟨p, xs, i, z, rfl, rfl, hq, he, q⟩ := h
  cases rx
  obtain ⟨t, rfl⟩ := ry
  obtain ⟨its, r, pl, hz⟩ := I.tuple hq
  obtain ⟨j, h1, h2, h3, h4, h5⟩ := atI_get he
  obtain ⟨w, ew, rw'⟩ := r.get h2
  have hl := r.length
  have hn := line63
  have fin : EP X pins σ Q w s := ⟨z, H, I, rw', q⟩
  exact subscriptTail_builtinR (x := w) pl.typeIs slot_tuple_getitem.lookup
    (getItem_tuple (j := j) (Q := fun r s' => r = w ∧ EP X pins σ Q r s') pl (by omega) (by omega) (by rw [List.size_toArray, ← hl]; exact h1) (by simpa using ew) ⟨rfl, fin⟩) hs
theorem ix_str : IxR X rIxS := by
  intro value slice pins s σ H x y v u Q I rx ry h hs
  obtain ⟨z, i, c, rfl, rfl, hz, he, q⟩ := h
  obtain ⟨t, rfl⟩ := rx
  obtain ⟨t', rfl⟩ := ry
  obtain ⟨j, h1, h2, h3, h4, h5⟩ := atI_get he
  have hl : z.cps.toList.length = z.length := by simp [Str.length]
  rw [hl] at h1 h4 h5
  have hn := line63
  exact tail_any (typeIs_str s z t) slot_str_getitem.lookup (getItem_str (c := c) (by
    have e1 : decide (i < -(2 ^ 63 : Int)) = false := decide_eq_false (by omega)
    have e2 : decide (i ≥ 2 ^ 63) = false := decide_eq_false (by omega)
    rw [e1, e2, Bool.or_false]) (by rw [h1]; simpa using h2) ⟨.str ⟨#[c]⟩, H, I.tok _, ⟨_, rfl⟩, q⟩) hs
/-- list, tuple or str -/
def rIx (K : PySem.W.Frag) : R2 := fun x y H Q => rIxL K x y H Q ∨ rIxT K x y H Q ∨ rIxS x y H Q
theorem ix_seq : IxR X (rIx X.K) := ix_list.or (ix_tup.or ix_str)

/-! ### xs[i] = v, any sign -/
/-- the list's object behind a store -/
theorem mapSeq_set (its : List Value) (n j : Nat) (u : Value) : Obj.mapSeq (·.setIfInBounds j u) { cls := .type "list", data := .seq its.toArray n } = { cls := .type "list", data := .seq (its.set j u).toArray n } := by
  simp [Obj.mapSeq]
theorem Inv.lst {pins : List (Addr × Obj)} {σ : St} {H : Hp} {s : Shared} {p : Addr} {xs : List V} (I : Inv X pins σ H s) (h : H p = some (.lst xs)) :
    ∃ (its : List Value) (n : Nat), Vals xs its ∧ s.heap.get? p = some { cls := .type "list", data := .seq its.toArray n } ∧ xs.length ≤ sizeLine := by
  obtain ⟨z, its, n, r, e⟩ := I.hok p _ h
  exact ⟨its, n, r, e, z⟩
/-- the list at p is written by an update of its object -/
theorem Inv.lstUpd {pins : List (Addr × Obj)} {σ : St} {H : Hp} {s : Shared} {p : Addr} {xs ys : List V} {its its' : List Value} {n n' : Nat} {f : Obj → Obj} (I : Inv X pins σ H s) (h : H p = some (.lst xs))
    (ho : s.heap.get? p = some { cls := .type "list", data := .seq its.toArray n }) (hf : f { cls := .type "list", data := .seq its.toArray n } = { cls := .type "list", data := .seq its'.toArray n' }) (r : Vals ys its') (hz : ys.length ≤ sizeLine) (t : Nat) :
    Inv X pins σ (upd H p (.lst ys)) { s with heap := s.heap.update p f, toks := t } := by
  have e : (s.heap.update p f).get? p = some { cls := .type "list", data := .seq its'.toArray n' } := by
    rw [Heap.get?_update_self f ho (by rw [hf] <;> rfl), hf]
  refine I.write (x := p) (e := p) (by rw [h]; trivial) (.inl rfl) (fun b u hb q => (Heap.get?_update_other _ _ (Ne.symm hb)).trans q) ⟨_, e⟩ ?_
  exact ⟨hz, its', n', r, e⟩
def rSetL : V → V → V → Hp → (Hp → Prop) → Prop := fun o i v H Q => ∃ p xs k j, o = .ref p ∧ i = .int k ∧ H p = some (.lst xs) ∧ ixN xs.length k = some j ∧ Q (upd H p (.lst (xs.set j v)))
theorem set_list : PSet X rSetL := by
  intro pins s σ H o i v ov iv u Q I ro ri rv h
  obtain ⟨p, xs, k, j, rfl, rfl, hp, hj, q⟩ := h
  cases ro
  obtain ⟨t, rfl⟩ := ri
  obtain ⟨its, n, r, ho, hz⟩ := I.lst hp
  obtain ⟨h1, h2, h3, h4⟩ := ixN_seq hj
  have hl := r.length
  have hn := line63
  have I' : Inv X pins σ (upd H p (.lst (xs.set j v))) { s with heap := s.heap.update p (Obj.mapSeq (·.setIfInBounds j u)) } :=
    I.lstUpd hp ho (mapSeq_set its n j u) (r.set rv j) (by rw [List.length_set]; exact hz) s.toks
  by_cases h0 : 0 ≤ k
  · have hk : k.toNat = j := by
      rw [seqIndex_of h0 h4] at h1
      exact Option.some.inj h1
    exact PySem.W.ki_setAt ho h0 (by omega) (by rw [List.size_toArray, ← hl]; exact h4) (by rw [hk]; exact ⟨_, I', q⟩)
  · have hk : (k + (its.toArray.size : Int)).toNat = j := by
      rw [seqIndex_neg (by omega) h3] at h1
      rw [List.size_toArray, ← hl]
      exact Option.some.inj h1
    exact PySem.W.ki_setBack ho (by omega) (by rw [List.size_toArray, ← hl]; exact h3) (by omega) (by rw [hk]; exact ⟨_, I', q⟩)

/-! ### slices -/
theorem slice_bounds (lo hi : Option Int) (n : Nat) : (sliceBounds lo hi none n).1 = ((HT.sIx n 0 lo : Nat) : Int) ∧ (sliceBounds lo hi none n).2.1 = ((HT.sIx n n hi : Nat) : Int) ∧ (sliceBounds lo hi none n).2.2 = 1 := by
  refine ⟨?_, ?_, rfl⟩
  · cases lo with
    | none => simp [sliceBounds, HT.sIx]
    | some i =>
      simp only [sliceBounds, HT.sIx, Option.getD_none, show (1 : Int) > 0 by decide, if_true]
      by_cases h : i < 0
      · simp only [h, if_true] <;> omega
      · simp only [h, if_false] <;> omega
  · cases hi with
    | none => simp [sliceBounds, HT.sIx]
    | some i =>
      simp only [sliceBounds, HT.sIx, Option.getD_none, show (1 : Int) > 0 by decide, if_true]
      by_cases h : i < 0
      · simp only [h, if_true] <;> omega
      · simp only [h, if_false] <;> omega
theorem slicePick_cut (its : List Value) (lo hi : Option Int) : slicePick its.toArray lo hi none = ((its.drop (HT.sIx its.length 0 lo)).take (HT.sIx its.length its.length hi - HT.sIx its.length 0 lo)).toArray := by
  obtain ⟨h1, h2, h3⟩ := slice_bounds lo hi its.toArray.size
  unfold slicePick
  rw [h1, h2, h3]
  simp only [sliceRange_one, pick_run, List.size_toArray] <;> rfl
/-- xs[lo:hi] of a list: a new list -/
def rSlL (K : PySem.W.Frag) : V → Option Int → Option Int → Hp → VK → Prop := fun x lo hi H Q => ∃ a xs, x = .ref a ∧ SqL K H a xs ∧ ∀ p, H p = none → Q (.ref p) (upd H p (.lst (cutV xs lo hi)))
theorem sl_list : SlR X (rSlL X.K) := by
  intro pins s σ H x v vl vu lo hi sl Q I rx hs pl pu h
  obtain ⟨a, xs, rfl, hx, q⟩ := h
  cases rx
  obtain ⟨its, r, ht, hz⟩ := I.list hx
  have hlen := r.length
  refine ⟨"list", _, slot_list_getitem.lookup, ht.isList.typeIs, ?_⟩
  refine wpAny_getItem_list_slice ht.isList hs pl pu .none (by simp) ?_ (by rw [List.size_toArray] <;> omega)
  rw [slicePick_cut, ← hlen]
  refine ⟨.ref s.heap.objs.size, _, I.laid (t' := s.toks) (o := .lst (cutV xs lo hi)) (fun b ob q => Heap.get?_push_of_some _ q) (Nat.le_refl _) ?_, rfl, q _ (I.hok.fresh (Nat.le_refl _))⟩
  exact ⟨Nat.le_trans (cutV_length xs lo hi) hz, _, 0, (r.drop (HT.sIx xs.length 0 lo)).take (HT.sIx xs.length xs.length hi - HT.sIx xs.length 0 lo), Heap.get?_push_size _ rfl⟩

/-! ### in, not in: flat items -/
def flatV : V → Bool
  | .non => true
  | .bl _ => true
  | .int _ => true
  | .str _ => true
  | _ => false
/-- == of flat values -/
def eqV : V → V → Bool
  | .non, .non => true
  | .bl a, .bl b => a == b
  | .bl a, .int b => (if a then 1 else 0) == b
  | .int a, .bl b => a == (if b then 1 else 0)
  | .int a, .int b => a == b
  | .str a, .str b => a == b
  | _, _ => false
theorem eqAt_V {A : Around} {s : Shared} {y x : V} {u v : Value} (ry : RelV y u) (rx : RelV x v) (fy : flatV y = true) (fx : flatV x = true) : SeqAt.EqAt A s u v (eqV y x) := by
  cases y with
  | non =>
    cases ry
    cases x with
    | non => cases rx; exact SeqAt.EqAt.same _
    | bl b => cases rx; exact SeqAt.EqAt.none_bool b
    | int b => obtain ⟨t, rfl⟩ := rx; exact SeqAt.EqAt.none_int b t
    | str b => obtain ⟨t, rfl⟩ := rx; exact SeqAt.EqAt.none_str b t
    | _ => exact absurd (show false = true from fx) Bool.false_ne_true
  | bl a =>
    cases ry
    cases x with
    | non => cases rx; exact SeqAt.EqAt.bool_none a
    | bl b => cases rx; exact SeqAt.EqAt.bool_bool a b
    | int b => obtain ⟨t, rfl⟩ := rx; exact SeqAt.EqAt.bool_int a b t
    | str b => obtain ⟨t, rfl⟩ := rx; exact SeqAt.EqAt.bool_str a b t
    | _ => exact absurd (show false = true from fx) Bool.false_ne_true
  | int a =>
    obtain ⟨t', rfl⟩ := ry
    cases x with
    | non => cases rx; exact SeqAt.EqAt.int_none a t'
    | bl b => cases rx; exact SeqAt.EqAt.int_bool a t' b
    | int b => obtain ⟨t, rfl⟩ := rx; exact SeqAt.EqAt.int_int a t' b t
    | str b => obtain ⟨t, rfl⟩ := rx; exact SeqAt.EqAt.int_str a t' b t
    | _ => exact absurd (show false = true from fx) Bool.false_ne_true
  | str a =>
    obtain ⟨t', rfl⟩ := ry
    cases x with
    | non => cases rx; exact SeqAt.EqAt.str_none a t'
    | bl b => cases rx; exact SeqAt.EqAt.str_bool a t' b
    | int b => obtain ⟨t, rfl⟩ := rx; exact SeqAt.EqAt.str_int a t' b t
    | str b => obtain ⟨t, rfl⟩ := rx; exact SeqAt.EqAt.str_str a t' b t
    | _ => exact absurd (show false = true from fx) Bool.false_ne_true
  | _ => exact absurd (show false = true from fy) Bool.false_ne_true
/-- the items' answers, read off the values (a value's own answer does not lean on its token) -/
def eqU (x : V) (u : Value) : Bool := match u with
  | .none => eqV .non x
  | .bool b => eqV (.bl b) x
  | .int i _ => eqV (.int i) x
  | .str z _ => eqV (.str z) x
  | _ => false
theorem eqU_of {x y : V} {u : Value} (r : RelV y u) (f : flatV y = true) : eqU x u = eqV y x := by
  cases y with
  | non => cases r; rfl
  | bl b => cases r; rfl
  | int i => obtain ⟨t, rfl⟩ := r; rfl
  | str z => obtain ⟨t, rfl⟩ := r; rfl
  | _ => exact absurd (show false = true from f) Bool.false_ne_true
theorem any_eqU {x : V} : ∀ {xs : List V} {us : List Value}, Vals xs us → xs.all flatV = true → us.any (eqU x) = xs.any fun y => eqV y x
  | _, _, .nil, _ => rfl
  | y :: xs, u :: us, .cons r t, f => by
    rw [List.all_cons, Bool.and_eq_true] at f
    rw [List.any_cons, List.any_cons, eqU_of r f.1, any_eqU t f.2]
theorem mem_eqAt {A : Around} {s : Shared} {x : V} {v : Value} (rx : RelV x v) (fx : flatV x = true) : ∀ {xs : List V} {us : List Value}, Vals xs us → xs.all flatV = true → ∀ u ∈ us, SeqAt.EqAt A s u v (eqU x u)
  | _, _, .nil, _ => fun u hu => by cases hu
  | y :: xs, u :: us, .cons r t, f => fun u' hu => by
    rw [List.all_cons, Bool.and_eq_true] at f
    rcases List.mem_cons.mp hu with rfl | hu
    · rw [eqU_of r f.1]; exact eqAt_V r rx f.1 fx
    · exact mem_eqAt rx fx t f.2 u' hu
def inV (x : V) (xs : List V) : Bool := xs.any fun y => eqV y x
/-- x in a list or tuple of flat items -/
def rIn (K : PySem.W.Frag) (neg : Bool) : R2 := fun x y H Q => ∃ p xs, y = .ref p ∧ (SqL K H p xs ∨ SqT K H p xs) ∧ flatV x = true ∧ xs.all flatV = true ∧ Q (.bl (if neg then !inV x xs else inV x xs)) H
theorem op_in_seq : OpR X (compareOp .In) (rIn X.K false) := by
  intro pins s σ H x y v u Q I rx ry h
  obtain ⟨p, xs, rfl, hq, fx, fs, q⟩ := h
  cases ry
  rcases hq with hq | hq
  · obtain ⟨its, r, pl, hz⟩ := I.list hq
    refine SeqAt.in_listAt (eqU x) pl.isList (fun w hw => mem_eqAt rx fx r fs w (by simpa using hw)) ⟨.bl _, H, I, rfl, ?_⟩
    rw [show its.toArray.any (eqU x) = its.any (eqU x) by simp, any_eqU r fs]
    exact q
  · obtain ⟨its, r, pl, hz⟩ := I.tuple hq
    refine SeqAt.in_tupleAt (eqU x) pl (fun w hw => mem_eqAt rx fx r fs w (by simpa using hw)) ⟨.bl _, H, I, rfl, ?_⟩
    rw [show its.toArray.any (eqU x) = its.any (eqU x) by simp, any_eqU r fs]
    exact q
theorem op_notIn_seq : OpR X (compareOp .NotIn) (rIn X.K true) := by
  intro pins s σ H x y v u Q I rx ry h
  obtain ⟨p, xs, rfl, hq, fx, fs, q⟩ := h
  cases ry
  rcases hq with hq | hq
  · obtain ⟨its, r, pl, hz⟩ := I.list hq
    refine SeqAt.notIn_listAt (eqU x) pl.isList (fun w hw => mem_eqAt rx fx r fs w (by simpa using hw)) ⟨.bl _, H, I, rfl, ?_⟩
    rw [show its.toArray.any (eqU x) = its.any (eqU x) by simp, any_eqU r fs]
    exact q
  · obtain ⟨its, r, pl, hz⟩ := I.tuple hq
    refine SeqAt.notIn_tupleAt (eqU x) pl (fun w hw => mem_eqAt rx fx r fs w (by simpa using hw)) ⟨.bl _, H, I, rfl, ?_⟩
    rw [show its.toArray.any (eqU x) = its.any (eqU x) by simp, any_eqU r fs]
    exact q
theorem op_notIn_str : OpR X (compareOp .NotIn) (fun x y H Q => ∃ i j, x = .str i ∧ y = .str j ∧ Q (.bl (!(!(Builtin.Str.occurrences j i 0 j.length 1).isEmpty))) H) := by
  intro pins s σ H x y v u Q I rx ry h
  obtain ⟨i, j, rfl, rfl, q⟩ := h
  obtain ⟨t, rfl⟩ := rx
  obtain ⟨t', rfl⟩ := ry
  exact notIn_str ⟨.bl _, H, I, rfl, q⟩

/-! ### len, list(x), tuple(x) of any list or tuple that is read -/
theorem call_len_seq : CallR X (.builtin "len") (fun xs H Q => ∃ p ys, xs = [.ref p] ∧ (SqL X.K H p ys ∨ SqT X.K H p ys) ∧ Q (.int ys.length) H) := by
  intro pins s σ H xs us Q I r h
  obtain ⟨p, ys, rfl, hq, q⟩ := h
  obtain ⟨u, rfl, rx⟩ := vals1 r
  cases rx
  have hn := line63
  rcases hq with hq | hq
  · obtain ⟨its, r', pl, hz⟩ := I.list hq
    have hlen := r'.length
    exact Calls.call_len_list pl.isList (by simp only [List.size_toArray] <;> omega) ⟨.int ys.length, H, I.tok _, ⟨s.toks + 1, by rw [List.size_toArray, hlen]⟩, q⟩
  · obtain ⟨its, r', pl, hz⟩ := I.tuple hq
    have hlen := r'.length
    exact len_tuple pl (by simp only [List.size_toArray] <;> omega) ⟨.int ys.length, H, I.tok _, ⟨s.toks + 1, by rw [List.size_toArray, hlen]⟩, q⟩
theorem call_len_str : CallR X (.builtin "len") (fun xs H Q => ∃ z, xs = [.str z] ∧ z.length ≤ sizeLine ∧ Q (.int z.length) H) := by
  intro pins s σ H xs us Q I r h
  obtain ⟨z, rfl, hz, q⟩ := h
  obtain ⟨u, rfl, t, rfl⟩ := vals1 r
  have hn := line63
  exact len_str (by omega) ⟨.int z.length, H, I.tok _, ⟨_, rfl⟩, q⟩
theorem CallR.or {f : Value} {r r' : List V → Hp → VK → Prop} (h : CallR X f r) (h' : CallR X f r') : CallR X f (fun xs H Q => r xs H Q ∨ r' xs H Q) := by
  intro pins s σ H xs us Q I rs q
  rcases q with q | q
  · exact h pins s σ H xs us Q I rs q
  · exact h' pins s σ H xs us Q I rs q
theorem call_list_of : CallR X (.type "list") (fun xs H Q => ∃ p ys, xs = [.ref p] ∧ (SqL X.K H p ys ∨ SqT X.K H p ys) ∧ ∀ l, H l = none → Q (.ref l) (upd H l (.lst ys))) := by
  intro pins s σ H xs us Q I r h
  obtain ⟨p, ys, rfl, hq, q⟩ := h
  obtain ⟨u, rfl, rx⟩ := vals1 r
  cases rx
  have fin : ∀ (its : List Value), Vals ys its → ys.length ≤ sizeLine → ∀ (h' : Heap) (c' : Nat), (∀ b o', s.heap.get? b = some o' → h'.get? b = some o') →
      h'.get? s.heap.objs.size = some { cls := .type "list", dict := none, data := .seq its.toArray c', slots := #[] } → EP X pins σ Q (.ref s.heap.objs.size) { s with heap := h' } := fun its r' hz h' c' kp e =>
    ⟨.ref s.heap.objs.size, _, I.laid (t' := s.toks) kp (Nat.le_refl _) (show ObjOk X.prog X.w _ h' _ (.lst ys) from ⟨hz, its, c', r', e⟩), rfl, q _ (I.hok.fresh (Nat.le_refl _))⟩
  rcases hq with hq | hq
  · obtain ⟨its, r', pl, hz⟩ := I.list hq
    have hlen := r'.length
    obtain ⟨o, ho, hc, n, hd⟩ := pl.isList
    exact call_list_seq p (.inl rfl) ho hc hd (fun h' c' kp e => fin its r' hz h' c' kp e) (by simp only [List.size_toArray] <;> omega)
  · obtain ⟨its, r', pl, hz⟩ := I.tuple hq
    have hlen := r'.length
    obtain ⟨o, ho, hc, n, hd⟩ := pl
    exact call_list_seq p (.inr rfl) ho hc hd (fun h' c' kp e => fin its r' hz h' c' kp e) (by simp only [List.size_toArray] <;> omega)
theorem call_tuple_of : CallR X (.type "tuple") (fun xs H Q => ∃ p ys, xs = [.ref p] ∧ ((SqL X.K H p ys ∧ ∀ l, H l = none → Q (.ref l) (upd H l (.tup ys))) ∨ (SqT X.K H p ys ∧ Q (.ref p) H))) := by
  intro pins s σ H xs us Q I r h
  obtain ⟨p, ys, rfl, h⟩ := h
  obtain ⟨u, rfl, rx⟩ := vals1 r
  cases rx
  rcases h with ⟨hq, q⟩ | ⟨hq, q⟩
  · obtain ⟨its, r', pl, hz⟩ := I.list hq
    have hlen := r'.length
    refine call_tuple_list pl.isList (fun h' kp => ?_) (by simp only [List.size_toArray] <;> omega)
    have I1 : Inv X pins σ H { s with heap := h' } := I.kept (t' := s.toks) kp
    have I2 : Inv X pins σ (upd H h'.objs.size (.tup ys)) { s with heap := h'.push { cls := .type "tuple", data := .seq its.toArray } } :=
      I1.laid (t' := s.toks) (fun b o e => Heap.get?_push_of_some _ e) (Nat.le_refl _) (show ObjOk X.prog X.w _ _ _ (.tup ys) from ⟨hz, its, r', IsTup.new _ _⟩)
    exact ⟨.ref h'.objs.size, _, I2, rfl, q _ (I1.hok.fresh (Nat.le_refl _))⟩
  · obtain ⟨its, r', pl, hz⟩ := I.tuple hq
    exact call_tuple_same pl ⟨.ref p, H, I, rfl, q⟩

/-! ### the call of a builtin's method: o.m(..) -/
/-- the value is of that builtin type -/
def tyV (K : PySem.W.Frag) (T : String) (x : V) (H : Hp) : Prop := match x with
  | .str _ => T = "str"
  | .int _ => T = "int"
  | .ref p => (T = "list" ∧ ∃ xs, SqL K H p xs) ∨ (T = "tuple" ∧ ∃ o, K.lookup p = some o ∧ o.cls = .type "tuple" ∧ o.dict = none) ∨
      (T = "dict" ∧ ((∃ kvs, H p = some (.dK kvs)) ∨ ∃ kvs, H p = some (.dT kvs))) ∨ (T = "set" ∧ ∃ S n, H p = some (.set S n))
  | _ => False
theorem tyV_is {pins : List (Addr × Obj)} {σ : St} {H : Hp} {s : Shared} {T : String} {x : V} {v : Value} (I : Inv X pins σ H s) (r : RelV x v) (ty : tyV X.K T x H) :
    s.TypeIs v T ∧ ∀ a, v = .ref a → ∃ ob, s.heap.get? a = some ob ∧ ob.dict = none := by
  cases x with
  | str z =>
    obtain ⟨t, rfl⟩ := r
    cases (show T = "str" from ty)
    exact ⟨typeIs_str s z t, fun _ e => nomatch e⟩
  | int i =>
    obtain ⟨t, rfl⟩ := r
    cases (show T = "int" from ty)
    exact ⟨typeIs_int s i t, fun _ e => nomatch e⟩
  | ref p =>
    cases r
    rcases ty with ⟨rfl, xs, hq⟩ | ⟨rfl, o, hk, hc, hd⟩ | ⟨rfl, hk⟩ | ⟨rfl, S, n, hk⟩
    · obtain ⟨its, _, pl, _⟩ := I.list hq
      refine ⟨pl.isList.typeIs, fun a e => ?_⟩
      cases e
      obtain ⟨o, n, e, c, hd, _⟩ := pl
      exact ⟨o, e, hd⟩
    · refine ⟨⟨o, I.kIn p o hk, hc⟩, fun a e => ?_⟩
      cases e
      exact ⟨o, I.kIn _ o hk, hd⟩
    · have z : ∃ o, s.heap.get? p = some o ∧ o.ExactDict := by
        rcases hk with ⟨kvs, hk⟩ | ⟨kvs, hk⟩
        · obtain ⟨_, _, _, _, o, _, _, e, ex, _⟩ := I.hok p _ hk
          exact ⟨o, e, ex⟩
        · obtain ⟨_, _, _, _, o, _, _, e, ex, _⟩ := I.hok p _ hk
          exact ⟨o, e, ex⟩
      obtain ⟨o, e, ex⟩ := z
      refine ⟨⟨o, e, ex.1⟩, fun a e2 => ?_⟩
      cases e2
      exact ⟨o, e, ex.2.1⟩
    · obtain ⟨o, _, _, _, e, ex, _⟩ := I.hok p _ hk
      refine ⟨⟨o, e, ex.1⟩, fun a e2 => ?_⟩
      cases e2
      exact ⟨o, e, ex.2.1⟩
  | _ => exact False.elim ty
def tBM0 (K : PySem.W.Frag) (T : String) (r : V → List V → Hp → VK → Prop) (to : TE) : TE := fun σ H Q => to σ H fun x H1 => tyV K T x H1 ∧ r x [] H1 Q
def tBM (K : PySem.W.Frag) (T : String) (r : V → List V → Hp → VK → Prop) (to : TE) (t : TA) : TE := fun σ H Q => to σ H fun x H1 => tyV K T x H1 ∧ t σ H1 fun xs H2 => r x xs H2 Q
variable {o e : Expr} {es : List Expr} {to : TE} {t : TA} {name : Str} {apos cpos : Pos} {T id : String} {r : V → List V → Hp → VK → Prop}
theorem pe_bm0 (pa : PlainAttrs T) (slot : Slot T name id) (hty : typeOf (.builtin id) = pure (.type "method_descriptor")) (hm : MtR X id r) (ho : PE X o to)
    (hbase : attributeBase o name X.env (eval o X.env) = eval o X.env := by rfl) (hline : (apos.endLine == cpos.line) = true := by rfl) : PE X (.Call (.Attribute o name apos) [] [] cpos) (tBM0 X.K T r to) := by
  intro pins s σ H Q I h
  refine wpAny_Call_method0_late hbase hline (thn (ho pins s σ H _ I h) fun v s1 ⟨x, H1, I1, r1, ty, q1⟩ => ?_)
  obtain ⟨h1, h2⟩ := tyV_is I1 r1 ty
  exact ⟨T, id, pa, slot, hty, h1, h2, Calls.callWith_builtin rfl (PySem.evalArgs_none (hm pins s1 σ H1 x [] v [] Q I1 r1 .nil q1))⟩
theorem pe_bm (pa : PlainAttrs T) (slot : Slot T name id) (hty : typeOf (.builtin id) = pure (.type "method_descriptor")) (hm : MtR X id r) (ho : PE X o to) (ha : PA X (e :: es) t)
    (hbase : attributeBase o name X.env (eval o X.env) = eval o X.env := by rfl)
    (hfew : ((backTo cpos (starEach (e :: es) X.env)).all (fun x => !x.1) && (backToKw cpos (keywordEach [] X.env)).all (fun x => x.1.isSome)
      && decide ((e :: es).length + ([] : List Keyword).length + (if ([] : List Keyword).isEmpty then 0 else 1) < 30)) = true := by rfl)
    (hline : (apos.endLine == cpos.line) = true := by rfl) (hs : starEach (e :: es) X.env = (false, eval e X.env) :: starEach es X.env := by rfl) (hplain : (backTo cpos (starEach es X.env)).any (·.1) = false := by rfl) :
    PE X (.Call (.Attribute o name apos) (e :: es) [] cpos) (tBM X.K T r to t) := by
  intro pins s σ H Q I h
  refine wpAny_Call_method_late hbase hfew hline rfl (thn (ho pins s σ H _ I h) fun v s1 ⟨x, H1, I1, r1, ty, q1⟩ => ?_)
  obtain ⟨h1, h2⟩ := tyV_is I1 r1 ty
  refine ⟨T, id, pa, slot, hty, h1, h2, ?_⟩
  have hA := ha cpos pins s1 σ H1 _ I1 q1
  rw [hs] at hA ⊢
  refine Calls.callWith_builtin (by show (false || (backTo cpos (starEach es X.env)).any (·.1)) = false; rw [hplain] <;> rfl) (Calls.evalArgs_plain ?_)
  exact thn hA fun us s2 ⟨vs, H2, I2, r2, q2⟩ => hm pins s2 σ H2 x vs v us Q I2 r1 r2 q2
/- xs.append(e), list.index on a module's tuple .. are MtR facts of 06m -/
end
end L2

namespace L2
open PySem PySem.Spec PyProof.Rows

def MtM (X : Cx) (id : String) (r : V → List V → Hp → VK → Prop) : Prop :=
  ∀ (pins : List (Addr × Obj)) (s : Shared) (σ : St) (H : Hp) (x : V) (xs : List V) (v : Value) (us : List Value) (Q : VK), Inv X pins σ H s → RelV x v → Vals xs us → r x xs H Q →
    wpAny (model X.prog X.w) X.A (call (.builtin id) (v :: us)) (EP X pins σ Q) X.xe s

/-! ### lists of values -/
theorem Vals.one : ∀ {x : V} {us : List Value}, Vals [x] us → ∃ u, us = [u] ∧ RelV x u
  | _, _, .cons r .nil => ⟨_, rfl, r⟩
theorem Vals.two : ∀ {x y : V} {us : List Value}, Vals [x, y] us → ∃ u v, us = [u, v] ∧ RelV x u ∧ RelV y v
  | _, _, _, .cons r (.cons q .nil) => ⟨_, _, rfl, r, q⟩
theorem Vals.zero : ∀ {us : List Value}, Vals [] us → us = []
  | _, .nil => rfl
theorem Vals.dropLast {xs : List V} {us : List Value} (h : Vals xs us) : Vals xs.dropLast us.dropLast := by
  induction h with
  | nil => exact .nil
  | cons r t ih =>
    cases t with
    | nil => exact .nil
    | cons q t' => exact .cons r ih
theorem Vals.eraseIdx : ∀ {xs : List V} {us : List Value} (i : Nat), Vals xs us → Vals (xs.eraseIdx i) (us.eraseIdx i)
  | _, _, _, .nil => .nil
  | _, _, 0, .cons _ t => t
  | _, _, i + 1, .cons r t => .cons r (Vals.eraseIdx i t)
theorem Vals.reverse {xs : List V} {us : List Value} (h : Vals xs us) : Vals xs.reverse us.reverse := by
  induction h with
  | nil => exact .nil
  | cons r t ih => rw [List.reverse_cons, List.reverse_cons]; exact Vals.append ih (.cons r .nil)
theorem Vals.rep {xs : List V} {us : List Value} (h : Vals xs us) : ∀ k : Nat, Vals (List.replicate k xs).flatten (List.replicate k us).flatten
  | 0 => .nil
  | k + 1 => by
    rw [List.replicate_succ, List.replicate_succ, List.flatten_cons, List.flatten_cons]
    exact Vals.append h (Vals.rep h k)
theorem erase_last {α : Type} (l : List α) : l.eraseIdx (l.length - 1) = l.dropLast := by
  induction l with
  | nil => rfl
  | cons a r ih =>
    cases r with
    | nil => rfl
    | cons b r =>
      have e : (a :: b :: r).length - 1 = ((b :: r).length - 1) + 1 := by
        have h1 : (a :: b :: r).length = r.length + 2 := rfl
        have h2 : (b :: r).length = r.length + 1 := rfl
        omega
      rw [e, List.eraseIdx_cons_succ, ih]
      all_goals rfl
theorem len_erase {α : Type} : ∀ (l : List α) (i : Nat), (l.eraseIdx i).length ≤ l.length
  | [], _ => Nat.le_refl _
  | _ :: _, 0 => Nat.le_succ _
  | _ :: r, i + 1 => Nat.succ_le_succ (len_erase r i)
theorem foldl_rep (its : List Value) : ∀ (k : Nat) (acc : List Value),
    List.foldl (fun x1 x2 => x1 ++ x2) acc.toArray (List.replicate k its.toArray) = (acc ++ (List.replicate k its).flatten).toArray
  | 0, acc => by simp
  | k + 1, acc => by
    have e : acc.toArray ++ its.toArray = (acc ++ its).toArray := by simp
    have e2 : (acc ++ its) ++ (List.replicate k its).flatten = acc ++ (List.replicate (k + 1) its).flatten := by
      rw [List.replicate_succ, List.flatten_cons, List.append_assoc]
    rw [← e2, ← foldl_rep its k (acc ++ its), ← e, List.replicate_succ, List.foldl_cons]

section
variable {X : Cx} {pins : List (Addr × Obj)} {σ : St} {H : Hp} {s : Shared} {l b : Addr} {xs ys zs : List V}

/-! ### the two steps: a tracked list is rewritten, a new list is laid -/
theorem Inv.lset {its its' : List Value} {n : Nat} {f : Array Value → Array Value} {t' : Nat} (I : Inv X pins σ H s) (hH : H l = some (.lst xs))
    (e : s.heap.get? l = some { cls := .type "list", data := .seq its.toArray n }) (hf : f its.toArray = its'.toArray) (hv : Vals ys its') (hz : ys.length ≤ sizeLine) :
    Inv X pins σ (upd H l (.lst ys)) { s with heap := s.heap.update l (Obj.mapSeq f), toks := t' } := by
  have q := PySem.IsL.update e f
  rw [hf] at q
  refine I.write (x := l) (e := l) (by rw [hH]; exact trivial) (.inl rfl) (fun b' u hb hu => (Heap.get?_update_other s.heap (Obj.mapSeq f) (Ne.symm hb)).trans hu) ⟨_, q⟩ ?_
  exact ⟨hz, its', _, hv, q⟩
theorem Inv.lnew {its : List Value} {t' : Nat} (I : Inv X pins σ H s) (hv : Vals ys its) (hz : ys.length ≤ sizeLine) :
    Inv X pins σ (upd H s.heap.objs.size (.lst ys)) { s with heap := s.heap.push { cls := .type "list", data := .seq its.toArray }, toks := t' } :=
  I.laid (fun _ _ q => Heap.get?_push_of_some _ q) (Nat.le_refl _) ⟨hz, its, 0, hv, Heap.get?_push_size _ rfl⟩
theorem Inv.fresh (I : Inv X pins σ H s) : H s.heap.objs.size = none := I.hok.fresh (Nat.le_refl _)
theorem Inv.lstM (I : Inv X pins σ H s) (hH : H l = some (.lst xs)) : xs.length ≤ sizeLine ∧ ∃ (its : List Value) (n : Nat), Vals xs its ∧ xs.length = its.length ∧ s.heap.get? l = some { cls := .type "list", data := .seq its.toArray n } := by
  obtain ⟨z, its, n, r, e⟩ := I.hok l _ hH
  exact ⟨z, its, n, r, r.length, e⟩

theorem notLongL {n : Nat} (h : n ≤ sizeLine) : Builtin.List.listTooLong n = false := by
  unfold Builtin.List.listTooLong
  exact decide_eq_false (by omega)
end

section
variable {X : Cx}

/-! ### methods -/
def rAppend : V → List V → Hp → VK → Prop := fun x vs H Q => ∃ l xs y, x = .ref l ∧ vs = [y] ∧ H l = some (.lst xs) ∧ xs.length < sizeLine ∧ Q .non (upd H l (.lst (xs ++ [y])))
theorem mt_append : MtM X "list.append" rAppend := by
  intro pins s σ H x vs v us Q I rx rv h
  obtain ⟨l, xs, y, rfl, rfl, hH, hz, q⟩ := h
  cases rx
  obtain ⟨u, rfl, ru⟩ := rv.one
  obtain ⟨z, its, n, r, hl, e⟩ := I.lstM hH
  refine call_meets F.slot_list_append ⟨_, e, rfl⟩ F.entry_list_append (F.args_list_append_2 _ _) (PySem.list_append l its.toArray n u (by rw [List.size_toArray]; omega)) ⟨e, ?_⟩
  refine ⟨.non, _, I.lset (its' := its ++ [u]) hH e (by simp) (r.append (.cons ru .nil)) ?_, rfl, q⟩
  rw [List.length_append, List.length_singleton]
  omega

def rExtend : V → List V → Hp → VK → Prop := fun x vs H Q => ∃ l b xs zs, x = .ref l ∧ vs = [.ref b] ∧ H l = some (.lst xs) ∧ H b = some (.lst zs) ∧ xs.length + zs.length ≤ sizeLine ∧ Q .non (upd H l (.lst (xs ++ zs)))
theorem mt_extend : MtM X "list.extend" rExtend := by
  intro pins s σ H x vs v us Q I rx rv h
  obtain ⟨l, b, xs, zs, rfl, rfl, hH, hB, hz, q⟩ := h
  cases rx
  obtain ⟨u, rfl, ru⟩ := rv.one
  cases ru
  obtain ⟨z, its, n, r, hl, e⟩ := I.lstM hH
  obtain ⟨z2, its2, n2, r2, hl2, e2⟩ := I.lstM hB
  have hsz : its.toArray.size + its2.toArray.size ≤ sizeLine := by rw [List.size_toArray, List.size_toArray]; omega
  have hlong : ¬ (!its.toArray.isEmpty && Builtin.List.listTooLong (its.toArray.size + its2.toArray.size)) = true := by
    rw [notLongL hsz, Bool.and_false]
    exact Bool.false_ne_true
  refine call_meets F.slot_list_extend ⟨_, e, rfl⟩ F.entry_list_extend (F.args_list_extend_2 _ _)
    (AutoSeq1.list_extend_list_list_0 l its.toArray n b its2.toArray n2 hlong (by rw [List.size_toArray]; omega) (by omega)) ⟨e, e2, ?_⟩
  refine ⟨.non, _, I.lset (its' := its ++ its2) hH e (by simp) (r.append r2) ?_, rfl, q⟩
  rw [List.length_append]
  omega

def rPop : V → List V → Hp → VK → Prop := fun x vs H Q => ∃ l xs y, x = .ref l ∧ vs = [] ∧ H l = some (.lst xs) ∧ xs[xs.length - 1]? = some y ∧ Q y (upd H l (.lst xs.dropLast))
theorem mt_pop : MtM X "list.pop" rPop := by
  intro pins s σ H x vs v us Q I rx rv h
  obtain ⟨l, xs, y, rfl, rfl, hH, hy, q⟩ := h
  cases rx
  have hus := rv.zero
  subst hus
  obtain ⟨z, its, n, r, hl, e⟩ := I.lstM hH
  obtain ⟨u, hu, ru⟩ := r.get hy
  have hy' : its.toArray[its.toArray.size - 1]? = some u := by
    show its.toArray[its.length - 1]? = some u
    rw [← Array.getElem?_toList, ← hl]
    exact hu
  refine call_meets F.slot_list_pop ⟨_, e, rfl⟩ F.entry_list_pop (F.args_list_pop_1 _) (MeetsSeq.list_pop_last l its.toArray n u hy' (by rw [List.size_toArray]; omega)) ⟨e, ?_⟩
  refine ⟨y, _, I.lset (its' := its.dropLast) hH e ?_ r.dropLast ?_, ru, q⟩
  · show its.toArray.eraseIdxIfInBounds (its.toArray.size - 1) = its.dropLast.toArray
    rw [List.size_toArray, List.eraseIdxIfInBounds_toArray, erase_last]
  · rw [List.length_dropLast]
    omega

def rPopAt : V → List V → Hp → VK → Prop := fun x vs H Q => ∃ l xs i k y, x = .ref l ∧ vs = [.int i] ∧ H l = some (.lst xs) ∧ -(2 ^ 63) ≤ i ∧ i < 2 ^ 63 ∧ seqIndex? i xs.length = some k ∧ xs[k]? = some y ∧ Q y (upd H l (.lst (xs.eraseIdx k)))
theorem mt_popAt : MtM X "list.pop" rPopAt := by
  intro pins s σ H x vs v us Q I rx rv h
  obtain ⟨l, xs, i, k, y, rfl, rfl, hH, h1, h2, hk, hy, q⟩ := h
  cases rx
  obtain ⟨u, rfl, ru⟩ := rv.one
  obtain ⟨t, rfl⟩ := ru
  obtain ⟨z, its, n, r, hl, e⟩ := I.lstM hH
  obtain ⟨w, hw, rw'⟩ := r.get hy
  refine call_meets F.slot_list_pop ⟨_, e, rfl⟩ F.entry_list_pop (F.args_list_pop_2 _ _)
    (MeetsSeq.list_pop_at l its.toArray n i t k w (fitsIndex_both h1 h2) (by rw [List.size_toArray, ← hl]; exact hk) (by rw [← Array.getElem?_toList]; exact hw) (by rw [List.size_toArray]; omega)) ⟨e, ?_⟩
  refine ⟨y, _, I.lset (its' := its.eraseIdx k) hH e ?_ (r.eraseIdx k) ?_, rw', q⟩
  · show its.toArray.eraseIdxIfInBounds k = (its.eraseIdx k).toArray
    rw [List.eraseIdxIfInBounds_toArray]
  · have := len_erase xs k
    omega

def rReverse : V → List V → Hp → VK → Prop := fun x vs H Q => ∃ l xs, x = .ref l ∧ vs = [] ∧ H l = some (.lst xs) ∧ Q .non (upd H l (.lst xs.reverse))
theorem mt_reverse : MtM X "list.reverse" rReverse := by
  intro pins s σ H x vs v us Q I rx rv h
  obtain ⟨l, xs, rfl, rfl, hH, q⟩ := h
  cases rx
  have hus := rv.zero
  subst hus
  obtain ⟨z, its, n, r, hl, e⟩ := I.lstM hH
  refine call_meets F.slot_list_reverse ⟨_, e, rfl⟩ F.entry_list_reverse (F.args_list_reverse_1 _) (AutoSeq1.list_reverse_list_0 l its.toArray n (by rw [List.size_toArray]; omega)) ⟨e, ?_⟩
  refine ⟨.non, _, I.lset (its' := its.reverse) hH e (by simp) r.reverse ?_, rfl, q⟩
  rw [List.length_reverse]
  omega

def rClear : V → List V → Hp → VK → Prop := fun x vs H Q => ∃ l xs, x = .ref l ∧ vs = [] ∧ H l = some (.lst xs) ∧ Q .non (upd H l (.lst []))
theorem mt_clear : MtM X "list.clear" rClear := by
  intro pins s σ H x vs v us Q I rx rv h
  obtain ⟨l, xs, rfl, rfl, hH, q⟩ := h
  cases rx
  have hus := rv.zero
  subst hus
  obtain ⟨z, its, n, r, hl, e⟩ := I.lstM hH
  refine call_meets F.slot_list_clear ⟨_, e, rfl⟩ F.entry_list_clear (F.args_list_clear_1 _) (AutoSeq1.list_clear_list_0 l its.toArray n (by rw [List.size_toArray]; omega)) ⟨e, ?_⟩
  exact ⟨.non, _, I.lset (its' := []) (ys := []) hH e rfl .nil (Nat.zero_le _), rfl, q⟩

/-! ### list + list, list += list, list * int -/
def rCat : R2 := fun x y H Q => ∃ l b xs zs, x = .ref l ∧ y = .ref b ∧ H l = some (.lst xs) ∧ H b = some (.lst zs) ∧ xs.length + zs.length ≤ sizeLine ∧ ∀ p, H p = none → Q (.ref p) (upd H p (.lst (xs ++ zs)))
theorem op_cat : OpR X (binaryOp .Add) rCat := by
  intro pins s σ H x y v u Q I rx ry h
  obtain ⟨l, b, xs, zs, rfl, rfl, hH, hB, hz, q⟩ := h
  cases rx
  cases ry
  obtain ⟨z, its, n, r, hl, e⟩ := I.lstM hH
  obtain ⟨z2, its2, n2, r2, hl2, e2⟩ := I.lstM hB
  refine PySem.P.add_list e e2 ?_ (by rw [List.size_toArray, List.size_toArray]; omega)
  have ea : its.toArray ++ its2.toArray = (its ++ its2).toArray := by simp
  rw [ea]
  exact ⟨.ref _, _, I.lnew (t' := s.toks) (r.append r2) (by rw [List.length_append]; omega), rfl, q _ I.fresh⟩
/-- a list times an int (a negative one is nothing) -/
def rRep : R2 := fun x y H Q => ∃ l k xs, x = .ref l ∧ y = .int k ∧ H l = some (.lst xs) ∧ -(2 ^ 63) ≤ k ∧ k < 2 ^ 63 ∧ xs.length * k.toNat ≤ sizeLine ∧
  ∀ p, H p = none → Q (.ref p) (upd H p (.lst (List.replicate k.toNat xs).flatten))
theorem len_rep {α : Type} (xs : List α) (k : Nat) : (List.replicate k xs).flatten.length = k * xs.length := by
  induction k with
  | zero => simp
  | succ k ih => rw [List.replicate_succ, List.flatten_cons, List.length_append, ih, Nat.succ_mul, Nat.add_comm]
theorem op_rep : OpR X (binaryOp .Mult) rRep := by
  intro pins s σ H x y v u Q I rx ry h
  obtain ⟨l, k, xs, rfl, rfl, hH, h1, h2, hz, q⟩ := h
  cases rx
  obtain ⟨t, rfl⟩ := ry
  obtain ⟨z, its, n, r, hl, e⟩ := I.lstM hH
  have hlen : its.toArray.size * k.toNat ≤ sizeLine := by rw [List.size_toArray, ← hl]; exact hz
  have hcap : ¬ its.toArray.size * k.toNat > (2 ^ 63 - 1) / 8 := by
    have : (sizeLine : Nat) ≤ (2 ^ 63 - 1) / 8 := by decide
    omega
  have hfit : ¬ (!Builtin.List.listFitsIndex k) = true := by
    rw [fitsIndex_both h1 h2]
    exact Bool.false_ne_true
  have hlong : ¬ Builtin.List.listTooLong (its.toArray.size * k.toNat) = true := by
    rw [notLongL hlen]
    exact Bool.false_ne_true
  have hnew : List.foldl (fun x1 x2 => x1 ++ x2) #[] (List.replicate (if its.toArray.isEmpty = true then 0 else k.toNat) its.toArray) = (List.replicate k.toNat its).flatten.toArray := by
    have f0 : ∀ m : Nat, List.foldl (fun x1 x2 => x1 ++ x2) #[] (List.replicate m its.toArray) = (List.replicate m its).flatten.toArray := fun m => by
      have := foldl_rep its m []
      rw [List.nil_append] at this
      exact this
    rw [f0]
    cases its with
    | nil => simp
    | cons a r' => rw [if_neg (by simp)]
  refine wpAny_binaryOp_repeat_ref (T := "list") (U := "int") (by decide) ⟨_, e, rfl⟩ (fun s' => typeIs_int s' k t) noFill_list_mul F.fills_int_mul F.slot_int_rmul repeat_list F.slot_int_index.lookup
    (call_meets F.slot_int_rmul (typeIs_int s k t) F.entry_int_rmul (F.args_int_rmul_2 _ _) (int___rmul___int_list k t l its.toArray n)
      ⟨e, rfl, ⟨_, e, rfl⟩, call_meets F.slot_list_mul ⟨_, e, rfl⟩ F.entry_list_mul (F.args_list_mul_2 _ _) (AutoListH.list___mul___list_int_3 l its.toArray n k t hfit hcap hlong) ⟨e, ?_⟩⟩)
  rw [hnew]
  exact ⟨.ref _, _, I.lnew (t' := s.toks) (r.rep k.toNat) (by rw [len_rep, Nat.mul_comm]; exact hz), rfl, q _ I.fresh⟩

/-! ### del xs[i] -/
theorem del_list {pins : List (Addr × Obj)} {s : Shared} {σ : St} {H : Hp} {l : Addr} {xs : List V} {i : Int} {t : Tok} {k : Nat} {Q : Unit → Shared → Prop} (I : Inv X pins σ H s) (hH : H l = some (.lst xs))
    (h1 : -(2 ^ 63) ≤ i) (h2 : i < 2 ^ 63) (hk : seqIndex? i xs.length = some k) (h : ∀ s', Inv X pins σ (upd H l (.lst (xs.eraseIdx k))) s' → Q () s') :
    wpAny (model X.prog X.w) X.A (delItem (.ref l) (.int i t)) Q X.xe s := by
  obtain ⟨z, its, n, r, hl, e⟩ := I.lstM hH
  refine PySem.P.delItem_list (k := k) e (fitsIndex_both h1 h2) (by rw [List.size_toArray, ← hl]; exact hk) (h _ ?_) (by rw [List.size_toArray]; omega)
  refine I.lset (its' := its.eraseIdx k) (t' := s.toks) hH e ?_ (r.eraseIdx k) ?_
  · show its.toArray.eraseIdxIfInBounds k = (its.eraseIdx k).toArray
    rw [List.eraseIdxIfInBounds_toArray]
  · have := len_erase xs k
    omega
end

/-! ### xs[a:b] = ys -/
section
variable {prog : Program} {w : World} {A : Around} {E : Value → Shared → Prop} {s : Shared}
theorem splice_eq (its its2 : List Value) (a c : Nat) : its.toArray.extract 0 a ++ its2.toArray ++ its.toArray.extract c its.toArray.size = (its.take a ++ its2 ++ its.drop c).toArray := by
  apply Array.toList_inj.mp
  first
    | (simp
       exact List.take_of_length_le (by simp))
    | simp [List.take_of_length_le]
    | simp
theorem bounds_run {a c n : Nat} (hac : a ≤ c) (hc : c ≤ n) : sliceBounds (some (a : Int)) (some (c : Int)) none n = ((a : Int), (c : Int), 1) := by
  simp only [sliceBounds, Option.getD_none]
  have h1 : ¬ ((a : Int) < 0) := by omega
  have h2 : ¬ ((c : Int) < 0) := by omega
  simp only [h1, h2, if_false, show (1 : Int) > 0 by decide, if_true]
  congr 1
  · omega
  · congr 1; omega
set_option maxRecDepth 100000 in
/-- list.__setitem__ with a slice of step one and another list -/
theorem setItem_slice {l b sl : Addr} {items new : Array Value} {n n2 : Nat} {vl vu : Value} {a c : Nat} {Q : Unit → Shared → Prop}
    (e : s.heap.get? l = some { cls := .type "list", data := .seq items n }) (e2 : s.heap.get? b = some { cls := .type "list", data := .seq new n2 }) (hne : l ≠ b)
    (hs : s.heap.IsSliceOf sl vl vu .none) (pl : IsPart vl (some (a : Int))) (pu : IsPart vu (some (c : Int))) (hac : a ≤ c) (hc : c ≤ items.size)
    (hsz : items.size + new.size ≤ sizeLine) (h : Q () { s with heap := s.heap.update l (Obj.mapSeq fun xs => xs.extract 0 a ++ new ++ xs.extract c xs.size) }) :
    wpAny (model prog w) A (setItem (.ref l) (.ref sl) (.ref b)) Q E s := by
  have hl : s.heap.IsList l items := PySem.IsL.isList e
  have hb : s.heap.IsList b new := PySem.IsL.isList e2
  obtain ⟨os, hos, hcs, hds⟩ := id hs
  have hTs : s.TypeIs (.ref sl) "slice" := ⟨os, hos, hcs⟩
  have hstep : ¬ ((rawPart none == rawInt 0) = true) := Bool.false_ne_true
  have hsame : Builtin.List.listSameRef (.ref l) (.ref b) = false := by
    unfold Builtin.List.listSameRef
    exact beq_eq_false_iff_ne.mpr hne
  have hmax : (max (a : Int) (c : Int)).toNat = c := by omega
  have hz' : ((fun xs : Array Value => xs.extract 0 a ++ new ++ xs.extract c xs.size) items).size ≤ sizeLine + 1 := by
    simp only [Array.size_append, Array.size_extract]
    omega
  unfold setItem
  try with_reducible refine wpAny_holding ?_
  first | refine wpAny_bind (wpAny_pure ?_) | skip
  refine wpAny_bind (wpAny_sequenceKey hl.typeIs (by decide) ?_)
  refine wpAny_bind (wpAny_callSpecial?_slot (name := Str.ofString "__setitem__") hl.typeIs slot_list_setitem
    (wpAny_call_entry slot_list_setitem hl.typeIs entry_list_setitem ?_ (args_list_setitem _ _ _)))
  show wpAny _ _ (Builtin.List.listSubscript? (.ref sl) >>= _) _ _ s
  refine wpAny_bind ?_
  unfold Builtin.List.listSubscript?
  refine wpAny_bind (wpAny_specialOf hTs slice_no_index ?_)
  simp only [Option.isNone_none, if_true]
  refine wpAny_pure ?_
  show wpAny _ _ (typeOf (.ref sl) >>= _) _ _ s
  refine wpAny_bind (wpAny_typeOf hTs ?_)
  first
    | rw [if_neg (by decide)]
    | refine PySem.W.KFB.if_not (by decide) ?_
  rw [listSliceParts_eq]
  refine wpAny_bind (wpAny_bind (wpAny_field hos hds (x := .none) rfl (wpAny_bind (wpAny_listPart .none ?_))))
  rw [if_neg hstep]
  refine wpAny_bind (wpAny_field hos hds (x := vl) rfl (wpAny_bind (wpAny_listPart pl ?_)))
  refine wpAny_bind (wpAny_field hos hds (x := vu) rfl (wpAny_bind (wpAny_listPart pu (wpAny_pure ?_))))
  first
    | simp only [hsame, Bool.false_eq_true, if_false]
    | refine PySem.W.KFB.if_not hsame ?_
    | (dsimp only
       rw [if_neg (by rw [hsame]; exact Bool.false_ne_true)])
  refine wpAny_bind (m := Builtin.List.listAllItems (.ref b) "must assign iterable to extended slice") ?_
  unfold Builtin.List.listAllItems
  refine wpAny_bind (wpAny_typeOf hb.typeIs ?_)
  first
    | refine PySem.W.KFB.if_so (by decide) ?_
    | rw [if_pos (by decide)]
    | simp only [beq_self_eq_true, Bool.true_or, if_true]
  unfold Builtin.List.listItems
  refine wpAny_bind (wpAny_seqItems e2 rfl (wpAny_pure ?_))
  refine wpAny_bind (wpAny_bind (wpAny_seqItems e rfl (wpAny_pure ?_)))
  refine wpAny_bind (wpAny_of_eq ((sliceIndices_raw (some (a : Int)) (some (c : Int)) none items.size (by simp)).trans (congrArg (pure : Int × Int × Int → Sem (Int × Int × Int)) (bounds_run hac hc))) ?_)
  show wpAny _ _ (if ((1 : Int) == 1) = true then _ else _) _ _ s
  rw [if_pos (by decide)]
  refine wpAny_bind (wpAny_rule ?_)
  first
    | simp only [notLongL hsz, Bool.false_eq_true, if_false]
    | refine PySem.W.KFB.if_not (notLongL hsz) ?_
  first | refine wpAny_bind (wpAny_pure ?_) | skip
  show wpAny _ _ (updateSeq l (fun xs => xs.extract 0 ((a : Int)).toNat ++ new ++ xs.extract (max (a : Int) (c : Int)).toNat xs.size) >>= _) _ _ s
  rw [hmax, Int.toNat_natCast]
  refine wpAny_bind (wpAny_updateSeq (hz := Nat.le_trans (Nat.le_add_right _ _) hsz) (_hz' := hz') e rfl ?_)
  refine wpAny_bind (wpAny_letGo ?_)
  first
    | exact wpAny_bind (wpAny_pure (wpAny_pure ⟨.none, rfl, wpAny_pure h⟩))
    | exact wpAny_pure ⟨.none, rfl, wpAny_pure h⟩
end

section
variable {X : Cx}
/-- xs[a:c] = ys of another list, at the value level: sl is the slice object that was just made -/
theorem set_slice {pins : List (Addr × Obj)} {s : Shared} {σ : St} {H : Hp} {l b sl : Addr} {xs ys : List V} {a c : Int} {vl vu : Value} {Q : Unit → Shared → Prop} (I : Inv X pins σ H s)
    (hH : H l = some (.lst xs)) (hB : H b = some (.lst ys)) (hne : l ≠ b) (hs : s.heap.IsSliceOf sl vl vu .none) (ra : RelV (.int a) vl) (rc : RelV (.int c) vu) (h0 : 0 ≤ a) (hac : a ≤ c) (hc : c ≤ xs.length)
    (hz : xs.length + ys.length ≤ sizeLine) (h : ∀ s', Inv X pins σ (upd H l (.lst (xs.take a.toNat ++ ys ++ xs.drop c.toNat))) s' → Q () s') :
    wpAny (model X.prog X.w) X.A (setItem (.ref l) (.ref sl) (.ref b)) Q X.xe s := by
  obtain ⟨ta, rfl⟩ := ra
  obtain ⟨tc, rfl⟩ := rc
  obtain ⟨z, its, n, r, hl, e⟩ := I.lstM hH
  obtain ⟨z2, its2, n2, r2, hl2, e2⟩ := I.lstM hB
  obtain ⟨a', rfl⟩ := Int.eq_ofNat_of_zero_le h0
  obtain ⟨c', rfl⟩ := Int.eq_ofNat_of_zero_le (Int.le_trans h0 hac)
  simp only [Int.toNat_natCast] at h
  refine setItem_slice (a := a') (c := c') e e2 hne hs (.int _ _) (.int _ _) (by omega) (by rw [List.size_toArray]; omega) (by rw [List.size_toArray, List.size_toArray]; omega) (h _ ?_)
  refine I.lset (its' := its.take a' ++ its2 ++ its.drop c') (t' := s.toks) hH e ?_ (Vals.append (Vals.append (r.take _) r2) (r.drop _)) ?_
  · exact splice_eq its its2 a' c'
  · rw [List.length_append, List.length_append, List.length_take, List.length_drop]
    omega
end
end L2

namespace Att
open PySem PySem.W PySem.Calls PyProof.Rows

/-! ### the script -/
theorem ints_of_wellAll {P : Params} {h : Heap} : ∀ (ns : List Int) (vs : List Value), WellAll P h vs (ns.map WData.int) → IntsAre vs ns := by
  intro ns
  induction ns with
  | nil =>
    intro vs w
    rw [List.map_nil] at w
    cases w
    exact .nil
  | cons n ns ih =>
    intro vs w
    rw [List.map_cons] at w
    cases w with
    | cons a b =>
      cases a
      exact .cons _ _ (ih _ b)

theorem script_of {l : OpenLaw} {n : Nat} (hn : l.most = some n) {P : Params} {h : Heap} {args : List WData} {vals : List Value}
    (hpre : l.row.toRowW.claim.pre args = true) (hwl : WellAll P h vals args) :
    ∃ a vs ns, vals = [Value.ref a] ∧ args = [WData.list (ns.map WData.int)] ∧ h.get? a = some { cls := .type "list", data := .seq vs.toArray } ∧ IntsAre vs ns ∧ ns.length ≤ n := by
  have hsh : WShape.hasAll [] args [.list .int] = true := (pre_splitW hpre).1
  have hc : l.pre.holds [] { args := args } = true := (pre_splitW hpre).2
  obtain ⟨d, r, rfl, h1, h2⟩ := hasAllW_cons hsh
  obtain rfl := hasAllW_nil h2
  obtain ⟨xs, rfl, h3⟩ := hasW_list h1
  obtain ⟨ns, rfl⟩ := items_int h3
  have hlen : ns.length ≤ n := by
    unfold OpenLaw.pre at hc
    have h4 : (WTm.not (.lt (.lit (.int (n : Int))) (.len (.arg 0)))).holds [] { args := [.list (ns.map .int)] } = true := by
      have h4 := (holds_andW hc).1
      rw [hn] at h4
      exact h4
    have h5 := condW_of h4 (w_not (w_lt w_lit (w_len_list (w_arg rfl))))
    rw [List.length_map] at h5
    refine Nat.le_of_not_lt fun q => ?_
    have q' : (n : Int) < ((ns.length : Nat) : Int) := by omega
    first
      | (rw [decide_eq_true q'] at h5; exact absurd h5 (by decide))
      | (simp at h5; omega)
  cases hwl with
  | cons w1 w2 =>
    cases w2
    cases w1 with
    | list ho hall => exact ⟨_, _, ns, rfl, rfl, ho, ints_of_wellAll ns _ hall, hlen⟩

theorem post_true (l : OpenLaw) (args : List WData) : l.row.toRowW.claim.post args (.bool true) args = true :=
  postW_of (r := l.row.toRowW) (X := (true == true))
    (show WShape.has [] (.bool true) .bool = true by first | rfl | decide | simp [WShape.has, WShape.arms, WShape.armsAll])
    (show (WTm.eq .res (.lit (.bool true))).value [] { args := args, res := some (.bool true), after := args } = some (.bool (true == true)) from w_eq_bool (w_res rfl) w_lit) rfl

/-! ### the attachment: holds_open's last premise (the goal 'hc' behind k_head) from a wpAny of the law's body -/
theorem attach {l : OpenLaw} {n : Nat} {q : Program} {loose : List Str} {XP : (Str → Option Value) → Heap → Prop} {YP : World → Heap → Prop} {d : DefRec} {x : Str}
    (hn : l.most = some n) (hdf : d.params.defaults = [])
    (hbind : ∀ pm cd doc v : Value, bindArgs (docDef d.name d.params d.body d.scope pm cd doc) ⟨[v], []⟩ = pure [(x, v)])
    (hx : d.scope.names.lookup x = some .local ∨ d.scope.names.lookup x = some .cell)
    (hk : d.scope.kind = .function) (hco : d.scope.isCoroutine = false) (hgen : d.scope.isGenerator = false)
    (body : ∀ (w : World) (s₀ s₁ s : Shared) (mg mb : Str → Option Value) (fa : Addr) (o : Obj) (pm cd doc : Value) (a : Addr) (vs : List Value) (ns : List Int),
      Ground q loose [] XP w s₀ mg mb s₁.heap → YP w s₁.heap →
      s₁.heap.get? fa = some o → o.data = .func (docDef d.name d.params d.body d.scope pm cd doc) → s₁.heap.CodeRec cd d.name → mg d.name = some (.ref fa) →
      s₁.heap.get? a = some { cls := .type "list", data := .seq vs.toArray } → IntsAre vs ns → ns.length ≤ n →
      s.gens = #[] → s.os = s₁.os →
      Fr s₁.heap s₁.heap.objs.size s.heap (bindL (envOfC d.name d.scope s₁.heap.objs.size fa cd).kindOf [(x, .ref a)] fun _ => none) →
      Cl s₁.heap.objs.size (cellsFrom (s₁.heap.objs.size + 1) d.scope.names []) s.heap (bindC (envOfC d.name d.scope s₁.heap.objs.size fa cd).kindOf [(x, .ref a)] fun _ => none) →
      wpAny (model l.prog w) (callerA.deeper (envOfC d.name d.scope s₁.heap.objs.size fa cd)) (execs d.body (envOfC d.name d.scope s₁.heap.objs.size fa cd))
        (fun f s' => f = .ret (.bool true) ∧ OldK s₁.heap s'.heap ∧ s'.os = s₁.os ∧ AllBare s'.gens) (fun _ _ => False) s) :
    WalkO q loose XP YP l.row.toRowW d [] (fun f vs => PySem.call f vs) := by
  intro w s₀ s₁ mg mb G Y fa o pm cd doc dV kV ho hd hcd hD hmg hg args vals as hpre hlay hrd hwl hlo
  obtain rfl : dV = .none := Dflts.none hD hdf
  obtain rfl : kV = .none := Dflts.noKw hD
  obtain ⟨a, vs, ns, rfl, rfl, hobj, hints, hlen⟩ := script_of hn hpre hwl
  refine enter_call ?_
  refine call_cells_ret (o := o) (by rw [depth_caller]; decide) ho (fd_plain hd) G.T.nolimit hcd (hbind pm cd doc (.ref a)) (fun y hy => ?_) (fun h₁ tk F X => ?_) hco hgen hk
  · obtain rfl : y = (x, Value.ref a) := List.mem_singleton.mp hy
    rcases hx with e | e
    · exact .inl e
    · exact .inr ⟨e, cellsFrom_some _ _ _ (.inl e)⟩
  · refine wpAny_mono (body w s₀ s₁ { s₁ with heap := h₁, toks := tk } mg mb fa o pm cd doc a vs ns G Y ho (fd_plain hd) hcd hmg hobj hints hlen hg rfl F X) (fun f s' hq => ?_) (fun _ _ hq => hq)
    obtain ⟨rfl, h2, h3, h4⟩ := hq
    exact ⟨.inl ⟨.bool true, .bool true, [], rfl, fun _ => rfl, .bool true, post_true l _, fun _ => ⟨List.Pairwise.nil, fun _ hm => (nomatch hm)⟩⟩, h2, h3, h4⟩

/-- the same from a codeAny of the CALL (for a layer whose function contracts speak of calls) -/
theorem attach_call {l : OpenLaw} {n : Nat} {q : Program} {loose : List Str} {XP : (Str → Option Value) → Heap → Prop} {YP : World → Heap → Prop} {d : DefRec}
    (hn : l.most = some n) (hdf : d.params.defaults = [])
    (call : ∀ (w : World) (s₀ s₁ : Shared) (mg mb : Str → Option Value) (fa : Addr) (o : Obj) (pm cd doc : Value) (a : Addr) (vs : List Value) (ns : List Int),
      Ground q loose [] XP w s₀ mg mb s₁.heap → YP w s₁.heap →
      s₁.heap.get? fa = some o → o.data = .func (docDef d.name d.params d.body d.scope pm cd doc) → s₁.heap.CodeRec cd d.name → mg d.name = some (.ref fa) →
      s₁.heap.get? a = some { cls := .type "list", data := .seq vs.toArray } → IntsAre vs ns → ns.length ≤ n → s₁.gens = #[] →
      codeAny (model l.prog w) callerA (.call (.ref fa) ⟨[.ref a], []⟩) (fun r s' => r = .ok (.ret (.bool true)) ∧ OldK s₁.heap s'.heap ∧ s'.os = s₁.os ∧ AllBare s'.gens) s₁) :
    WalkO q loose XP YP l.row.toRowW d [] (fun f vs => PySem.call f vs) := by
  intro w s₀ s₁ mg mb G Y fa o pm cd doc dV kV ho hd hcd hD hmg hg args vals as hpre hlay hrd hwl hlo
  obtain rfl : dV = .none := Dflts.none hD hdf
  obtain rfl : kV = .none := Dflts.noKw hD
  obtain ⟨a, vs, ns, rfl, rfl, hobj, hints, hlen⟩ := script_of hn hpre hwl
  refine enter_call (codeAny_mono (call w s₀ s₁ mg mb fa o pm cd doc a vs ns G Y ho (fd_plain hd) hcd hmg hobj hints hlen hg) fun r s' hq => ?_)
  obtain ⟨rfl, h2, h3, h4⟩ := hq
  exact ⟨.inl ⟨.bool true, .bool true, [], rfl, fun _ => rfl, .bool true, post_true l _, fun _ => ⟨List.Pairwise.nil, fun _ hm => (nomatch hm)⟩⟩, h2, h3, h4⟩

/-- the same where the top left finished generators (o_head chose holds_openN): nothing may have changed at all and no generator may be left -/
theorem attachN {l : OpenLaw} {n : Nat} {q : Program} {loose : List Str} {XP : (Str → Option Value) → Heap → Prop} {YP : World → Heap → Prop} {d : DefRec} {x : Str}
    (hn : l.most = some n) (hdf : d.params.defaults = [])
    (hbind : ∀ pm cd doc v : Value, bindArgs (docDef d.name d.params d.body d.scope pm cd doc) ⟨[v], []⟩ = pure [(x, v)])
    (hx : d.scope.names.lookup x = some .local ∨ d.scope.names.lookup x = some .cell)
    (hk : d.scope.kind = .function) (hco : d.scope.isCoroutine = false) (hgen : d.scope.isGenerator = false)
    (body : ∀ (w : World) (s₀ s₁ s : Shared) (mg mb : Str → Option Value) (fa : Addr) (o : Obj) (pm cd doc : Value) (a : Addr) (vs : List Value) (ns : List Int),
      Ground q loose [] XP w s₀ mg mb s₁.heap → YP w s₁.heap →
      s₁.heap.get? fa = some o → o.data = .func (docDef d.name d.params d.body d.scope pm cd doc) → s₁.heap.CodeRec cd d.name → mg d.name = some (.ref fa) →
      s₁.heap.get? a = some { cls := .type "list", data := .seq vs.toArray } → IntsAre vs ns → ns.length ≤ n →
      s.gens = #[] → s.os = s₁.os →
      Fr s₁.heap s₁.heap.objs.size s.heap (bindL (envOfC d.name d.scope s₁.heap.objs.size fa cd).kindOf [(x, .ref a)] fun _ => none) →
      Cl s₁.heap.objs.size (cellsFrom (s₁.heap.objs.size + 1) d.scope.names []) s.heap (bindC (envOfC d.name d.scope s₁.heap.objs.size fa cd).kindOf [(x, .ref a)] fun _ => none) →
      wpAny (model l.prog w) (callerA.deeper (envOfC d.name d.scope s₁.heap.objs.size fa cd)) (execs d.body (envOfC d.name d.scope s₁.heap.objs.size fa cd))
        (fun f s' => f = .ret (.bool true) ∧ (∀ b o, s₁.heap.get? b = some o → s'.heap.get? b = some o) ∧ s'.os = s₁.os ∧ s'.gens = #[]) (fun _ _ => False) s) :
    WalkN q loose XP YP l.row.toRowW d [] (fun f vs => PySem.call f vs) := by
  intro w s₀ s₁ mg mb G Y fa o pm cd doc dV kV ho hd hcd hD hmg hg args vals as hpre hlay hrd hwl hlo
  obtain rfl : dV = .none := Dflts.none hD hdf
  obtain rfl : kV = .none := Dflts.noKw hD
  obtain ⟨a, vs, ns, rfl, rfl, hobj, hints, hlen⟩ := script_of hn hpre hwl
  refine enter_callW ?_
  refine call_cells_ret (o := o) (by rw [depth_caller]; decide) ho (fd_plain hd) G.T.nolimit hcd (hbind pm cd doc (.ref a)) (fun y hy => ?_) (fun h₁ tk F X => ?_) hco hgen hk
  · obtain rfl : y = (x, Value.ref a) := List.mem_singleton.mp hy
    rcases hx with e | e
    · exact .inl e
    · exact .inr ⟨e, cellsFrom_some _ _ _ (.inl e)⟩
  · refine wpAny_mono (body w s₀ s₁ { s₁ with heap := h₁, toks := tk } mg mb fa o pm cd doc a vs ns G Y ho (fd_plain hd) hcd hmg hobj hints hlen hg rfl F X) (fun f s' hq => ?_) (fun _ _ hq => hq)
    obtain ⟨rfl, h2, h3, h4⟩ := hq
    exact ⟨.inl ⟨.bool true, .bool true, [], rfl, fun _ => rfl, .bool true, post_true l _, fun _ => ⟨List.Pairwise.nil, fun _ hm => (nomatch hm)⟩⟩, h2, h3, h4⟩

/-! ### rules over ANY heap (no ledger) from facts about the written part K: the library's own take a ledger (News) for what they write -/
section
variable {prog : Program} {w : World} {A : Around} {E : Value → Shared → Prop} {s : Shared} {K : Frag}

/-- a def of the module, or a method (qual 'C.m'), entered: the frame is the next address; cells behind it -/
theorem call_fn {R : Result → Shared → Prop} {name qual : Str} {params : Arguments} {body : List Stmt} {scope : Scope} {dV kV doc pm cdv ct oc : Value} {an od : Option Addr} {osl : Array (Option Value)} {f : Addr} {args : Args} {binds : List (Str × Value)}
    (X : K.In s.heap) (hlim : s.heap.NoLimit) (ho : K.lookup f = some ⟨oc, od, .func (fnOf name qual params body scope dV kV doc pm an cdv ct), osl⟩) (hcd : codeIn K cdv qual = true) (hroom : A.depth < recursionLimit)
    (hbind : BindsTo s (fnOf name qual params body scope dV kV doc pm an cdv ct) args binds)
    (hkind : (binds.all fun y => scope.names.lookup y.1 == some .local || scope.names.lookup y.1 == some .cell) = true)
    (h : ∀ s₁, InCallC s s.heap.objs.size (bindL (envOfC qual scope s.heap.objs.size f cdv).kindOf binds fun _ => none) (cellsFrom (s.heap.objs.size + 1) scope.names [])
        (bindC (envOfC qual scope s.heap.objs.size f cdv).kindOf binds fun _ => none) s₁ →
      wpAny (model prog w) (A.deeper (envOfC qual scope s.heap.objs.size f cdv)) (execs body (envOfC qual scope s.heap.objs.size f cdv))
        (fun fl s' => R (.ok (.ret (match fl with | .ret v => v | _ => .none))) s')
        (fun e s' => wpAny (model prog w) (A.deeper (envOfC qual scope s.heap.objs.size f cdv)) (leaving (envOfC qual scope s.heap.objs.size f cdv) e) (fun _ s'' => R (.error e) s'') (fun e' s'' => R (.error e') s'') s') s₁)
    (hco : scope.isCoroutine = false) (hgen : scope.isGenerator = false) (hk : scope.kind = .function) : codeAny (model prog w) A (.call (.ref f) args) R s := by
  refine codeAny_call_function hroom (X _ _ ho) rfl hco hgen rfl (codeRec_of X hcd) (hbind _ _ _ _ ?_)
  refine wpAny_newFunctionEnv_cells hk (kindsX hkind _) fun env he s₁ x => ?_
  subst he
  exact ⟨hlim.keeps x.toInCall.keep, codeAny_func (h s₁ x)⟩

/-- C(..): dict at size, instance at size + 1, then __init__ -/
theorem make_obj {R : Result → Shared → Prop} {C fI : Addr} {rest : List Value} {kw : List (Str × Value)}
    (X : K.In s.heap) (hm : makesIn K C = true) (hi : findIn K (.ref C) "__init__" = some (some (.ref fI))) (hf : isFn K (.ref fI) = true)
    (h : codeAny (model prog w) (A.under (.builtin "type.__call__" ⟨.ref C :: rest, kw⟩)) (.call (.ref fI) ⟨.ref (s.heap.objs.size + 1) :: rest, kw⟩) (InitBack (s.heap.objs.size + 1) R)
      { s with heap := (s.heap.push emptyDict).push (instObj C s.heap.objs.size) }) : codeAny (model prog w) A (.call (.ref C) ⟨rest, kw⟩) R s := by
  obtain ⟨hh, g, d, t, os⟩ := s
  exact make_core (makes_of X hm) (looks_findIn X hi) (fun self => bind_fn X self (beq_iff_eq.mp hf)) (.inl rfl) h

/-- x.name where the instance's dict holds the name and the class does not -/
theorem get_field {x C : Addr} {ox : Obj} {es : List DictEntry} {n : Nat} {name : Str} {expr : Bool} {v : Value} {Q : Value → Shared → Prop}
    (X : K.In s.heap) (I : PySem.W.InstAt s.heap x ox C (some (dictOf es n))) (hg : plainGet K C name = true) (hh : hasDictIn K C = true) (ha : findIn K (.ref C) name = some none)
    (hl : getL name es = some (some v)) (hv : handedIn v = true) (h : Q v { s with toks := s.toks + 1 }) : wpAny (model prog w) A (getAttr (.ref x) name expr) Q E s :=
  get_value X I (plainGet_of hg).1 (findObj_own hh ha rfl hl) hv h

/-- x.m(..): the method found in the class -/
theorem get_method {x C f : Addr} {ox : Obj} {es : List DictEntry} {n : Nat} {name : Str} {pl : Sem Bool} {Q : Value × List Value → Shared → Prop}
    (X : K.In s.heap) (I : PySem.W.InstAt s.heap x ox C (some (dictOf es n))) (hg : plainGet K C name = true) (hf : findIn K (.ref C) name = some (some (.ref f))) (ht : isFn K (.ref f) = true)
    (hl : getL name es = some none) (h : Q (.ref f, [.ref x]) s) : wpAny (model prog w) A (getMethod (.ref x) name pl) Q E s :=
  method_fn X I (plainGet_of hg).1 (plainGet_of hg).2 hf (beq_iff_eq.mp ht) (by show (lookIn name (dictOf es n)).map _ = _; rw [lookIn_dict, hl]; rfl) h

/-! the whole heap as the ledger: makes every rule that writes through a ledger a rule over any heap -/
def noObjs (h : Heap) : Heap := { h with objs := #[] }
theorem noObjs_get (h : Heap) (b : Addr) : (noObjs h).get? b = none := by
  cases e : (noObjs h).get? b with
  | none => rfl
  | some o => exact absurd (Heap.lt_size e) (Nat.not_lt_zero _)
def ledger (h : Heap) (L d : Addr) : List (Addr × Obj) := (List.range h.objs.size).filterMap fun a => if a = L ∨ a = d then none else (h.get? a).map fun o => (a, o)
theorem mem_ledger {h : Heap} {L d a : Addr} {o : Obj} : (a, o) ∈ ledger h L d ↔ a ≠ L ∧ a ≠ d ∧ h.get? a = some o := by
  unfold ledger
  rw [List.mem_filterMap]
  constructor
  · rintro ⟨b, _, e⟩
    split at e
    · cases e
    · rename_i hb
      obtain ⟨o', ho, e'⟩ := Option.map_eq_some_iff.mp e
      cases e'
      exact ⟨fun q => hb (.inl q), fun q => hb (.inr q), ho⟩
  · rintro ⟨n1, n2, ho⟩
    refine ⟨a, List.mem_range.mpr (Heap.lt_size ho), ?_⟩
    rw [if_neg (show ¬ (a = L ∨ a = d) from fun q => q.elim n1 n2), ho] <;> rfl
theorem news_ledger {h : Heap} {L d : Addr} {od : Obj} (hne : d ≠ L) (ho : h.get? d = some od) : News (noObjs h) L h ([] ++ (d, od) :: ledger h L d) := by
  rintro ⟨a, o⟩ hp
  rcases List.mem_cons.mp hp with e | hp
  · cases e
    exact ⟨ho, hne, noObjs_get _ _⟩
  · obtain ⟨n1, n2, e⟩ := mem_ledger.mp hp
    exact ⟨e, n1, noObjs_get _ _⟩
theorem fr_all {h : Heap} {L : Addr} {m : Str → Option Value} (n : h.Ns L m) : Fr (noObjs h) L h m :=
  ⟨n, fun b o e => (by rw [noObjs_get] at e; cases e), Nat.zero_le _⟩
/-- Upd of the head entry (for append_K, setItem_K ..) -/
theorem upd_ledger {h : Heap} {L d : Addr} {o o' : Obj} : Upd d o o' ((d, o) :: ledger h L d) ((d, o') :: ledger h L d) :=
  .head fun ⟨_, _⟩ hp => (mem_ledger.mp hp).2.1

/-- x.name = v over any heap: L is any namespace of the heap (the frame's, say): its map stays, its object is not told; all else but the dict stays -/
theorem set_field {x C dx L : Addr} {ox : Obj} {m : Str → Option Value} {es es' : List DictEntry} {n n' : Nat} {name : Str} {v : Value} {Q : Unit → Shared → Prop}
    (X : K.In s.heap) (I : PySem.W.InstAt s.heap x ox C (some (dictOf es n))) (hd : ox.dict = some dx) (hL : s.heap.Ns L m) (hne : dx ≠ L)
    (hs : findIn K (.ref C) "__setattr__" = some (some (.builtin "object.__setattr__"))) (hp : plainOver K C = true) (ht : takerIn K C name = some none) (hh : hasDictIn K C = true) (hl : (getL name es).isSome = true)
    (e : (putL name (PyData.keyHash w.params name) (.str name (s.toks + 1)) v es, putN name es n) = (es', n')) (hz : es'.length ≤ 1000)
    (h : ∀ h' : Heap, h'.Ns L m → h'.get? dx = some (dictOf es' n') → (∀ b o, b ≠ dx → b ≠ L → s.heap.get? b = some o → h'.get? b = some o) → Q () { s with heap := h', toks := s.toks + 2 }) :
    wpAny (model prog w) A (setAttr (.ref x) name v) Q E s := by
  obtain ⟨e1, e2⟩ := Prod.mk.inj e
  have hdx : s.heap.get? dx = some (dictOf es n) := by
    have := I.dict
    rw [hd] at this
    exact this
  refine set_plain X I hs (osa_dict (s := { s with toks := s.toks + 1 }) (h₀ := noObjs s.heap) (L := L) (m := m) (od := dictOf es n) (od' := dictOf es' n') (es := es') (n := n') (pre := []) (post := ledger s.heap L dx)
    (fr_all hL) (news_ledger hne hdx) X I hd hp ht hh hl (fun _ q => nomatch q) (fun ⟨_, _⟩ q => (mem_ledger.mp q).2.1) (by rw [putName_dict, e1, e2]) rfl hz fun h' F' N' => ?_)
  exact h h' F'.ns (N'.get (List.Mem.head _)) fun b o n1 n2 ho => N'.get (List.Mem.tail _ (mem_ledger.mpr ⟨n2, n1, ho⟩))
end
end Att

namespace L2
open PySem PySem.Spec PyProof.Rows

theorem vals_ints : ∀ {vs : List Value} {ns : List Int}, IntsAre vs ns → Vals (ns.map V.int) vs
  | _, _, .nil => .nil
  | _, _, .cons n t h => .cons ⟨t, rfl⟩ (vals_ints h)

/-- nothing is tracked but the script, known to the object (or it is an object of the module) -/
def Only (H : Hp) : Prop := ∀ b, H b = none ∨ ∃ o xs, H b = some (.frz o (.lst xs))

/-- THE HEAD: the law's promise, at the heap behind the top. F, the promise of the law's def, may use that base is part of the heap (so K.In base, base.Ns mainGlobals mg stand in Mod) -/
theorem law_call {P : Program} {w : World} {K : PySem.W.Frag} {mg mb : Str → Option Value} {CX : CXT} {k : Nat} {fa a : Addr} {fd : FuncData} {x : Str} {sp : Sp} {s₁ : Shared} {vs : List Value} {ns : List Int}
    (KX : K.In s₁.heap) (hns : s₁.heap.Ns mainGlobals mg) (hb : s₁.heap.Ns builtinsNs mb) (hbb : ∀ x : Str, x ≠ "__name__" → mb x = bootBuiltins x) (hlim : s₁.heap.NoLimit) (hg : s₁.gens = #[])
    (ha : s₁.heap.get? a = some { cls := .type "list", data := .seq vs.toArray }) (hi : IntsAre vs ns) (hl : ns.length ≤ sizeLine) (hr : Room k callerA)
    (F : ∀ base : Heap, K.In base → base.Ns mainGlobals mg → FnOk P w K mg base CX k fa fd [x] sp) (hbind : ∀ (s : Shared) (u : Value), BindsTo s fd ⟨[u], []⟩ [(x, u)])
    (hsp : ∀ H : Hp, Only H → SqL K H a (ns.map V.int) → sp [.ref a] H (fun v _ => v = .bl true) fun _ _ _ => False)
    (hCX : ∀ H e s', CX [] H s₁ (fun _ _ _ => False) e s' → False) :
    codeAny (model P w) callerA (.call (.ref fa) ⟨[.ref a], []⟩) (fun r s' => r = .ok (.ret (.bool true)) ∧ OldK s₁.heap s'.heap ∧ s'.os = s₁.os ∧ AllBare s'.gens) s₁ := by
  have rv := vals_ints hi
  have lenV := hi.length
  -- from an abstract heap in which nothing but the script may be tracked
  have core : ∀ H : Hp, Only H → SqL K H a (ns.map V.int) → HOk P w H s₁.heap → (∀ b, H b ≠ none → b = a) → (H a ≠ none → K.lookup a = none) →
      codeAny (model P w) callerA (.call (.ref fa) ⟨[.ref a], []⟩) (fun r s' => r = .ok (.ret (.bool true)) ∧ OldK s₁.heap s'.heap ∧ s'.os = s₁.os ∧ AllBare s'.gens) s₁ := by
    intro H hO hS hok hA hK
    have base_of : ∀ {b : Addr} {o : Obj}, s₁.heap.get? b = some o → H b = none → (hidT s₁.heap H).get? b = some o := fun e n => hidT_get e n
    have noA : ∀ {b : Addr} {o : Obj} {es : Array DictEntry} {ep : Nat}, s₁.heap.get? b = some o → o.data = .dict es ep → H b = none := fun {b o es ep} e d => by
      cases q : H b with
      | none => rfl
      | some u =>
        have e' : b = a := hA b (by rw [q]; simp)
        subst e'
        rw [ha] at e; cases e
        have d' : Data.seq vs.toArray _ = Data.dict es ep := d
        cases d'
    have nsK : ∀ {b : Addr} {m : Str → Option Value}, s₁.heap.Ns b m → (hidT s₁.heap H).Ns b m := fun {b m} ⟨o, es, ep, e, d, r⟩ => ⟨o, es, ep, base_of e (noA e d), d, r⟩
    have hKb : K.In (hidT s₁.heap H) := fun b o e => base_of (KX b o e) (by
      cases q : H b with
      | none => rfl
      | some u =>
        have e' : b = a := hA b (by rw [q]; simp)
        subst e'
        rw [hK (by rw [q]; simp)] at e; cases e)
    have hM : Mod K mg (hidT s₁.heap H) := ⟨hKb, nsK hns, ⟨mb, nsK hb, hbb⟩, let ⟨mc, h1, h2⟩ := hlim; ⟨mc, nsK h1, h2⟩⟩
    have e0 : Env0 P w K mg (hidT s₁.heap H) callerA [] s₁ H := ⟨rfl, hM, fun b o e => of_hidT e, Nat.le_of_eq (hidT_size _ _), trivial, fun b hb => absurd (show b ∈ ([] : List Addr) from hb) (by simp), hok, .of_eq hg⟩
    refine codeAny_mono ((F _ hKb (nsK hns)).run callerA [] s₁ H ⟨[.ref a], []⟩ [.ref a] [.ref a] _ _ hr e0 (hbind s₁ (.ref a)) (.cons rfl .nil) (hsp H hO hS)) fun r s' h => ?_
    cases r with
    | error e => exact (hCX H e s' h).elim
    | ok fl =>
      cases fl with
      | next => exact False.elim h
      | brk => exact False.elim h
      | cont => exact False.elim h
      | ret u =>
        obtain ⟨v, H', os, bare, un, hok', r', q⟩ := h
        have q' : v = .bl true := q
        subst q'
        obtain rfl : u = Value.bool true := r'
        refine ⟨rfl, OldK.of_keep fun b o e => ?_, os, bare⟩
        cases q : H b with
        | none => exact un.keep b o e q (by intro z; exact absurd (show b ∈ ([] : List Addr) from z) (by simp)) (by simp)
        | some u =>
          rcases hO b with z | ⟨ob, xs, z⟩
          · rw [q] at z; cases z
          · have z2 := un.frzs b ob _ z
            obtain ⟨e1, _⟩ := hok b _ z
            obtain ⟨e2, _⟩ := hok' b _ z2
            rw [e] at e1; cases e1
            exact e2
  cases hk : K.lookup a with
  | some o =>
    -- the script is one of the module's own objects
    have e := KX a o hk
    rw [ha] at e
    cases e
    refine core (fun _ => none) (fun _ => .inl rfl) (.inr ⟨_, vs.toArray, _, hk, rfl, rfl, rfl, by rw [List.size_toArray, lenV]; exact hl, by simpa using rv⟩) (fun b u z => by have z' : (none : Option HO) = some u := z; cases z') (fun b z => absurd rfl z) fun z => absurd rfl z
  | none =>
    refine core (fun b => if b = a then some (.frz { cls := .type "list", data := .seq vs.toArray } (.lst (ns.map V.int))) else none) (fun b => ?_) (.inl (.inr ⟨{ cls := .type "list", data := .seq vs.toArray }, if_pos rfl⟩)) (fun b u z => ?_) (fun b z => ?_) fun _ => hk
    · by_cases hb : b = a
      · exact .inr ⟨_, _, if_pos hb⟩
      · exact .inl (if_neg hb)
    · by_cases hb : b = a
      · have z' := (if_pos hb).symm.trans z
        cases z'
        subst hb
        exact ⟨ha, by rw [List.length_map]; exact hl, vs, _, rv, ha⟩
      · have z' := (if_neg hb).symm.trans z
        cases z'
    · by_cases hb : b = a
      · exact hb
      · exact absurd (if_neg hb) z
end L2

namespace L2
open PySem PySem.Spec PyProof.Rows

abbrev KOf {K : PySem.W.Frag} {h : Heap} (_ : K.In h) : PySem.W.Frag := K

/-- the goal that k_head leaves (case hc), from the law's promise. F gives the function object fd (K's own) once, then the promise over every base -/
theorem walk_of {l : PySem.W.OpenLaw} {n k : Nat} {q : Program} {loose : List Str} {XP : (Str → Option Value) → Heap → Prop} {YP : World → Heap → Prop} {d : DefRec} {K : Params → PySem.W.Frag} {CX : World → CXT} {sp : World → Sp} {x : Str}
    (hn : l.most = some n) (hn2 : n ≤ sizeLine) (hdf : d.params.defaults = []) (hr : Room k callerA)
    (hY : ∀ (w : World) (h : Heap), YP w h → (K w.params).In h)
    (F : ∀ (w : World) (mg : Str → Option Value) (fa : Addr) (h : Heap), (K w.params).In h → h.Ns mainGlobals mg → mg d.name = some (.ref fa) →
      ∃ fd : FuncData, (∀ (s : Shared) (u : Value), BindsTo s fd ⟨[u], []⟩ [(x, u)]) ∧
        ∀ base : Heap, (K w.params).In base → base.Ns mainGlobals mg → FnOk l.prog w (K w.params) mg base (CX w) k fa fd [x] (sp w))
    (hsp : ∀ (w : World) (H : Hp) (a : Addr) (ns : List Int), ns.length ≤ n → Only H → SqL (K w.params) H a (ns.map V.int) → sp w [.ref a] H (fun v _ => v = .bl true) fun _ _ _ => False)
    (hCX : ∀ (w : World) (H : Hp) (s : Shared) (e : Value) (s' : Shared), CX w [] H s (fun _ _ _ => False) e s' → False) :
    PySem.W.WalkO q loose XP YP l.row.toRowW d [] (fun f vs => PySem.call f vs) := by
  refine Att.attach_call hn hdf fun w s₀ s₁ mg mb fa o pm cd doc a vs ns G Y ho hd hcd hmg hobj hints hlen hg => ?_
  have KX := hY w _ Y
  obtain ⟨fd, hb, hF⟩ := F w mg fa _ KX G.T.g hmg
  exact law_call KX G.T.g G.T.b G.T.builtins G.T.nolimit hg hobj hints (Nat.le_trans hlen hn2) hr hF hb (fun H hO hS => hsp w H a ns hlen hO hS) fun H e s' => hCX w H s₁ e s'
/-- the same where the promise hangs on the written part alone: (sp := My.sp_law), no hole under a binder -/
theorem walk_ofK {l : PySem.W.OpenLaw} {n k : Nat} {q : Program} {loose : List Str} {XP : (Str → Option Value) → Heap → Prop} {YP : World → Heap → Prop} {d : DefRec} {K : Params → PySem.W.Frag} {CX : CXT} {sp : PySem.W.Frag → Sp} {x : Str}
    (hn : l.most = some n) (hn2 : n ≤ sizeLine) (hdf : d.params.defaults = []) (hr : Room k callerA)
    (hY : ∀ (w : World) (h : Heap), YP w h → (K w.params).In h)
    (F : ∀ (w : World) (mg : Str → Option Value) (fa : Addr) (h : Heap), (K w.params).In h → h.Ns mainGlobals mg → mg d.name = some (.ref fa) →
      ∃ fd : FuncData, (∀ (s : Shared) (u : Value), BindsTo s fd ⟨[u], []⟩ [(x, u)]) ∧
        ∀ base : Heap, (K w.params).In base → base.Ns mainGlobals mg → FnOk l.prog w (K w.params) mg base CX k fa fd [x] (sp (K w.params)))
    (hsp : ∀ (K : PySem.W.Frag) (H : Hp) (a : Addr) (ns : List Int), ns.length ≤ n → Only H → SqL K H a (ns.map V.int) → sp K [.ref a] H (fun v _ => v = .bl true) fun _ _ _ => False)
    (hCX : ∀ (H : Hp) (s : Shared) (e : Value) (s' : Shared), CX [] H s (fun _ _ _ => False) e s' → False) :
    PySem.W.WalkO q loose XP YP l.row.toRowW d [] (fun f vs => PySem.call f vs) :=
  walk_of (K := K) (CX := fun _ => CX) (sp := fun w => sp (K w.params)) hn hn2 hdf hr hY F (fun w H a ns h1 h2 h3 => hsp (K w.params) H a ns h1 h2 h3) fun _ H s e s' => hCX H s e s'
end L2

/- THE LAST THEOREM (shape; LID, My.* are yours):
   My.Adr: a structure of the addresses that your layer names (classes, functions); My.Txt K t: a structure (Prop) of the equations over K;
   My.txt_mk : {K} {implicit addresses ..} (e1 : nsIn K mainGlobals "law" = some (some (.ref f))) (e2 : K.lookup f = some ⟨oc, od, .func (fnOf "law" "law" params body scope dV kV doc pm an cdv ct), sl⟩) (e3 : codeIn K cdv "law" = true) .. : ∃ t, My.Txt K t

set_option maxRecDepth 100000 in
set_option maxHeartbeats 0 in
theorem PySem.Challenge.cw_LID_holds : PySem.Challenge.rw_LID.Holds := by
  w_on; o_law; k_head; (case hw => w_witness2)
  k_fill
  refine L2.walk_of (l := PySem.Challenge.rw_LID) (n := 63) (k := 40) (x := "script") (CX := fun w => ..) (sp := fun _ => My.sp_law) rfl (by decide) rfl ⟨rfl, by decide, by decide⟩ (fun w h Y => PySem.W.kIn_of Y) ?F ?S ?C
  case F =>
    intro w mg fa h KX G hmg
    have T : ∃ t, My.Txt (L2.KOf KX) t := by
      dsimp only [L2.KOf]                          -- K must stand as «<heap const> w.params» for k_is
      refine' My.txt_mk ?e1 ?e2 ?e3 ..
      (case e1 => PySem.W.k_is)                    -- in the order: a name -> its address -> its object -> its parts
      (case e2 => PySem.W.k_is)
      ..
    obtain ⟨t, T⟩ := T
    have e0 := hmg.symm.trans (PySem.W.mg_of KX G T.law)
    cases e0                                       -- fa is the law's own address
    exact ⟨_, fun s u => .of_eq rfl, fun base kb nb => My.law_fn T kb nb⟩     -- if «.of_eq rfl» comes too early: refine' ⟨_, ?b, fun base kb nb => My.law_fn T kb nb⟩; exact fun s u => .of_eq rfl
  case S => exact fun w H a ns hl hO hS => ..
  case C => exact ..
(the tactic k_is has no namespace: write k_is) -/

/-! SHORT WORDS over the layer: a def of the text, its body, what a loop and a test want. -/
namespace L2
open PySem PySem.Spec PyProof.Rows

/-! ### the text by places -/
/-- the j-th statement of a class's body -/
def inClass (s : Stmt) (j : Nat) : Stmt := match s with
  | .ClassDef _ _ _ body _ _ _ _ _ _ _ => body.getD j (.Pass ⟨0, 0, 0, 0⟩)
  | _ => .Pass ⟨0, 0, 0, 0⟩
def defArgs (s : Stmt) : Arguments := match s with
  | .FunctionDef _ a _ _ _ _ _ _ _ _ => a
  | _ => { posonlyargs := [], args := [], vararg := none, kwonlyargs := [], kw_defaults := [], kwarg := none, defaults := [] }
def defBody (s : Stmt) : List Stmt := match s with
  | .FunctionDef _ _ b _ _ _ _ _ _ _ => b
  | _ => []
def defScope (s : Stmt) : Scope := match s with
  | .FunctionDef _ _ _ _ _ _ sc _ _ _ => sc
  | _ => { kind := .function, names := [], isGenerator := false, isCoroutine := false }

/-! ### no exception leaves a def -/
abbrev CX0 : CXT := fun _ _ _ _ _ _ => False
abbrev E0 : XK := fun _ _ _ => False
theorem pass0 {X : Cx} : Passes CX0 X E0 := fun _ _ _ _ _ _ _ h => h.elim

/-! ### a def (or method) of the text as it stands behind the top -/
structure Fun (K : PySem.W.Frag) (x qual : Str) (st : Stmt) (f : Addr) (fd : FuncData) : Prop where
  ex : ∃ (oc : Value) (od : Option Addr) (kV doc pm : Value) (an : Option Addr) (cdv ct : Value) (osl : Array (Option Value)),
    fd = PySem.W.fnOf x qual (defArgs st) (defBody st) (defScope st) .none kV doc pm an cdv ct ∧ K.lookup f = some ⟨oc, od, .func fd, osl⟩ ∧ PySem.W.codeIn K cdv qual = true
  kp : PySem.W.keepIn K (.ref f) = true
section
variable {P : Program} {w : World} {K : PySem.W.Frag} {mg : Str → Option Value} {base : Heap}
/-- THE RULE for a def: its body as a term of rules, and the reading of that term -/
theorem Fun.ok {x qual : Str} {st : Stmt} {f : Addr} {fd : FuncData} {N ps : List Str} {k : Nat} {sp : Sp} (F : Fun K x qual st f fd) (S : FnScope N ps (defScope st)) (len : ∀ vs H Q E, sp vs H Q E → vs.length = ps.length)
    (hbody : ∀ (cdv : Value) (A : Around) (outer : List Env) (s : Shared) (H : Hp) (vs : List V) (Q : VK) (E : XK), Room k (A.deeper (envOfC qual (defScope st) s.heap.objs.size f cdv)) → sp vs H Q E →
      ∃ t, PSs (cxOf CX0 P w K mg base N qual (defScope st) f cdv A outer s H E).nox (defBody st) t ∧ t { nx := fun _ H' => Q .non H', rt := Q } (start N vs) H) : FnOk P w K mg base CX0 (k + 1) f fd ps sp := by
  obtain ⟨oc, od, kV, doc, pm, an, cdv, ct, osl, rfl, lk, hcd⟩ := F.ex
  refine fn_of lk hcd S len fun A outer s H vs Q E hr hsp => ?_
  obtain ⟨t, h, q⟩ := hbody cdv A outer s H vs Q E hr hsp
  exact ⟨t, h.nox, q⟩
/-- how its arguments bind (no defaults): h is «fun _ _ _ _ _ _ us hl => match us, hl with | [_, _], _ => rfl», one _ a parameter -/
theorem Fun.binds {x qual : Str} {st : Stmt} {f : Addr} {fd : FuncData} {ps : List Str} (F : Fun K x qual st f fd)
    (h : ∀ (kV doc pm : Value) (an : Option Addr) (cdv ct : Value) (us : List Value), us.length = ps.length → bindArgs (PySem.W.fnOf x qual (defArgs st) (defBody st) (defScope st) .none kV doc pm an cdv ct) ⟨us, []⟩ = pure (ps.zip us)) : Binds K fd ps [] := by
  obtain ⟨oc, od, kV, doc, pm, an, cdv, ct, osl, rfl, lk, hcd⟩ := F.ex
  exact .all (h kV doc pm an cdv ct)
theorem fun_mk {x qual : Str} {st : Stmt} {f : Addr} {oc : Value} {od an : Option Addr} {osl : Array (Option Value)} {kV doc pm cdv ct : Value} (l : K.lookup f = some ⟨oc, od, .func (PySem.W.fnOf x qual (defArgs st) (defBody st) (defScope st) .none kV doc pm an cdv ct), osl⟩)
    (c : PySem.W.codeIn K cdv qual = true) (k : PySem.W.keepIn K (.ref f) = true) : Fun K x qual st f (PySem.W.fnOf x qual (defArgs st) (defBody st) (defScope st) .none kV doc pm an cdv ct) := ⟨⟨oc, od, kV, doc, pm, an, cdv, ct, osl, rfl, l, c⟩, k⟩
end
theorem hu_of {A : Around} {k : Nat} (hr : Room k A) : A.units + 1 < cLine := Nat.lt_of_le_of_lt (Nat.add_le_add_left (by decide : 1 ≤ 64) _) hr.units
theorem small1000 {n : Nat} (h : n ≤ 1000) : n < sizeLine := Nat.lt_of_le_of_lt h (by decide)

/-! ### expressions in short: the name that stands in the i-th slot -/
section
variable {X : Cx}
theorem pv (i : Nat) {x : Str} {pos : Pos} (hN : X.N[i]? = some x := by rfl) (hv : Vis X.env.scope x := by first | exact Or.inl rfl | exact Or.inr (Or.inl rfl) | exact Or.inr (Or.inr rfl)) (hd : (x == ("__debug__" : Str)) = false := by decide)
    (hcd : (x == ("__classdict__" : Str)) = false := by decide) : PE X (.Name x pos) (tVar i) := pe_var hN hv hd hcd
end

/-! ### tests -/
theorem iteF {A B : Prop} (h : B) : if false = true then A else B := by
  rw [if_neg Bool.false_ne_true]
  exact h
theorem iteT {A B : Prop} (h : A) : if true = true then A else B := by
  rw [if_pos rfl]
  exact h
theorem ite2 {c A B : Prop} [Decidable c] (h1 : c → A) (h2 : ¬ c → B) : if c then A else B := by
  by_cases h : c
  · rw [if_pos h]
    exact h1 h
  · rw [if_neg h]
    exact h2 h
theorem iteNS {c A B : Prop} [Decidable c] (hc : c) (h : B) : if (!decide c) = true then A else B := by
  rw [decide_eq_true hc]
  exact iteF h

/-! ### heaps -/
/-- all that was tracked is as it was -/
def Same (H H' : Hp) : Prop := ∀ b o, H b = some o → H' b = some o
theorem Same.refl (H : Hp) : Same H H := fun _ _ h => h
theorem Same.trans {H H1 H2 : Hp} (a : Same H H1) (b : Same H1 H2) : Same H H2 := fun c o h => b c o (a c o h)
theorem Same.free {H H' : Hp} (e : Same H H') {l : Addr} (h : H' l = Option.none) : H l = Option.none := by
  cases q : H l with
  | none => rfl
  | some o =>
    rw [e l o q] at h
    cases h
theorem Same.seq {K : PySem.W.Frag} {H H' : Hp} {a : Addr} {xs : List V} (e : Same H H') (h : SqL K H a xs) : SqL K H' a xs := by
  rcases h with (h | ⟨o, h⟩) | h
  · exact .inl (.inl (e _ _ h))
  · exact .inl (.inr ⟨o, e _ _ h⟩)
  · exact .inr h

end L2

/-! DATA: what a value stands for, without addresses; a def as a function upon data. Over the hand layer. -/
namespace L3
open PySem PySem.Spec PyProof.Rows L2

abbrev Sg := L2.St
/-- data -/
inductive D where
  | non | bl (b : Bool) | int (i : Int) | str (x : Str) | lst (ds : List D) | tup (ds : List D) | dic (ks : List Key) (vs : List D)
  | exn (c : Str) (ns : List Str) (vs : List D)

/-- an exception: its class, its fields -/
structure Xn where
  c : Str
  ns : List Str
  vs : List D

/-- what a piece of code comes to: a result, an exception, or nothing is known -/
inductive R (α : Type) where
  | ok (a : α) | ex (x : Xn) | no
namespace R
def bind {α β : Type} (r : R α) (k : α → R β) : R β := match r with
  | .ok a => k a
  | .ex x => .ex x
  | .no => .no
@[simp] theorem bind_ok {α β : Type} (a : α) (k : α → R β) : (R.ok a).bind k = k a := rfl
@[simp] theorem bind_ex {α β : Type} (x : Xn) (k : α → R β) : (R.ex x).bind k = .ex x := rfl
@[simp] theorem bind_no {α β : Type} (k : α → R β) : (R.no).bind k = .no := rfl
end R

/-- a value of one's own (a new list, seen by nobody else), or a shared one -/
inductive W where
  | sh (d : D) | ow (d : D)
def W.d : W → D
  | .sh d => d
  | .ow d => d
@[simp] theorem W.d_sh (d : D) : (W.sh d).d = d := rfl
@[simp] theorem W.d_ow (d : D) : (W.ow d).d = d := rfl

/-! ### what stands for what -/
mutual
inductive Has (K : PySem.W.Frag) (G : Hp) : V → D → Prop where
  | non : Has K G .non .non
  | bl (b : Bool) : Has K G (.bl b) (.bl b)
  | int (i : Int) : Has K G (.int i) (.int i)
  | str (x : Str) : Has K G (.str x) (.str x)
  | lst {a : Addr} {vs : List V} {ds : List D} (h : SqL K G a vs) (r : HasL K G vs ds) : Has K G (.ref a) (.lst ds)
  | tup {a : Addr} {vs : List V} {ds : List D} (h : SqT K G a vs) (r : HasL K G vs ds) : Has K G (.ref a) (.tup ds)
inductive HasL (K : PySem.W.Frag) (G : Hp) : List V → List D → Prop where
  | nil : HasL K G [] []
  | cons {v : V} {d : D} {vs : List V} {ds : List D} (h : Has K G v d) (r : HasL K G vs ds) : HasL K G (v :: vs) (d :: ds)
end

/-- what stands at an address of one's own -/
inductive Top (K : PySem.W.Frag) (G : Hp) : HO → D → Prop where
  | lst {vs : List V} {ds : List D} (r : HasL K G vs ds) : Top K G (.lst vs) (.lst ds)

theorem Same.tupS {K : PySem.W.Frag} {H H' : Hp} {a : Addr} {xs : List V} (e : Same H H') (h : SqT K H a xs) : SqT K H' a xs := by
  rcases h with (h | ⟨o, h⟩) | h
  · exact .inl (.inl (e _ _ h))
  · exact .inl (.inr ⟨o, e _ _ h⟩)
  · exact .inr h
mutual
theorem Has.mono {K : PySem.W.Frag} {G G' : Hp} (e : Same G G') : ∀ {v : V} {d : D}, Has K G v d → Has K G' v d
  | _, _, .non => .non
  | _, _, .bl b => .bl b
  | _, _, .int i => .int i
  | _, _, .str x => .str x
  | _, _, .lst h r => .lst (e.seq h) (HasL.mono e r)
  | _, _, .tup h r => .tup (Same.tupS e h) (HasL.mono e r)
theorem HasL.mono {K : PySem.W.Frag} {G G' : Hp} (e : Same G G') : ∀ {vs : List V} {ds : List D}, HasL K G vs ds → HasL K G' vs ds
  | _, _, .nil => .nil
  | _, _, .cons h r => .cons (Has.mono e h) (HasL.mono e r)
end
theorem HasL.length {K : PySem.W.Frag} {G : Hp} : ∀ {vs : List V} {ds : List D}, HasL K G vs ds → vs.length = ds.length
  | _, _, .nil => rfl
  | _, _, .cons _ r => by rw [List.length_cons, List.length_cons, r.length]
theorem HasL.append {K : PySem.W.Frag} {G : Hp} : ∀ {vs ws : List V} {ds es : List D}, HasL K G vs ds → HasL K G ws es → HasL K G (vs ++ ws) (ds ++ es)
  | _, _, _, _, .nil, s => s
  | _, _, _, _, .cons h r, s => .cons h (r.append s)
theorem HasL.get {K : PySem.W.Frag} {G : Hp} : ∀ {vs : List V} {ds : List D} {i : Nat} {d : D}, HasL K G vs ds → ds[i]? = some d → ∃ v, vs[i]? = some v ∧ Has K G v d
  | _, _, _, _, .nil, e => by simp at e
  | _, _, 0, _, .cons h _, e => by simp at e; subst e; exact ⟨_, rfl, h⟩
  | _, _, i + 1, d, .cons _ r, e => by
    obtain ⟨u, h1, h2⟩ := HasL.get (i := i) (d := d) r (by simpa using e)
    exact ⟨u, by simpa using h1, h2⟩
theorem HasL.getV {K : PySem.W.Frag} {G : Hp} : ∀ {vs : List V} {ds : List D} {i : Nat} {v : V}, HasL K G vs ds → vs[i]? = some v → ∃ d, ds[i]? = some d ∧ Has K G v d
  | _, _, _, _, .nil, e => by simp at e
  | _, _, 0, _, .cons h _, e => by simp at e; subst e; exact ⟨_, rfl, h⟩
  | _, _, i + 1, d, .cons _ r, e => by
    obtain ⟨u, h1, h2⟩ := HasL.getV (i := i) (v := d) r (by simpa using e)
    exact ⟨u, by simpa using h1, h2⟩
theorem HasL.take {K : PySem.W.Frag} {G : Hp} : ∀ {vs : List V} {ds : List D} (n : Nat), HasL K G vs ds → HasL K G (vs.take n) (ds.take n)
  | _, _, 0, _ => .nil
  | _, _, _ + 1, .nil => .nil
  | _, _, n + 1, .cons h r => .cons h (HasL.take n r)
theorem HasL.drop {K : PySem.W.Frag} {G : Hp} : ∀ {vs : List V} {ds : List D} (n : Nat), HasL K G vs ds → HasL K G (vs.drop n) (ds.drop n)
  | _, _, 0, r => r
  | _, _, _ + 1, .nil => .nil
  | _, _, n + 1, .cons _ r => HasL.drop n r
theorem HasL.set {K : PySem.W.Frag} {G : Hp} {v : V} {d : D} (h : Has K G v d) : ∀ {vs : List V} {ds : List D} (i : Nat), HasL K G vs ds → HasL K G (vs.set i v) (ds.set i d)
  | _, _, _, .nil => .nil
  | _, _, 0, .cons _ r => .cons h r
  | _, _, i + 1, .cons q r => .cons q (HasL.set h i r)
theorem Top.mono {K : PySem.W.Frag} {G G' : Hp} (e : Same G G') {ho : HO} {d : D} (t : Top K G ho d) : Top K G' ho d := by
  cases t with
  | lst r => exact .lst (r.mono e)
theorem Top.has {K : PySem.W.Frag} {G : Hp} {ho : HO} {d : D} {a : Addr} (t : Top K G ho d) (h : G a = some ho) : Has K G (.ref a) d := by
  cases t with
  | lst r => exact .lst (SqL.of h) r

/-! ### steps: H the whole heap, G the part that is spoken of -/
structure Step (G H G' H' : Hp) : Prop where
  hh : Same H H'
  gh : Same G' H'
  gg : Same G G'
  nw : ∀ b, G b = none → H b ≠ none → G' b = none
theorem Step.refl {G H : Hp} (h : Same G H) : Step G H G H := ⟨Same.refl _, h, Same.refl _, fun _ e _ => e⟩
theorem Step.trans {G H G1 H1 G2 H2 : Hp} (a : Step G H G1 H1) (b : Step G1 H1 G2 H2) : Step G H G2 H2 :=
  ⟨a.hh.trans b.hh, b.gh, a.gg.trans b.gg, fun c e n => b.nw c (a.nw c e n) fun z => n (a.hh.free z)⟩
/-- a new object for all -/
theorem same_new {H : Hp} {p : Addr} (h : H p = none) (o : HO) : Same H (upd H p o) := fun b u q => by rw [upd_ne (ne_of_none q h)]; exact q
theorem same_upd {G H : Hp} (h : Same G H) (p : Addr) (o : HO) : Same (upd G p o) (upd H p o) := fun b u q => by
  by_cases e : b = p
  · subst e; rw [upd_same] at q ⊢; exact q
  · rw [upd_ne e] at q ⊢; exact h b u q
theorem Step.new {G H : Hp} (h : Same G H) {p : Addr} (e : H p = none) (o : HO) : Step G H (L2.upd G p o) (L2.upd H p o) :=
  ⟨same_new e o, same_upd h p o, same_new (h.free e) o, fun b n z => by
    by_cases q : b = p
    · subst q; exact absurd e z
    · rw [upd_ne q]; exact n⟩
/-- a new object for oneself -/
theorem Step.own {G H : Hp} (h : Same G H) {p : Addr} (e : H p = none) (o : HO) : Step G H G (L2.upd H p o) :=
  ⟨same_new e o, h.trans (same_new e o), Same.refl _, fun _ n _ => n⟩
/-- what was one's own is given to all -/
theorem Step.give {G H : Hp} {p : Addr} {o : HO} (h : Same G H) (n : G p = none) (e : H p = some o) : Same (L2.upd G p o) H ∧ Same G (L2.upd G p o) :=
  ⟨fun b u q => by
    by_cases z : b = p
    · subst z; rw [upd_same] at q; rw [e]; exact q
    · rw [upd_ne z] at q; exact h b u q, same_new n o⟩

/-! ### what is wanted -/
def WP (K : PySem.W.Frag) (G H : Hp) (w : W) (Q : VK) : Prop := match w with
  | .sh d => ∀ v G' H', Step G H G' H' → Has K G' v d → Q v H'
  | .ow d => ∀ p ho G' H', Step G H G' H' → H p = none → H' p = some ho → G' p = none → Top K G' ho d → Q (.ref p) H'
/-- what is wanted of exceptions -/
structure EXT where
  p : Xn → Hp → Hp → Prop
  mono : ∀ x G H G' H', Step G H G' H' → p x G H → p x G' H'
def EX0 : EXT := ⟨fun _ _ _ => False, fun _ _ _ _ _ _ h => h⟩
def Out (K : PySem.W.Frag) (EX : EXT) (G H : Hp) (r : R W) (Q : VK) : Prop := match r with
  | .ok w => WP K G H w Q
  | .ex x => EX.p x G H
  | .no => False
section
variable {K : PySem.W.Frag} {EX : EXT} {G H G' H' : Hp} {Q Q' : VK} {w : W}
theorem WP.mono (s : Step G H G' H') (h : WP K G H w Q) : WP K G' H' w Q := by
  cases w with
  | sh d => exact fun v G2 H2 s2 r => h v G2 H2 (s.trans s2) r
  | ow d => exact fun p ho G2 H2 s2 e1 e2 e3 t => h p ho G2 H2 (s.trans s2) (s.hh.free e1) e2 e3 t
theorem Out.mono {r : R W} (s : Step G H G' H') (h : Out K EX G H r Q) : Out K EX G' H' r Q := by
  cases r with
  | ok w => exact WP.mono s h
  | ex x => exact EX.mono _ _ _ _ _ s h
  | no => exact h
theorem WP.intro (h : ∀ v G' H', Step G H G' H' → Has K G' v w.d → Q v H') : WP K G H w Q := by
  cases w with
  | sh d => exact h
  | ow d =>
    intro p ho G' H' s e1 e2 e3 t
    obtain ⟨g1, g2⟩ := Step.give s.gh e3 e2
    refine h (.ref p) (upd G' p ho) H' ⟨s.hh, g1, s.gg.trans g2, fun b n z => ?_⟩ ((t.mono g2).has upd_same)
    by_cases q : b = p
    · subst q; exact absurd e1 z
    · rw [upd_ne q]; exact s.nw b n z
theorem WP.sh (h : WP K G H (.sh w.d) Q) : WP K G H w Q := WP.intro h
theorem WP.imp (h : WP K G H w Q) (i : ∀ v H', Q v H' → Q' v H') : WP K G H w Q' := by
  cases w with
  | sh d => exact fun v G2 H2 s2 r => i _ _ (h v G2 H2 s2 r)
  | ow d => exact fun p ho G2 H2 s2 e1 e2 e3 t => i _ _ (h p ho G2 H2 s2 e1 e2 e3 t)
/-- a value that stands already -/
theorem WP.use {d : D} {v : V} (h : WP K G H (.sh d) Q) (s : Same G H) (r : Has K G v d) : Q v H := h v G H (Step.refl s) r
end

abbrev DE := List (Option D)
abbrev FE := DE → R W
abbrev FT := DE → R Bool
abbrev FA := DE → R (List D)
structure HasS (K : PySem.W.Frag) (G : Hp) (σ : Sg) (δ : DE) : Prop where
  len : σ.length = δ.length
  get : ∀ (i : Nat) (d : D), δ[i]? = some (some d) → ∃ v, σ[i]? = some (some v) ∧ Has K G v d
theorem HasS.mono {K : PySem.W.Frag} {G G' : Hp} {σ : Sg} {δ : DE} (e : Same G G') (h : HasS K G σ δ) : HasS K G' σ δ := ⟨h.len, fun i d q => by
  obtain ⟨v, e1, r⟩ := h.get i d q
  exact ⟨v, e1, r.mono e⟩⟩

/-! ### expressions -/
def tD (K : PySem.W.Frag) (EX : EXT) (f : FE) : TE := fun σ H Q => ∃ G δ, Same G H ∧ HasS K G σ δ ∧ Out K EX G H (f δ) Q
def tDt (K : PySem.W.Frag) (EX : EXT) (f : FT) : TT := fun σ H Q => ∃ G δ, Same G H ∧ HasS K G σ δ ∧ match f δ with
  | .ok b => ∀ G' H', Step G H G' H' → Q b H'
  | .ex x => EX.p x G H
  | .no => False
def tDa (K : PySem.W.Frag) (EX : EXT) (f : FA) : TA := fun σ H Q => ∃ G δ, Same G H ∧ HasS K G σ δ ∧ match f δ with
  | .ok ds => ∀ vs G' H', Step G H G' H' → HasL K G' vs ds → Q vs H'
  | .ex x => EX.p x G H
  | .no => False
abbrev ED (X : Cx) (EX : EXT) (e : Expr) (f : FE) : Prop := PE X e (tD X.K EX f)
abbrev TD (X : Cx) (EX : EXT) (e : Expr) (f : FT) : Prop := PT X e (tDt X.K EX f)
abbrev AD (X : Cx) (EX : EXT) (es : List Expr) (f : FA) : Prop := PA X es (tDa X.K EX f)

theorem PE.imp {X : Cx} {e : Expr} {t t' : TE} (h : PE X e t) (i : ∀ σ H Q, t' σ H Q → t σ H Q) : PE X e t' := fun pins s σ H Q I q => h pins s σ H Q I (i σ H Q q)
theorem PT.imp {X : Cx} {e : Expr} {t t' : TT} (h : PT X e t) (i : ∀ σ H Q, t' σ H Q → t σ H Q) : PT X e t' := fun pins s σ H Q I q => h pins s σ H Q I (i σ H Q q)
theorem PW.imp {X : Cx} {e : Expr} {t t' : TT} (h : PW X e t) (i : ∀ σ H Q, t' σ H Q → t σ H Q) : PW X e t' := fun wh pins s σ H Q I q => h wh pins s σ H Q I (i σ H Q q)
theorem PA.imp {X : Cx} {e : List Expr} {t t' : TA} (h : PA X e t) (i : ∀ σ H Q, t' σ H Q → t σ H Q) : PA X e t' := fun pos pins s σ H Q I q => h pos pins s σ H Q I (i σ H Q q)
theorem PS.imp {X : Cx} {e : Stmt} {t t' : TS} (h : PS X e t) (i : ∀ D σ H, t' D σ H → t D σ H) : PS X e t' := fun pins s σ H D I q => h pins s σ H D I (i D σ H q)
theorem PSs.imp {X : Cx} {e : List Stmt} {t t' : TS} (h : PSs X e t) (i : ∀ D σ H, t' D σ H → t D σ H) : PSs X e t' := fun pins s σ H D I q => h pins s σ H D I (i D σ H q)

section
variable {K : PySem.W.Frag} {EX : EXT} {G H : Hp} {σ : Sg} {δ : DE} {Q : VK}
/-- a part of an expression comes first -/
theorem tD.seq {f : FE} {k : W → R W} {P : VK} (g : Same G H) (s : HasS K G σ δ) (h : Out K EX G H ((f δ).bind k) Q)
    (i : ∀ w v G' H', f δ = .ok w → Step G H G' H' → Has K G' v w.d → Out K EX G' H' (k w) Q → P v H') : tD K EX f σ H P := by
  refine ⟨G, δ, g, s, ?_⟩
  cases e : f δ with
  | ok w =>
    rw [e] at h
    exact WP.intro fun v G' H' st r => i w v G' H' e st r (Out.mono st h)
  | ex x => rw [e] at h; exact h
  | no => rw [e] at h; exact h
theorem tDt.seq {f : FT} {k : Bool → R W} {P : Bool → Hp → Prop} (g : Same G H) (s : HasS K G σ δ) (h : Out K EX G H ((f δ).bind k) Q)
    (i : ∀ b G' H', f δ = .ok b → Step G H G' H' → Out K EX G' H' (k b) Q → P b H') : tDt K EX f σ H P := by
  refine ⟨G, δ, g, s, ?_⟩
  cases e : f δ with
  | ok w =>
    rw [e] at h
    exact fun G' H' st => i w G' H' e st (Out.mono st h)
  | ex x => rw [e] at h; exact h
  | no => rw [e] at h; exact h
theorem tDa.seq {f : FA} {k : List D → R W} {P : List V → Hp → Prop} (g : Same G H) (s : HasS K G σ δ) (h : Out K EX G H ((f δ).bind k) Q)
    (i : ∀ ds vs G' H', f δ = .ok ds → Step G H G' H' → HasL K G' vs ds → Out K EX G' H' (k ds) Q → P vs H') : tDa K EX f σ H P := by
  refine ⟨G, δ, g, s, ?_⟩
  cases e : f δ with
  | ok w =>
    rw [e] at h
    exact fun vs G' H' st r => i w vs G' H' e st r (Out.mono st h)
  | ex x => rw [e] at h; exact h
  | no => rw [e] at h; exact h
end
end L3

namespace L3
open PySem PySem.Spec PyProof.Rows L2
section
variable {X : Cx} {EX : EXT} {a b c : Expr} {f g h : FE} {pos : Pos}

/-! ### names and constants -/
def eVar (i : Nat) : FE := fun δ => match δ[i]? with
  | some (some d) => .ok (.sh d)
  | _ => .no
def eC (d : D) : FE := fun _ => .ok (.sh d)
theorem ed_var (i : Nat) {x : Str} {pos : Pos} (hN : X.N[i]? = some x := by rfl) (hv : Vis X.env.scope x := by first | exact Or.inl rfl | exact Or.inr (Or.inl rfl) | exact Or.inr (Or.inr rfl)) (hd : (x == ("__debug__" : Str)) = false := by decide)
    (hcd : (x == ("__classdict__" : Str)) = false := by decide) : ED X EX (.Name x pos) (eVar i) :=
  PE.imp (pe_var hN hv hd hcd) fun σ H Q ⟨G, δ, g, s, o⟩ => by
    unfold eVar at o
    split at o
    · rename_i d e
      obtain ⟨v, e1, r⟩ := s.get i d e
      exact ⟨v, e1, WP.use o g r⟩
    · exact o.elim
theorem ed_const {e : Expr} {v : V} {d : D} (he : PE X e (tC v)) (hd : ∀ G, Has X.K G v d) : ED X EX e (eC d) :=
  PE.imp he fun σ H Q ⟨G, δ, g, s, o⟩ => WP.use o g (hd G)
theorem ed_int {i : Int} {j pos} : ED X EX (.Constant (.int i) j pos) (eC (.int i)) := ed_const pe_int fun _ => .int i
theorem ed_bl {b : Bool} {j pos} : ED X EX (.Constant (.bool b) j pos) (eC (.bl b)) := ed_const pe_bl fun _ => .bl b
theorem ed_non {j pos} : ED X EX (.Constant .none j pos) (eC .non) := ed_const pe_non fun _ => .non
theorem ed_str {x : Str} {j pos} : ED X EX (.Constant (.str x) j pos) (eC (.str x)) := ed_const pe_str fun _ => .str x
/-- a module's constant: an int or a text -/
theorem ed_gint {x : Str} {i : Int} {t : Tok} {pos : Pos} (hg : Gl X x) (hm : X.mg x = some (.int i t)) (hd : (x == ("__debug__" : Str)) = false := by decide) : ED X EX (.Name x pos) (eC (.int i)) := ed_const (pe_glob (v := .int i) hg hm ⟨t, rfl⟩ hd) fun _ => .int i
theorem ed_gstr {x : Str} {z : Str} {t : Tok} {pos : Pos} (hg : Gl X x) (hm : X.mg x = some (.str z t)) (hd : (x == ("__debug__" : Str)) = false := by decide) : ED X EX (.Name x pos) (eC (.str z)) := ed_const (pe_glob (v := .str z) hg hm ⟨t, rfl⟩ hd) fun _ => .str z

/-! ### two operands -/
def rD (K : PySem.W.Frag) (EX : EXT) (r : D → D → R W) : R2 := fun x y H Q => ∃ G a b, Same G H ∧ Has K G x a ∧ Has K G y b ∧ Out K EX G H (r a b) Q
abbrev OpD (X : Cx) (EX : EXT) (f : Value → Value → Sem Value) (r : D → D → R W) : Prop := OpR X f (rD X.K EX r)
def eOp (r : D → D → R W) (f g : FE) : FE := fun δ => (f δ).bind fun a => (g δ).bind fun b => r a.d b.d
theorem two {K : PySem.W.Frag} {r : D → D → R W} {σ : Sg} {H : Hp} {Q : VK} (q : tD K EX (eOp r f g) σ H Q) : tOp (rD K EX r) (tD K EX f) (tD K EX g) σ H Q := by
  obtain ⟨G, δ, g0, s0, o⟩ := q
  exact tD.seq g0 s0 o fun w v G1 H1 _ st1 r1 o1 => tD.seq st1.gh (s0.mono st1.gg) o1 fun w2 v2 G2 H2 _ st2 r2 o2 => ⟨G2, w.d, w2.d, st2.gh, r1.mono st2.gg, r2, o2⟩
theorem ed_bin {op : Operator} {r : D → D → R W} (ho : OpD X EX (binaryOp op) r) (ha : ED X EX a f) (hb : ED X EX b g) : ED X EX (.BinOp a op b pos) (eOp r f g) :=
  PE.imp (pe_op ho ha hb) fun _ _ _ q => two q
theorem ed_cmp {op : CmpOp} {r : D → D → R W} (ho : OpD X EX (compareOp op) r) (ha : ED X EX a f) (hb : ED X EX b g) (hm : behindInMarks op b = false) : ED X EX (.Compare a [op] [b] pos) (eOp r f g) :=
  PE.imp (pe_cmpR ho ha hb hm) fun _ _ _ q => two q
/-- a bool as a test -/
def boolD : D → R Bool
  | .bl b => .ok b
  | _ => .no
def eTest (f : FE) : FT := fun δ => (f δ).bind fun w => boolD w.d
theorem test_of {K : PySem.W.Frag} {σ : Sg} {H : Hp} {Q : Bool → Hp → Prop} (q : tDt K EX (eTest f) σ H Q) : tD K EX f σ H fun x H' => ∃ k, x = .bl k ∧ Q k H' := by
  obtain ⟨G, δ, g0, s0, o⟩ := q
  refine ⟨G, δ, g0, s0, ?_⟩
  unfold eTest at o
  cases e : f δ with
  | ok w =>
    rw [e] at o
    simp only [R.bind_ok] at o
    refine WP.intro fun v G' H' st r => ?_
    revert r o
    cases w.d with
    | bl k => intro o r; cases r; exact ⟨k, rfl, o G' H' st⟩
    | _ => intro o _; exact False.elim o
  | ex x => rw [e] at o; exact o
  | no => rw [e] at o; exact o
theorem td_cmp {op : CmpOp} {r : D → D → R W} (ho : OpD X EX (compareOp op) r) (ha : ED X EX a f) (hb : ED X EX b g) (hm : behindInMarks op b = false) : TD X EX (.Compare a [op] [b] pos) (eTest (eOp r f g)) :=
  PT.imp (pt_cmpR ho ha hb hm) fun σ H Q q => two (test_of q)
/-- a op b op' c -/
def eChain (r r' : D → D → R W) (f g h : FE) : FE := fun δ => (f δ).bind fun a => (g δ).bind fun b => (r a.d b.d).bind fun z => (boolD z.d).bind fun k =>
  if k = true then (h δ).bind fun c => r' b.d c.d else .ok (.sh (.bl false))
theorem chain {K : PySem.W.Frag} {r r' : D → D → R W} {σ : Sg} {H : Hp} {Q : VK} (q : tD K EX (eChain r r' f g h) σ H Q) : tChain (rD K EX r) (rD K EX r') (tD K EX f) (tD K EX g) (tD K EX h) σ H Q := by
  obtain ⟨G, δ, g0, s0, o⟩ := q
  refine tD.seq g0 s0 o fun w v G1 H1 _ st1 r1 o1 => tD.seq st1.gh (s0.mono st1.gg) o1 fun w2 v2 G2 H2 _ st2 r2 o2 => ⟨G2, w.d, w2.d, st2.gh, r1.mono st2.gg, r2, ?_⟩
  revert o2
  cases r w.d w2.d with
  | ok z =>
    intro o2
    refine WP.intro fun v3 G3 H3 st3 r3 => ?_
    have o2 : Out K EX G2 H2 ((boolD z.d).bind fun k => if k = true then (h δ).bind fun c => r' w2.d c.d else .ok (.sh (.bl false))) Q := o2
    revert r3 o2
    cases z.d with
    | bl k =>
      intro r3 o2
      cases r3
      refine ⟨k, rfl, ?_⟩
      cases k with
      | true =>
        rw [if_pos rfl]
        have o3 : Out K EX G2 H2 ((h δ).bind fun c => r' w2.d c.d) Q := o2
        exact tD.seq st3.gh (s0.mono (st1.gg.trans (st2.gg.trans st3.gg))) (o3.mono st3) fun w4 v4 G4 H4 _ st4 r4 o4 => ⟨G4, w2.d, w4.d, st4.gh, r2.mono (st3.gg.trans st4.gg), r4, o4⟩
      | false =>
        rw [if_neg Bool.false_ne_true]
        have o3 : WP K G2 H2 (.sh (.bl false)) Q := o2
        exact (o3.mono st3).use st3.gh (.bl false)
    | _ => intro _ o2; exact False.elim o2
  | ex x => exact fun o2 => o2
  | no => exact fun o2 => o2
theorem ed_chain {op op' : CmpOp} {r r' : D → D → R W} (ho : OpD X EX (compareOp op) r) (ho' : OpD X EX (compareOp op') r') (ha : ED X EX a f) (hb : ED X EX b g) (hc : ED X EX c h)
    (hm : lastMarks [op, op'] [b, c] = false := by with_unfolding_all rfl) : ED X EX (.Compare a [op, op'] [b, c] pos) (eChain r r' f g h) :=
  PE.imp (pe_chain ho ho' ha hb hc hm) fun _ _ _ q => chain q
theorem td_chain {op op' : CmpOp} {r r' : D → D → R W} (ho : OpD X EX (compareOp op) r) (ho' : OpD X EX (compareOp op') r') (ha : ED X EX a f) (hb : ED X EX b g) (hc : ED X EX c h)
    (hm : lastMarks [op, op'] [b, c] = false := by with_unfolding_all rfl) : TD X EX (.Compare a [op, op'] [b, c] pos) (eTest (eChain r r' f g h)) :=
  PT.imp (pt_chain ho ho' ha hb hc hm) fun _ _ _ q => chain (test_of q)

/-! ### and, or, not -/
abbrev TW (X : Cx) (EX : EXT) (e : Expr) (f : FT) : Prop := PW X e (tDt X.K EX f)
variable {p q : FT} {rest : List Expr}
def tAndF (p q : FT) : FT := fun δ => (p δ).bind fun b => if b = true then q δ else .ok false
def tOrF (p q : FT) : FT := fun δ => (p δ).bind fun b => if b = true then .ok true else q δ
def tNotF (p : FT) : FT := fun δ => (p δ).bind fun b => .ok (!b)
theorem tw_and1 (ha : TD X EX a p) : TW X EX (.BoolOp .And [a] pos) p := pw_and1 ha
theorem tw_or1 (ha : TD X EX a p) : TW X EX (.BoolOp .Or [a] pos) p := pw_or1 ha
/-- one test ahead of another -/
theorem tDt.two {K : PySem.W.Frag} {σ : Sg} {H : Hp} {Q : Bool → Hp → Prop} {k : Bool → DE → R Bool} {P : Bool → Hp → Prop} (h : tDt K EX (fun δ => (p δ).bind fun b => k b δ) σ H Q)
    (i : ∀ b H', tDt K EX (k b) σ H' Q → P b H') : tDt K EX p σ H P := by
  obtain ⟨G, δ, g0, s0, o⟩ := h
  refine ⟨G, δ, g0, s0, ?_⟩
  cases e : p δ with
  | ok b =>
    simp only [e, R.bind_ok] at o
    refine fun G' H' st => i b H' ⟨G', δ, st.gh, s0.mono st.gg, ?_⟩
    cases e2 : k b δ with
    | ok c => rw [e2] at o; exact fun G2 H2 st2 => o G2 H2 (st.trans st2)
    | ex x => rw [e2] at o; exact EX.mono _ _ _ _ _ st o
    | no => rw [e2] at o; exact o
  | ex x => simp only [e, R.bind_ex] at o; exact o
  | no => simp only [e, R.bind_no] at o
theorem tDt.now {K : PySem.W.Frag} {σ : Sg} {H : Hp} {Q : Bool → Hp → Prop} {c : Bool} (h : tDt K EX (fun _ => .ok c) σ H Q) : Q c H := by
  obtain ⟨G, δ, g0, s0, o⟩ := h
  exact o G H (Step.refl g0)
theorem tw_and (ha : TD X EX a p) (hb : TW X EX (.BoolOp .And (b :: rest) pos) q) : TW X EX (.BoolOp .And (a :: b :: rest) pos) (tAndF p q) :=
  PW.imp (pw_and ha hb) fun σ H Q h => tDt.two (k := fun b δ => if b = true then q δ else .ok false) h fun b H' h' => by
    cases b with
    | true => rw [if_pos rfl]; exact h'
    | false => rw [if_neg Bool.false_ne_true]; exact tDt.now h'
theorem tw_or (ha : TD X EX a p) (hb : TW X EX (.BoolOp .Or (b :: rest) pos) q) : TW X EX (.BoolOp .Or (a :: b :: rest) pos) (tOrF p q) :=
  PW.imp (pw_or ha hb) fun σ H Q h => tDt.two (k := fun b δ => if b = true then .ok true else q δ) h fun b H' h' => by
    cases b with
    | true => rw [if_pos rfl]; exact tDt.now h'
    | false => rw [if_neg Bool.false_ne_true]; exact h'
theorem td_w {e : Expr} (h : TW X EX e p) : TD X EX e p := h.pt
theorem td_not (ha : TD X EX a p) : TD X EX (.UnaryOp .Not a pos) (tNotF p) :=
  PT.imp (pt_not ha) fun σ H Q h => tDt.two (k := fun b _ => .ok (!b)) h fun b H' h' => tDt.now h'
/-- .. as values -/
def eAnd (f g : FE) : FE := fun δ => (f δ).bind fun a => (boolD a.d).bind fun k => if k = true then g δ else .ok (.sh (.bl false))
def eOr (f g : FE) : FE := fun δ => (f δ).bind fun a => (boolD a.d).bind fun k => if k = true then .ok (.sh (.bl true)) else g δ
def eNot (f : FE) : FE := fun δ => (f δ).bind fun a => (boolD a.d).bind fun k => .ok (.sh (.bl (!k)))
theorem ed_one {op} (h : ED X EX a f) : ED X EX (.BoolOp op [a] pos) f := pe_one h
/-- a value that must be a bool, and what comes behind it -/
theorem tD.boolThen {K : PySem.W.Frag} {σ : Sg} {H : Hp} {Q : VK} {k : Bool → DE → R W} {P : Bool → Hp → Prop} (h : tD K EX (fun δ => (f δ).bind fun a => (boolD a.d).bind fun c => k c δ) σ H Q)
    (i : ∀ c H', tD K EX (k c) σ H' Q → P c H') : tD K EX f σ H fun x H' => ∃ c, x = .bl c ∧ P c H' := by
  obtain ⟨G, δ, g0, s0, o⟩ := h
  refine tD.seq g0 s0 o fun w v G1 H1 _ st1 r1 o1 => ?_
  revert r1 o1
  cases w.d with
  | bl c => intro r1 o1; cases r1; exact ⟨c, rfl, i c H1 ⟨G1, δ, st1.gh, s0.mono st1.gg, o1⟩⟩
  | _ => intro _ o1; exact False.elim o1
theorem tD.now {K : PySem.W.Frag} {σ : Sg} {H : Hp} {Q : VK} {v : V} {d : D} (h : tD K EX (fun _ => .ok (.sh d)) σ H Q) (r : ∀ G, Has K G v d) : Q v H := by
  obtain ⟨G, δ, g0, s0, o⟩ := h
  exact WP.use o g0 (r G)
theorem ed_and (ha : ED X EX a f) (hb : ED X EX (.BoolOp .And (b :: rest) pos) g) : ED X EX (.BoolOp .And (a :: b :: rest) pos) (eAnd f g) :=
  PE.imp (pe_and ha hb) fun σ H Q h => tD.boolThen (k := fun k δ => if k = true then g δ else .ok (.sh (.bl false))) h fun c H' h' => by
    cases c with
    | true => rw [if_pos rfl]; exact h'
    | false => rw [if_neg Bool.false_ne_true]; exact tD.now h' fun _ => .bl false
theorem ed_or (ha : ED X EX a f) (hb : ED X EX (.BoolOp .Or (b :: rest) pos) g) : ED X EX (.BoolOp .Or (a :: b :: rest) pos) (eOr f g) :=
  PE.imp (pe_or ha hb) fun σ H Q h => tD.boolThen (k := fun k δ => if k = true then .ok (.sh (.bl true)) else g δ) h fun c H' h' => by
    cases c with
    | true => rw [if_pos rfl]; exact tD.now h' fun _ => .bl true
    | false => rw [if_neg Bool.false_ne_true]; exact h'
theorem ed_not (ha : ED X EX a f) : ED X EX (.UnaryOp .Not a pos) (eNot f) :=
  PE.imp (pe_not ha) fun σ H Q h => tD.boolThen (k := fun k _ => .ok (.sh (.bl (!k)))) h fun c H' h' => tD.now h' fun _ => .bl (!c)
/-- a if t else b -/
def eIf (p : FT) (f g : FE) : FE := fun δ => (p δ).bind fun k => if k = true then f δ else g δ
theorem ed_if (hc : TD X EX c p) (ha : ED X EX a f) (hb : ED X EX b g) : ED X EX (.IfExp c a b pos) (eIf p f g) :=
  PE.imp (pe_ifExp hc ha hb) fun σ H Q ⟨G, δ, g0, s0, o⟩ => tDt.seq g0 s0 o fun k G' H' _ st o' => by
    cases k with
    | true => rw [if_pos rfl]; exact ⟨G', δ, st.gh, s0.mono st.gg, o'⟩
    | false => rw [if_neg Bool.false_ne_true]; exact ⟨G', δ, st.gh, s0.mono st.gg, o'⟩

/-! ### truth -/
def truthD : D → R Bool
  | .non => .ok false
  | .bl b => .ok b
  | .int i => .ok (i != 0)
  | .str x => if x.length ≤ 16777216 then .ok ((x.length : Int) != 0) else .no
  | .lst ds => .ok (!ds.isEmpty)
  | .tup ds => .ok (!ds.isEmpty)
  | _ => .no
def eTruth (f : FE) : FT := fun δ => (f δ).bind fun w => truthD w.d
theorem isEmptyD {K : PySem.W.Frag} {G : Hp} {vs : List V} {ds : List D} (r : HasL K G vs ds) : (!ds.isEmpty) = !vs.isEmpty := by cases r <;> rfl
theorem truthV {K : PySem.W.Frag} {G H : Hp} {v : V} {d : D} {k : Bool} (g : Same G H) (r : Has K G v d) (e : truthD d = .ok k) : TruV K v H k := by
  cases r with
  | non => cases e; rfl
  | bl b => cases e; rfl
  | int i => cases e; rfl
  | str x =>
    have e : (if x.length ≤ 16777216 then R.ok ((x.length : Int) != 0) else .no) = .ok k := e
    split at e
    · rename_i hz
      cases e
      exact ⟨by rw [sizeLine_eq]; exact hz, rfl⟩
    · cases e
  | lst h r => cases e; exact .inl ⟨_, g.seq h, isEmptyD r⟩
  | tup h r => cases e; exact .inr (.inl ⟨_, Same.tupS g h, isEmptyD r⟩)
theorem td_truth (ha : ED X EX a f) (he : ∀ whole, isTrue a X.env whole = (do let v ← whole; standAt a.pos; holding [v] (truthy v)) := by intro _; rfl) : TD X EX a (eTruth f) :=
  PT.imp (pt_truth ha he) fun σ H Q ⟨G, δ, g0, s0, o⟩ => by
    refine ⟨G, δ, g0, s0, ?_⟩
    unfold eTruth at o
    cases e : f δ with
    | ok w =>
      rw [e] at o
      simp only [R.bind_ok] at o
      refine WP.intro fun v G' H' st r => ?_
      cases e2 : truthD w.d with
      | ok k => rw [e2] at o; exact ⟨k, truthV st.gh r e2, o G' H' st⟩
      | ex x => rw [e2] at o; exfalso; revert e2; cases w.d <;> simp only [truthD] <;> intro e2 <;> first | cases e2 | (split at e2 <;> cases e2)
      | no => rw [e2] at o; exact o.elim
    | ex x => rw [e] at o; exact o
    | no => rw [e] at o; exact o

/-! ### arguments, displays -/
variable {e : Expr} {es : List Expr} {fa : FA}
def aNil : FA := fun _ => .ok []
def aCons (f : FE) (fa : FA) : FA := fun δ => (f δ).bind fun w => (fa δ).bind fun ds => .ok (w.d :: ds)
theorem ad_nil : AD X EX [] aNil := PA.imp pa_nil fun σ H Q ⟨G, δ, g0, s0, o⟩ => o [] G H (Step.refl g0) .nil
theorem ad_cons (ha : ED X EX e f) (hr : AD X EX es fa) (hs : starEach (e :: es) X.env = (false, eval e X.env) :: starEach es X.env := by rfl) : AD X EX (e :: es) (aCons f fa) :=
  PA.imp (pa_cons ha hr hs) fun σ H Q ⟨G, δ, g0, s0, o⟩ => by
    refine ⟨G, δ, g0, s0, ?_⟩
    unfold aCons at o
    cases e1 : f δ with
    | ok w =>
      rw [e1] at o
      simp only [R.bind_ok] at o
      refine WP.intro fun v G' H' st r => ⟨G', δ, st.gh, s0.mono st.gg, ?_⟩
      cases e2 : fa δ with
      | ok ds => rw [e2] at o; exact fun vs G2 H2 st2 r2 => o (v :: vs) G2 H2 (st.trans st2) (.cons (r.mono st2.gg) r2)
      | ex x => rw [e2] at o; exact EX.mono _ _ _ _ _ st o
      | no => rw [e2] at o; exact o
    | ex x => rw [e1] at o; exact o
    | no => rw [e1] at o; exact o
def eTup (fa : FA) : FE := fun δ => (fa δ).bind fun ds => if ds.length ≤ 16777216 then .ok (.sh (.tup ds)) else .no
def eLst (fa : FA) : FE := fun δ => (fa δ).bind fun ds => if ds.length ≤ 16777216 then .ok (.ow (.lst ds)) else .no
theorem ed_tup {x1} (ha : AD X EX es fa) : ED X EX (.Tuple es x1 pos) (eTup fa) :=
  PE.imp (pe_tup ha) fun σ H Q ⟨G, δ, g0, s0, o⟩ => tDa.seq g0 s0 o fun ds vs G' H' _ st r o' => by
    split at o'
    · rename_i hz
      refine ⟨by rw [r.length, sizeLine_eq]; exact hz, fun p hp => o' (.ref p) _ _ (Step.new st.gh hp _) (.tup (SqT.of upd_same) (r.mono (same_new (st.gh.free hp) _)))⟩
    · exact o'.elim
theorem ed_lst (ha : AD X EX es fa) : ED X EX (.List es pos) (eLst fa) :=
  PE.imp (pe_lst ha) fun σ H Q ⟨G, δ, g0, s0, o⟩ => tDa.seq g0 s0 o fun ds vs G' H' _ st r o' => by
    split at o'
    · rename_i hz
      refine ⟨by rw [r.length, sizeLine_eq]; exact hz, fun p hp => o' p _ _ _ (Step.own st.gh hp _) hp upd_same (st.gh.free hp) (.lst r)⟩
    · exact o'.elim

/-! ### calls of built-ins, of methods of built-ins -/
def rDc (K : PySem.W.Frag) (EX : EXT) (fn : List D → R W) : List V → Hp → VK → Prop := fun vs H Q => ∃ G ds, Same G H ∧ HasL K G vs ds ∧ Out K EX G H (fn ds) Q
abbrev CallD (X : Cx) (EX : EXT) (v : Value) (fn : List D → R W) : Prop := CallR X v (rDc X.K EX fn)
def eCall (fn : List D → R W) (fa : FA) : FE := fun δ => (fa δ).bind fn
theorem args_of {K : PySem.W.Frag} {fn : List D → R W} {σ : Sg} {H : Hp} {Q : VK} (q : tD K EX (eCall fn fa) σ H Q) : tCB (rDc K EX fn) (tDa K EX fa) σ H Q := by
  obtain ⟨G, δ, g0, s0, o⟩ := q
  exact tDa.seq g0 s0 o fun ds vs G' H' _ st r o' => ⟨G', ds, st.gh, r, o'⟩
variable {x : Str} {pp : Pos} {id T : String} {fn : List D → R W}
theorem ed_callB (hc : CallD X EX (.builtin id) fn) (hg : Gl X x) (hm : X.mg x = none) (hv : bootBuiltins x = some (.builtin id)) (ha : AD X EX (e :: es) fa) (hn : x ≠ "__name__" := by decide) (hdb : (x == ("__debug__" : Str)) = false := by decide)
    (he : starEach (e :: es) X.env = (false, eval e X.env) :: starEach es X.env := by rfl) (hpl : (backTo pos (starEach es X.env)).any (·.1) = false := by rfl) : ED X EX (.Call (.Name x pp) (e :: es) [] pos) (eCall fn fa) :=
  PE.imp (pe_callB hc hg hm hv ha hn hdb he hpl) fun _ _ _ q => args_of q
theorem ed_callTy (hc : CallD X EX (.type T) fn) (hg : Gl X x) (hm : X.mg x = none) (hv : bootBuiltins x = some (.type T)) (ha : AD X EX (e :: es) fa) (hn : x ≠ "__name__" := by decide) (hdb : (x == ("__debug__" : Str)) = false := by decide)
    (he : starEach (e :: es) X.env = (false, eval e X.env) :: starEach es X.env := by rfl) (hpl : (backTo pos (starEach es X.env)).any (·.1) = false := by rfl) : ED X EX (.Call (.Name x pp) (e :: es) [] pos) (eCall fn fa) :=
  PE.imp (pe_callTy hc hg hm hv ha hn hdb he hpl) fun _ _ _ q => args_of q

/-! ### an item -/
def ixD : D → D → R W
  | .lst ds, .int i => match atI ds i with | some d => .ok (.sh d) | none => .no
  | .tup ds, .int i => match atI ds i with | some d => .ok (.sh d) | none => .no
  | .str z, .int i => if z.length ≤ 16777216 then (match atI z.cps.toList i with | some c => .ok (.sh (.str ⟨#[c]⟩)) | none => .no) else .no
  | _, _ => .no
theorem HasL.atI {K : PySem.W.Frag} {G : Hp} {vs : List V} {ds : List D} {i : Int} {d : D} (r : HasL K G vs ds) (h : L2.atI ds i = some d) : ∃ v, L2.atI vs i = some v ∧ Has K G v d := by
  unfold L2.atI at h ⊢
  rw [r.length]
  cases e : ixN ds.length i with
  | none => rw [e] at h; cases h
  | some j => rw [e] at h; exact r.get h
theorem ix_d : IxR X (rD X.K EX ixD) := by
  intro value slice pins s σ H x y v u Q I rx ry h hs
  obtain ⟨G, a, b, g, ra, rb, o⟩ := h
  cases rb with
  | int i =>
    cases ra with
    | lst h r =>
      simp only [ixD] at o
      split at o
      · rename_i d e
        obtain ⟨v, e1, r1⟩ := HasL.atI r e
        exact ix_list value slice pins s σ H _ _ _ _ Q I rx ry ⟨_, _, i, v, rfl, rfl, g.seq h, e1, WP.use o g r1⟩ hs
      · exact o.elim
    | tup h r =>
      simp only [ixD] at o
      split at o
      · rename_i d e
        obtain ⟨v, e1, r1⟩ := HasL.atI r e
        exact ix_tup value slice pins s σ H _ _ _ _ Q I rx ry ⟨_, _, i, v, rfl, rfl, Same.tupS g h, e1, WP.use o g r1⟩ hs
      · exact o.elim
    | str z =>
      simp only [ixD] at o
      split at o
      · rename_i hz
        split at o
        · rename_i c e
          exact ix_str value slice pins s σ H _ _ _ _ Q I rx ry ⟨z, i, c, rfl, rfl, by rw [sizeLine_eq]; exact hz, e, WP.use o g (.str _)⟩ hs
        · exact o.elim
      · exact o.elim
    | _ => exact False.elim o
  | _ => cases ra <;> exact False.elim o
theorem ed_ix (ha : ED X EX a f) (hb : ED X EX b g) (hs : PlainIx b := by intro _ _; rfl) : ED X EX (.Subscript a b pos) (eOp ixD f g) :=
  PE.imp (pe_ix ix_d ha hb hs) fun _ _ _ q => two q
end
end L3

namespace L3
open PySem PySem.Spec PyProof.Rows L2
section
variable {X : Cx} {EX : EXT}
theorem out_sh {K : PySem.W.Frag} {G H : Hp} {Q : VK} {d : D} {v : V} (o : Out K EX G H (.ok (.sh d)) Q) (g : Same G H) (r : Has K G v d) : Q v H := WP.use o g r
theorem out_own {K : PySem.W.Frag} {G H : Hp} {Q : VK} {ds : List D} {vs : List V} (o : Out K EX G H (.ok (.ow (.lst ds))) Q) (g : Same G H) (r : HasL K G vs ds) : ∀ p, H p = none → Q (.ref p) (upd H p (.lst vs)) :=
  fun p hp => o p _ G _ (Step.own g hp _) hp upd_same (g.free hp) (.lst r)

/-! ### + -/
/-- lists that are only read may be added too -/
def rCatS (K : PySem.W.Frag) : R2 := fun x y H Q => ∃ l b xs zs, x = .ref l ∧ y = .ref b ∧ SqL K H l xs ∧ SqL K H b zs ∧ xs.length + zs.length ≤ sizeLine ∧ ∀ p, H p = none → Q (.ref p) (upd H p (.lst (xs ++ zs)))
theorem op_catS : OpR X (binaryOp .Add) (rCatS X.K) := by
  intro pins s σ H x y v u Q I rx ry h
  obtain ⟨l, b, xs, zs, rfl, rfl, hH, hB, hz, q⟩ := h
  cases rx
  cases ry
  obtain ⟨its, r, ⟨o, n, e, c, dd, dat⟩, z⟩ := I.list hH
  obtain ⟨its2, r2, ⟨o2, n2, e2, c2, dd2, dat2⟩, z2⟩ := I.list hB
  have hl := r.length
  have hl2 := r2.length
  obtain ⟨cls, dd', data, sl⟩ := o
  obtain ⟨cls2, dd2', data2, sl2⟩ := o2
  simp only at c dd dat c2 dd2 dat2
  subst c dd dat c2 dd2 dat2
  refine concat_meets ⟨_, e, rfl⟩ ⟨_, e2, rfl⟩ noFill_list_add seq_list_add PySem.F.slot_list_add PySem.F.entry_list_add (PySem.F.args_list_add_2 _ _) (list_addW l b its.toArray its2.toArray n n2 none none sl sl2 (by rw [List.size_toArray, List.size_toArray]; omega)) ⟨e, e2, ?_⟩
  have ea : its.toArray ++ its2.toArray = (its ++ its2).toArray := by simp
  rw [ea]
  exact ⟨.ref _, _, I.lnew (t' := s.toks) (r.append r2) (by rw [List.length_append]; omega), rfl, q _ I.fresh⟩
def addD : D → D → R W
  | .int i, .int j => .ok (.sh (.int (i + j)))
  | .str x, .str y => if x.length + y.length ≤ 16777216 then .ok (.sh (.str (x ++ y))) else .no
  | .lst a, .lst b => if a.length + b.length ≤ 16777216 then .ok (.ow (.lst (a ++ b))) else .no
  | _, _ => .no
theorem op_addD : OpD X EX (binaryOp .Add) addD := by
  intro pins s σ H x y v u Q I rx ry h
  obtain ⟨G, a, b, g, ra, rb, o⟩ := h
  cases ra with
  | int i =>
    cases rb with
    | int j => exact op_add pins s σ H _ _ _ _ Q I rx ry ⟨i, j, rfl, rfl, out_sh o g (.int _)⟩
    | _ => exact False.elim o
  | str x =>
    cases rb with
    | str y =>
      simp only [addD] at o
      split at o
      · rename_i hz
        exact op_add_str pins s σ H _ _ _ _ Q I rx ry ⟨x, y, rfl, rfl, by rw [sizeLine_eq]; exact hz, out_sh o g (.str _)⟩
      · exact o.elim
    | _ => exact False.elim o
  | lst h1 r1 =>
    cases rb with
    | lst h2 r2 =>
      simp only [addD] at o
      split at o
      · rename_i hz
        exact op_catS pins s σ H _ _ _ _ Q I rx ry ⟨_, _, _, _, rfl, rfl, g.seq h1, g.seq h2, by rw [r1.length, r2.length, sizeLine_eq]; exact hz, out_own o g (r1.append r2)⟩
      · exact o.elim
    | _ => exact False.elim o
  | _ => cases rb <;> exact False.elim o

/-! ### - * // % ** << -/
/-- an operation upon two ints -/
def intD (C : Int → Int → Bool) (f : Int → Int → Int) : D → D → R W
  | .int i, .int j => if C i j = true then .ok (.sh (.int (f i j))) else .no
  | _, _ => .no
theorem op_intD {fn : Value → Value → Sem Value} {C : Int → Int → Bool} {P : Int → Int → Prop} {f : Int → Int → Int} (h : OpR X fn (rI P fun i j => .int (f i j))) (hC : ∀ i j, C i j = true → P i j) : OpD X EX fn (intD C f) := by
  intro pins s σ H x y v u Q I rx ry q
  obtain ⟨G, a, b, g, ra, rb, o⟩ := q
  cases ra with
  | int i =>
    cases rb with
    | int j =>
      simp only [intD] at o
      split at o
      · rename_i hc
        exact h pins s σ H _ _ _ _ Q I rx ry ⟨i, j, rfl, rfl, hC i j hc, out_sh o g (.int _)⟩
      · exact o.elim
    | _ => exact False.elim o
  | _ => cases rb <;> exact False.elim o
def subD : D → D → R W := intD (fun _ _ => true) (fun i j => i - j)
def mulC (i j : Int) : Bool := decide (i.natAbs < 18446744073709551616 ∨ j.natAbs < 18446744073709551616)
def mulI : D → D → R W := intD mulC (fun i j => i * j)
def divC (_ j : Int) : Bool := decide (0 < j ∧ j.natAbs < 1361129467683753853853498429727072845824)
def divD : D → D → R W := intD divC (fun i j => i / j)
def modC (_ j : Int) : Bool := decide (0 < j)
def modD : D → D → R W := intD modC (fun i j => i % j)
def powC (i j : Int) : Bool := decide (0 ≤ j ∧ j.natAbs ≤ 1000000 ∧ i.natAbs < 18446744073709551616)
def powD : D → D → R W := intD powC (fun i j => i ^ j.toNat)
def shlD : D → D → R W := intD powC (fun i j => i * 2 ^ j.toNat)
theorem op_subD : OpD X EX (binaryOp .Sub) subD := op_intD (P := fun _ _ => True) (opI fun _ _ _ _ _ _ _ _ q => sub_int q) fun _ _ _ => trivial
theorem op_mulI : OpD X EX (binaryOp .Mult) mulI := op_intD op_mul fun i j h => by
  have h := of_decide_eq_true h
  rcases h with h | h
  · exact .inl ⟨by omega, by omega⟩
  · exact .inr ⟨by omega, by omega⟩
/-- // by a positive divisor of at most 130 bits -/
theorem op_divD : OpD X EX (binaryOp .FloorDiv) divD := op_intD (P := fun _ j => 0 < j ∧ j.natAbs < 1361129467683753853853498429727072845824) (opI fun i j _ _ _ _ _ hc q => by
  have h1 : (0 : Int) < j := hc.1
  have h2 := hc.2
  refine floordiv_int (by omega) ?_ (.inl (PyProof.noPylong_of_log2 ?_))
  · rw [Int.fdiv_eq_ediv_of_nonneg i (by omega)]
    exact q
  · have : j.natAbs < 2 ^ 130 := by
      have e : (2 : Nat) ^ 130 = 1361129467683753853853498429727072845824 := by decide
      omega
    have l : j.natAbs.log2 < 130 := (Nat.log2_lt (by omega)).mpr this
    omega) fun i j h => of_decide_eq_true h
theorem op_modD : OpD X EX (binaryOp .Mod) modD := op_intD op_mod fun i j h => of_decide_eq_true h
theorem powC_ok {i j : Int} (h : powC i j = true) : CPow i j := by
  obtain ⟨h1, h2, h3⟩ := of_decide_eq_true h
  refine ⟨h1, by omega, ?_⟩
  have e : (2 : Nat) ^ 64 = 18446744073709551616 := by decide
  omega
theorem op_powD : OpD X EX (binaryOp .Pow) powD := op_intD op_pow fun i j h => powC_ok h
theorem op_shlD : OpD X EX (binaryOp .LShift) shlD := op_intD op_shl fun i j h => powC_ok h

/-! ### < <= > >= of ints -/
def cmpD (f : Int → Int → Bool) : D → D → R W
  | .int i, .int j => .ok (.sh (.bl (f i j)))
  | _, _ => .no
theorem op_cmpD {fn : Value → Value → Sem Value} {f : Int → Int → Bool} (h : OpR X fn (rI0 fun i j => .bl (f i j))) : OpD X EX fn (cmpD f) := by
  intro pins s σ H x y v u Q I rx ry q
  obtain ⟨G, a, b, g, ra, rb, o⟩ := q
  cases ra with
  | int i =>
    cases rb with
    | int j => exact h pins s σ H _ _ _ _ Q I rx ry ⟨i, j, rfl, rfl, out_sh o g (.bl _)⟩
    | _ => exact False.elim o
  | _ => cases rb <;> exact False.elim o
def ltD : D → D → R W := cmpD fun i j => decide (i < j)
def leD : D → D → R W := cmpD fun i j => decide (i ≤ j)
def gtD : D → D → R W := cmpD fun i j => decide (j < i)
def geD : D → D → R W := cmpD fun i j => decide (j ≤ i)
theorem op_ltD : OpD X EX (compareOp .Lt) ltD := op_cmpD op_lt
theorem op_leD : OpD X EX (compareOp .LtE) leD := op_cmpD op_le
theorem op_gtD : OpD X EX (compareOp .Gt) gtD := op_cmpD op_gt
theorem op_geD : OpD X EX (compareOp .GtE) geD := op_cmpD op_ge

/-! ### == and != -/
mutual
def toPy : D → PyData
  | .non => .none
  | .bl b => .bool b
  | .int i => .int i
  | .str x => .str x
  | .lst ds => .list (toPys ds)
  | .tup ds => .tuple (toPys ds)
  | .dic _ _ => .dict []
  | .exn _ _ _ => .dict []
def toPys : List D → List PyData
  | [] => []
  | d :: ds => toPy d :: toPys ds
end
mutual
theorem Has.reads {K : PySem.W.Frag} {X : Cx} (hK : X.K = K) {pins : List (Addr × Obj)} {σ : Sg} {H : Hp} {s : Shared} (I : Inv X pins σ H s) {G : Hp} (g : Same G H) : ∀ {v : V} {d : D} {u : Value}, Has K G v d → RelV v u → ∃ as, Reads s.heap u (toPy d) as
  | _, _, _, .non, r => by cases r; exact ⟨_, .none⟩
  | _, _, _, .bl b, r => by cases r; exact ⟨_, .bool b⟩
  | _, _, _, .int i, r => by obtain ⟨t, rfl⟩ := r; exact ⟨_, .int i t⟩
  | _, _, _, .str x, r => by obtain ⟨t, rfl⟩ := r; exact ⟨_, .str x t⟩
  | _, _, _, .lst h r, q => by
    cases q
    obtain ⟨its, rv, ⟨o, n, e, c, _, dat⟩, _⟩ := I.list (by rw [hK]; exact g.seq h)
    obtain ⟨as, z⟩ := HasL.reads hK I g r rv
    exact ⟨_, .list e c dat z⟩
  | _, _, _, .tup h r, q => by
    cases q
    obtain ⟨its, rv, ⟨o, e, c, n, dat⟩, _⟩ := I.tuple (by rw [hK]; exact Same.tupS g h)
    obtain ⟨as, z⟩ := HasL.reads hK I g r rv
    exact ⟨_, .tuple e c dat z⟩
theorem HasL.reads {K : PySem.W.Frag} {X : Cx} (hK : X.K = K) {pins : List (Addr × Obj)} {σ : Sg} {H : Hp} {s : Shared} (I : Inv X pins σ H s) {G : Hp} (g : Same G H) : ∀ {vs : List V} {ds : List D} {us : List Value}, HasL K G vs ds → Vals vs us → ∃ as, ReadsAll s.heap us (toPys ds) as
  | _, _, _, .nil, r => by cases r; exact ⟨_, .nil⟩
  | _, _, _, .cons h t, r => by
    cases r with
    | cons r1 r2 =>
      obtain ⟨a1, z1⟩ := Has.reads hK I g h r1
      obtain ⟨a2, z2⟩ := HasL.reads hK I g t r2
      exact ⟨_, .cons z1 z2⟩
end
/-- the data that == knows -/
def eqC (a b : D) : Bool := (toPy a).canLay0 && (toPy b).canLay0 && decide ((toPy a).depth ≤ 60)
def eqvD (a b : D) : Bool := (toPy a).eqv (toPy b)
def eqD (a b : D) : R W := match a, b with
  | .str x, .str y => .ok (.sh (.bl (decide (x = y))))
  | a, b => if eqC a b = true then .ok (.sh (.bl (eqvD a b))) else .no
def neD (a b : D) : R W := match a, b with
  | .str x, .str y => .ok (.sh (.bl (!decide (x = y))))
  | a, b => if eqC a b = true then .ok (.sh (.bl (!eqvD a b))) else .no
theorem decV_str (x y : Str) : decide (V.str x = V.str y) = decide (x = y) := by
  by_cases e : x = y
  · subst e; simp
  · rw [decide_eq_false e, decide_eq_false (fun z => e (by injection z))]
theorem op_eqD (hu : X.A.units + 64 < cLine) : OpD X EX (compareOp .Eq) eqD := by
  intro pins s σ H x y v u Q I rx ry q
  obtain ⟨G, a, b, g, ra, rb, o⟩ := q
  unfold eqD at o
  split at o
  · rename_i x y
    cases ra
    cases rb
    exact op_eq pins s σ H _ _ _ _ Q I rx ry ⟨rfl, by rw [decV_str]; exact out_sh o g (.bl _)⟩
  · split at o
    · rename_i hc
      unfold eqC at hc
      rw [Bool.and_eq_true, Bool.and_eq_true] at hc
      obtain ⟨⟨h1, h2⟩, h3⟩ := hc
      have h3 := of_decide_eq_true h3
      obtain ⟨as, za⟩ := Has.reads rfl I g ra rx
      obtain ⟨bs, zb⟩ := Has.reads rfl I g rb ry
      refine PySem.SeqAt.compareEq_reads za zb h1 h2 ?_ ⟨.bl _, H, I, rfl, out_sh o g (.bl _)⟩
      have := Nat.min_le_left (toPy a).depth (toPy b).depth
      omega
    · exact o.elim
theorem op_neD (hu : X.A.units + 64 < cLine) : OpD X EX (compareOp .NotEq) neD := by
  intro pins s σ H x y v u Q I rx ry q
  obtain ⟨G, a, b, g, ra, rb, o⟩ := q
  unfold neD at o
  split at o
  · rename_i x y
    cases ra
    cases rb
    exact op_ne pins s σ H _ _ _ _ Q I rx ry ⟨rfl, by rw [decV_str]; exact out_sh o g (.bl _)⟩
  · split at o
    · rename_i hc
      unfold eqC at hc
      rw [Bool.and_eq_true, Bool.and_eq_true] at hc
      obtain ⟨⟨h1, h2⟩, h3⟩ := hc
      have h3 := of_decide_eq_true h3
      obtain ⟨as, za⟩ := Has.reads rfl I g ra rx
      obtain ⟨bs, zb⟩ := Has.reads rfl I g rb ry
      refine PySem.SeqAt.compareNe_reads za zb h1 h2 ?_ ⟨.bl _, H, I, rfl, out_sh o g (.bl _)⟩
      have := Nat.min_le_left (toPy a).depth (toPy b).depth
      omega
    · exact o.elim

/-! ### in, not in -/
def flatD : D → Bool
  | .non => true
  | .bl _ => true
  | .int _ => true
  | .str _ => true
  | _ => false
def flV : D → V
  | .bl b => .bl b
  | .int i => .int i
  | .str x => .str x
  | _ => .non
theorem Has.fl {K : PySem.W.Frag} {G : Hp} {v : V} {d : D} (r : Has K G v d) (f : flatD d = true) : v = flV d ∧ flatV v = true := by
  cases r with
  | non => exact ⟨rfl, rfl⟩
  | bl b => exact ⟨rfl, rfl⟩
  | int i => exact ⟨rfl, rfl⟩
  | str x => exact ⟨rfl, rfl⟩
  | lst _ _ => cases f
  | tup _ _ => cases f
theorem Has.ofFl {K : PySem.W.Frag} {G G' : Hp} {v : V} {d : D} (r : Has K G v d) (f : flatD d = true) : Has K G' v d := by
  cases r with
  | non => exact .non
  | bl b => exact .bl b
  | int i => exact .int i
  | str x => exact .str x
  | lst _ _ => cases f
  | tup _ _ => cases f
theorem HasL.fl {K : PySem.W.Frag} {G : Hp} : ∀ {vs : List V} {ds : List D}, HasL K G vs ds → ds.all flatD = true → vs = ds.map flV ∧ vs.all flatV = true
  | _, _, .nil, _ => ⟨rfl, rfl⟩
  | _, _, .cons h r, f => by
    rw [List.all_cons, Bool.and_eq_true] at f
    obtain ⟨e1, e2⟩ := h.fl f.1
    obtain ⟨e3, e4⟩ := HasL.fl r f.2
    exact ⟨by rw [List.map_cons, ← e1, ← e3], by rw [List.all_cons, e2, e4]; rfl⟩
def eqF (a b : D) : Bool := eqV (flV a) (flV b)
def memD (d : D) (ds : List D) : Bool := ds.any fun y => eqF y d
theorem memD_eq (d : D) (ds : List D) : inV (flV d) (ds.map flV) = memD d ds := by
  unfold inV memD
  rw [List.any_map]
  rfl
def inD (neg : Bool) : D → D → R W
  | .str i, .str j => .ok (.sh (.bl (if neg then !(!(Builtin.Str.occurrences j i 0 j.length 1).isEmpty) else !(Builtin.Str.occurrences j i 0 j.length 1).isEmpty)))
  | d, .lst ds => if (flatD d && ds.all flatD) = true then .ok (.sh (.bl (if neg then !memD d ds else memD d ds))) else .no
  | d, .tup ds => if (flatD d && ds.all flatD) = true then .ok (.sh (.bl (if neg then !memD d ds else memD d ds))) else .no
  | _, _ => .no
theorem in_core {G H : Hp} {x y : V} {d : D} {e : D} {Q : VK} {neg : Bool} (g : Same G H) (ra : Has X.K G x d) (rb : Has X.K G y e) (hd : ∀ i j, d = .str i → e = .str j → False) (o : Out X.K EX G H (inD neg d e) Q) : rIn X.K neg x y H Q := by
  cases rb with
  | lst h r =>
    rename_i ds
    have o' : Out X.K EX G H (if (flatD d && ds.all flatD) = true then .ok (.sh (.bl (if neg then !memD d ds else memD d ds))) else .no) Q := by
      cases d <;> exact o
    split at o'
    · rename_i f
      rw [Bool.and_eq_true] at f
      obtain ⟨e1, e2⟩ := ra.fl f.1
      obtain ⟨e3, e4⟩ := r.fl f.2
      refine ⟨_, _, rfl, .inl (g.seq h), e2, e4, ?_⟩
      rw [e1, e3, memD_eq]
      exact out_sh o' g (.bl _)
    · exact o'.elim
  | tup h r =>
    rename_i ds
    have o' : Out X.K EX G H (if (flatD d && ds.all flatD) = true then .ok (.sh (.bl (if neg then !memD d ds else memD d ds))) else .no) Q := by
      cases d <;> exact o
    split at o'
    · rename_i f
      rw [Bool.and_eq_true] at f
      obtain ⟨e1, e2⟩ := ra.fl f.1
      obtain ⟨e3, e4⟩ := r.fl f.2
      refine ⟨_, _, rfl, .inr (Same.tupS g h), e2, e4, ?_⟩
      rw [e1, e3, memD_eq]
      exact out_sh o' g (.bl _)
    · exact o'.elim
  | str j =>
    cases d with
    | str i => exact (hd i j rfl rfl).elim
    | _ => exact False.elim o
  | _ => cases d <;> exact False.elim o
theorem op_inD : OpD X EX (compareOp .In) (inD false) := by
  intro pins s σ H x y v u Q I rx ry q
  obtain ⟨G, a, b, g, ra, rb, o⟩ := q
  by_cases hs : ∃ i j, a = .str i ∧ b = .str j
  · obtain ⟨i, j, rfl, rfl⟩ := hs
    cases ra
    cases rb
    exact op_in_str pins s σ H _ _ _ _ Q I rx ry ⟨i, j, rfl, rfl, out_sh o g (.bl _)⟩
  · exact op_in_seq pins s σ H _ _ _ _ Q I rx ry (in_core g ra rb (fun i j e1 e2 => hs ⟨i, j, e1, e2⟩) o)
theorem op_notInD : OpD X EX (compareOp .NotIn) (inD true) := by
  intro pins s σ H x y v u Q I rx ry q
  obtain ⟨G, a, b, g, ra, rb, o⟩ := q
  by_cases hs : ∃ i j, a = .str i ∧ b = .str j
  · obtain ⟨i, j, rfl, rfl⟩ := hs
    cases ra
    cases rb
    exact op_notIn_str pins s σ H _ _ _ _ Q I rx ry ⟨i, j, rfl, rfl, out_sh o g (.bl _)⟩
  · exact op_notIn_seq pins s σ H _ _ _ _ Q I rx ry (in_core g ra rb (fun i j e1 e2 => hs ⟨i, j, e1, e2⟩) o)

/-! ### built-in functions -/
def lenD : List D → R W
  | [.str x] => if x.length ≤ 16777216 then .ok (.sh (.int x.length)) else .no
  | [.lst ds] => .ok (.sh (.int ds.length))
  | [.tup ds] => .ok (.sh (.int ds.length))
  | _ => .no
theorem call_lenD3 : CallD X EX (.builtin "len") lenD := by
  intro pins s σ H vs us Q I rv q
  obtain ⟨G, ds, g, r, o⟩ := q
  cases r with
  | nil => exact False.elim o
  | cons h t =>
    cases t with
    | cons _ _ => cases h <;> exact False.elim o
    | nil =>
      cases h with
      | str x =>
        simp only [lenD] at o
        split at o
        · rename_i hz
          exact call_len_str pins s σ H _ _ Q I rv ⟨x, rfl, by rw [sizeLine_eq]; exact hz, out_sh o g (.int _)⟩
        · exact o.elim
      | lst h r => exact call_len_seq pins s σ H _ _ Q I rv ⟨_, _, rfl, .inl (g.seq h), by rw [r.length]; exact out_sh o g (.int _)⟩
      | tup h r => exact call_len_seq pins s σ H _ _ Q I rv ⟨_, _, rfl, .inr (Same.tupS g h), by rw [r.length]; exact out_sh o g (.int _)⟩
      | _ => exact False.elim o
def maxD : List D → R W
  | [.int i, .int j] => .ok (.sh (.int (if j > i then j else i)))
  | _ => .no
def minD : List D → R W
  | [.int i, .int j] => .ok (.sh (.int (if j < i then j else i)))
  | _ => .no
theorem two_ints {K : PySem.W.Frag} {G : Hp} {vs : List V} {ds : List D} (r : HasL K G vs ds) {P : Prop} (h : ∀ i j, vs = [.int i, .int j] → ds = [.int i, .int j] → P) (n : (∀ i j, ds ≠ [.int i, .int j]) → P) : P := by
  by_cases e : ∃ i j, ds = [.int i, .int j]
  · obtain ⟨i, j, rfl⟩ := e
    cases r with
    | cons a t =>
      cases t with
      | cons b t2 =>
        cases t2
        cases a
        cases b
        exact h i j rfl rfl
  · exact n fun i j z => e ⟨i, j, z⟩
theorem maxD_no {ds : List D} (h : ∀ i j, ds ≠ [.int i, .int j]) : maxD ds = .no := by
  unfold maxD
  split
  · rename_i i j; exact absurd rfl (h i j)
  · rfl
theorem minD_no {ds : List D} (h : ∀ i j, ds ≠ [.int i, .int j]) : minD ds = .no := by
  unfold minD
  split
  · rename_i i j; exact absurd rfl (h i j)
  · rfl
theorem call_maxD (hc : X.calm = true) : CallD X EX (.builtin "max") maxD := by
  intro pins s σ H vs us Q I rv q
  obtain ⟨G, ds, g, r, o⟩ := q
  refine two_ints r (fun i j e1 e2 => ?_) fun n => ?_
  · subst e1 e2
    exact call_max2 hc pins s σ H _ _ Q I rv ⟨i, j, rfl, out_sh o g (.int _)⟩
  · rw [maxD_no n] at o; exact o.elim
theorem call_minD (hc : X.calm = true) : CallD X EX (.builtin "min") minD := by
  intro pins s σ H vs us Q I rv q
  obtain ⟨G, ds, g, r, o⟩ := q
  refine two_ints r (fun i j e1 e2 => ?_) fun n => ?_
  · subst e1 e2
    exact call_min2 hc pins s σ H _ _ Q I rv ⟨i, j, rfl, out_sh o g (.int _)⟩
  · rw [minD_no n] at o; exact o.elim
def intOf : List D → R W
  | [.int i] => .ok (.sh (.int i))
  | [.bl k] => .ok (.sh (.int (if k then 1 else 0)))
  | _ => .no
theorem call_intOf : CallD X EX (.type "int") intOf := by
  intro pins s σ H vs us Q I rv q
  obtain ⟨G, ds, g, r, o⟩ := q
  cases r with
  | nil => exact False.elim o
  | cons h t =>
    cases t with
    | cons _ _ => cases h <;> exact False.elim o
    | nil =>
      cases h with
      | int i => exact call_int1 pins s σ H _ _ Q I rv (.inl ⟨i, rfl, out_sh o g (.int _)⟩)
      | bl k => exact call_int1 pins s σ H _ _ Q I rv (.inr ⟨k, rfl, out_sh o g (.int _)⟩)
      | _ => exact False.elim o
def strOf : List D → R W
  | [.int i] => if i.natAbs.log2 < 1920 then .ok (.sh (.str (toString i))) else .no
  | _ => .no
theorem call_strOf : CallD X EX (.type "str") strOf := by
  intro pins s σ H vs us Q I rv q
  obtain ⟨G, ds, g, r, o⟩ := q
  cases r with
  | nil => exact False.elim o
  | cons h t =>
    cases t with
    | cons _ _ => cases h <;> exact False.elim o
    | nil =>
      cases h with
      | int i =>
        simp only [strOf] at o
        split at o
        · rename_i hz
          exact call_str_int pins s σ H _ _ Q I rv ⟨i, rfl, hz, out_sh o g (.str _)⟩
        · exact o.elim
      | _ => exact False.elim o
/-- list(x): a new list -/
def listOf : List D → R W
  | [.lst ds] => .ok (.ow (.lst ds))
  | [.tup ds] => .ok (.ow (.lst ds))
  | _ => .no
theorem call_listOf : CallD X EX (.type "list") listOf := by
  intro pins s σ H vs us Q I rv q
  obtain ⟨G, ds, g, r, o⟩ := q
  cases r with
  | nil => exact False.elim o
  | cons h t =>
    cases t with
    | cons _ _ => cases h <;> exact False.elim o
    | nil =>
      cases h with
      | lst h r => exact call_list_of pins s σ H _ _ Q I rv ⟨_, _, rfl, .inl (g.seq h), out_own o g r⟩
      | tup h r => exact call_list_of pins s σ H _ _ Q I rv ⟨_, _, rfl, .inr (Same.tupS g h), out_own o g r⟩
      | _ => exact False.elim o
/-- tuple(x) -/
def tupOf : List D → R W
  | [.lst ds] => .ok (.sh (.tup ds))
  | [.tup ds] => .ok (.sh (.tup ds))
  | _ => .no
theorem call_tupOf : CallD X EX (.type "tuple") tupOf := by
  intro pins s σ H vs us Q I rv q
  obtain ⟨G, ds, g, r, o⟩ := q
  cases r with
  | nil => exact False.elim o
  | cons h t =>
    cases t with
    | cons _ _ => cases h <;> exact False.elim o
    | nil =>
      cases h with
      | lst h r =>
        refine call_tuple_of pins s σ H _ _ Q I rv ⟨_, _, rfl, .inl ⟨g.seq h, fun p hp => ?_⟩⟩
        exact o (.ref p) _ _ (Step.new g hp _) (.tup (SqT.of upd_same) (r.mono (same_new (g.free hp) _)))
      | tup h r => exact call_tuple_of pins s σ H _ _ Q I rv ⟨_, _, rfl, .inr ⟨Same.tupS g h, out_sh o g (.tup h r)⟩⟩
      | _ => exact False.elim o
end
end L3

namespace L3
open PySem PySem.Spec PyProof.Rows L2

/-! ### calls of the text's defs -/
def R.calm : R W → R W
  | .ok w => .ok w
  | _ => .no
def spD (K : PySem.W.Frag) (n : Nat) (F : List D → R W) : Sp := fun vs H Q _ => vs.length = n ∧ ∃ G ds, Same G H ∧ HasL K G vs ds ∧ Out K EX0 G H (F ds) Q
def eFn (n : Nat) (F : List D → R W) (fa : FA) : FE := fun δ => (fa δ).bind fun ds => if ds.length = n then (F ds).calm else .no
/-- a def of the text that is a function upon data: its name, how deep it goes, its parameters -/
def FnD (P : Program) (w : World) (K : PySem.W.Frag) (mg : Str → Option Value) (base : Heap) (x : Str) (k : Nat) (ps : List Str) (F : List D → R W) : Prop :=
  ∃ f fd, FnOk P w K mg base CX0 k f fd ps (spD K ps.length F) ∧ mg x = some (.ref f) ∧ PySem.W.keepIn K (.ref f) = true ∧ Binds K fd ps []
section
variable {X : Cx} {EX : EXT} {e : Expr} {es : List Expr} {fa : FA} {x : Str} {pp pos : Pos} {k k' : Nat} {ps : List Str} {F : List D → R W}
theorem ed_call (hr : Room k' X.A) (h : FnD X.prog X.w X.K X.mg X.base x k ps F) (ha : AD X EX (e :: es) fa) (hk : k ≤ k' := by decide) (hg : Gl X x := by rfl) (hdb : (x == ("__debug__" : Str)) = false := by decide)
    (he : starEach (e :: es) X.env = (false, eval e X.env) :: starEach es X.env := by rfl) (hpl : (backTo pos (starEach es X.env)).any (·.1) = false := by rfl) :
    ED X EX (.Call (.Name x pp) (e :: es) [] pos) (eFn ps.length F fa) := by
  obtain ⟨f, fd, ok, hm, kp, hb⟩ := h
  refine PE.imp (pe_call ok (hr.mono hk) hg hm kp hb .nil pass0 ha hdb he hpl) fun σ H Q ⟨G, δ, g0, s0, o⟩ => tDa.seq g0 s0 o fun ds vs G' H' _ st r o' => ?_
  rw [List.append_nil]
  split at o'
  · rename_i hl
    refine ⟨by rw [r.length]; exact hl, G', ds, st.gh, r, ?_⟩
    cases q : F ds with
    | ok w => rw [q] at o'; exact o'
    | ex x => rw [q] at o'; exact o'.elim
    | no => rw [q] at o'; exact o'.elim
  · exact o'.elim
end

/-! ### statements -/
inductive Sl where
  | no | sh (d : D) | ow (d : D)
abbrev SE := List Sl
/-- what a statement comes to -/
inductive Fl where
  | nx (Δ : SE) | rt (w : W) | bk (Δ : SE) | ct (Δ : SE) | ex (x : Xn) | no
abbrev FS := SE → Fl
def Sl.pub : Sl → Option D
  | .sh d => some d
  | _ => none
def Sl.any : Sl → Option D
  | .sh d => some d
  | .ow d => some d
  | .no => none
def Sl.give : Sl → Sl
  | .ow d => .sh d
  | s => s
/-- what may be spoken of without one's own lists; with them; the lists given to all -/
def vsh (Δ : SE) : DE := Δ.map Sl.pub
def vall (Δ : SE) : DE := Δ.map Sl.any
def gall (Δ : SE) : SE := Δ.map Sl.give

structure Ev (K : PySem.W.Frag) (H0 G0 G H : Hp) (σ : Sg) (Δ : SE) (O : List Addr) : Prop where
  st : Step G0 H0 G H
  len : σ.length = Δ.length
  sh : ∀ (i : Nat) (d : D), Δ[i]? = some (.sh d) → ∃ v, σ[i]? = some (some v) ∧ Has K G v d
  ow : ∀ (i : Nat) (d : D), Δ[i]? = some (.ow d) → ∃ a ho, σ[i]? = some (some (.ref a)) ∧ a ∈ O ∧ H a = some ho ∧ Top K G ho d
  out : ∀ a ∈ O, G a = none ∧ H0 a = none ∧ H a ≠ none
  inj : ∀ (i j : Nat) (d d' : D) (a : Addr), Δ[i]? = some (.ow d) → Δ[j]? = some (.ow d') → σ[i]? = some (some (.ref a)) → σ[j]? = some (some (.ref a)) → i = j

/-- all that may be spoken of -/
def allG (G H : Hp) (O : List Addr) : Hp := fun b => if b ∈ O then H b else G b
section
variable {K : PySem.W.Frag} {H0 G0 G H G' H' : Hp} {σ : Sg} {Δ : SE} {O : List Addr}
theorem Ev.gsh (E : Ev K H0 G0 G H σ Δ O) : HasS K G σ (vsh Δ) := ⟨by rw [E.len]; unfold vsh; rw [List.length_map], fun i d q => by
  unfold vsh at q
  rw [List.getElem?_map] at q
  cases e : Δ[i]? with
  | none => rw [e] at q; cases q
  | some z =>
    rw [e] at q
    cases z with
    | sh d' => cases q; exact E.sh i d e
    | ow d' => cases q
    | no => cases q⟩
theorem Ev.aH (E : Ev K H0 G0 G H σ Δ O) : Same (allG G H O) H := fun b o q => by
  unfold allG at q
  split at q
  · exact q
  · exact E.st.gh b o q
theorem Ev.aG (E : Ev K H0 G0 G H σ Δ O) : Same G (allG G H O) := fun b o q => by
  unfold allG
  split
  · rename_i hb; rw [(E.out b hb).1] at q; cases q
  · exact q
theorem Ev.aStep (E : Ev K H0 G0 G H σ Δ O) : Step G0 H0 (allG G H O) H :=
  ⟨E.st.hh, E.aH, E.st.gg.trans E.aG, fun b n z => by
    unfold allG
    split
    · rename_i hb; exact absurd (E.out b hb).2.1 z
    · exact E.st.nw b n z⟩
theorem Ev.gall (E : Ev K H0 G0 G H σ Δ O) : HasS K (allG G H O) σ (vall Δ) := ⟨by rw [E.len]; unfold vall; rw [List.length_map], fun i d q => by
  unfold vall at q
  rw [List.getElem?_map] at q
  cases e : Δ[i]? with
  | none => rw [e] at q; cases q
  | some z =>
    rw [e] at q
    cases z with
    | sh d' =>
      cases q
      obtain ⟨v, e1, r⟩ := E.sh i d e
      exact ⟨v, e1, r.mono E.aG⟩
    | ow d' =>
      cases q
      obtain ⟨a, ho, e1, m, e2, t⟩ := E.ow i d e
      refine ⟨_, e1, (t.mono E.aG).has ?_⟩
      unfold allG
      rw [if_pos m]
      exact e2
    | no => cases q⟩
/-- the heap has grown, what is spoken of too -/
theorem Ev.grow (E : Ev K H0 G0 G H σ Δ O) (s : Step G H G' H') : Ev K H0 G0 G' H' σ Δ O :=
  ⟨E.st.trans s, E.len, fun i d e => let ⟨v, e1, r⟩ := E.sh i d e; ⟨v, e1, r.mono s.gg⟩, fun i d e => let ⟨a, ho, e1, m, e2, t⟩ := E.ow i d e; ⟨a, ho, e1, m, s.hh _ _ e2, t.mono s.gg⟩,
    fun a ha => let ⟨h1, h2, h3⟩ := E.out a ha; ⟨s.nw a h1 h3, h2, fun z => h3 (s.hh.free z)⟩, E.inj⟩
/-- only the heap has grown -/
theorem Ev.keep (E : Ev K H0 G0 G H σ Δ O) (s : Same H H') : Ev K H0 G0 G H' σ Δ O :=
  E.grow ⟨s, E.st.gh.trans s, Same.refl _, fun _ n _ => n⟩
/-- one's own lists are given to all -/
theorem Ev.share (E : Ev K H0 G0 G H σ Δ O) (s : Step (allG G H O) H G' H') : Ev K H0 G0 G' H' σ (L3.gall Δ) [] := by
  refine ⟨E.aStep.trans s, by rw [E.len]; unfold L3.gall; rw [List.length_map], fun i d e => ?_, fun i d e => ?_, fun a ha => absurd ha (by simp), fun i j d d' a e => ?_⟩
  · have hv : (vall Δ)[i]? = some (some d) := by
      unfold L3.gall at e
      unfold vall
      rw [List.getElem?_map] at e ⊢
      cases q : Δ[i]? with
      | none => rw [q] at e; cases e
      | some z =>
        rw [q] at e
        cases z with
        | sh d' => cases e; rfl
        | ow d' => cases e; rfl
        | no => cases e
    obtain ⟨v, e1, r⟩ := E.gall.get i d hv
    exact ⟨v, e1, r.mono s.gg⟩
  · exfalso
    unfold L3.gall at e
    rw [List.getElem?_map] at e
    cases q : Δ[i]? with
    | none => rw [q] at e; cases e
    | some z => rw [q] at e; cases z <;> cases e
  · exfalso
    unfold L3.gall at e
    rw [List.getElem?_map] at e
    cases q : Δ[i]? with
    | none => rw [q] at e; cases e
    | some z => rw [q] at e; cases z <;> cases e
theorem getSet {α : Type} {l : List α} {i j : Nat} {x y : α} (h : (l.set i x)[j]? = some y) : (i = j ∧ y = x) ∨ (i ≠ j ∧ l[j]? = some y) := by
  by_cases e : i = j
  · subst e
    rw [List.getElem?_set] at h
    simp only [if_true] at h
    split at h
    · exact .inl ⟨rfl, (Option.some.inj h).symm⟩
    · cases h
  · rw [List.getElem?_set_ne e] at h
    exact .inr ⟨e, h⟩
/-- a name is stored: a shared value -/
theorem Ev.put (E : Ev K H0 G0 G H σ Δ O) {i : Nat} {v : V} {d : D} (r : Has K G v d) : Ev K H0 G0 G H (σ.set i (some v)) (Δ.set i (.sh d)) O := by
  refine ⟨E.st, by rw [List.length_set, List.length_set]; exact E.len, fun j d' e => ?_, fun j d' e => ?_, E.out, fun j j' d' d2 a e e' h1 h2 => ?_⟩
  · rcases getSet e with ⟨rfl, q⟩ | ⟨n, q⟩
    · cases q
      refine ⟨v, ?_, r⟩
      have hlt : i < Δ.length := by
        by_cases hh : i < Δ.length
        · exact hh
        · rw [List.getElem?_eq_none (by rw [List.length_set]; omega)] at e; cases e
      rw [List.getElem?_set_self (by rw [E.len]; exact hlt)]
    · obtain ⟨v', e1, r'⟩ := E.sh j d' q
      exact ⟨v', by rw [List.getElem?_set_ne n]; exact e1, r'⟩
  · rcases getSet e with ⟨rfl, q⟩ | ⟨n, q⟩
    · cases q
    · obtain ⟨a, ho, e1, x⟩ := E.ow j d' q
      exact ⟨a, ho, by rw [List.getElem?_set_ne n]; exact e1, x⟩
  · rcases getSet e with ⟨rfl, q⟩ | ⟨n, q⟩
    · cases q
    · rcases getSet e' with ⟨rfl, q'⟩ | ⟨n', q'⟩
      · cases q'
      · rw [List.getElem?_set_ne n] at h1
        rw [List.getElem?_set_ne n'] at h2
        exact E.inj j j' d' d2 a q q' h1 h2
/-- a name is stored: a list of one's own -/
theorem Ev.putO (E : Ev K H0 G0 G H σ Δ O) {i : Nat} {p : Addr} {ho : HO} {d : D} (n : H0 p = none) (g : G p = none) (e : H p = some ho) (t : Top K G ho d) (nw : ∀ (j : Nat) (d' : D), Δ[j]? = some (.ow d') → σ[j]? ≠ some (some (.ref p))) :
    Ev K H0 G0 G H (σ.set i (some (.ref p))) (Δ.set i (.ow d)) (p :: O) := by
  refine ⟨E.st, by rw [List.length_set, List.length_set]; exact E.len, fun j d' e' => ?_, fun j d' e' => ?_, fun a ha => ?_, fun j j' d' d2 a e1 e2 h1 h2 => ?_⟩
  · rcases getSet e' with ⟨rfl, q⟩ | ⟨nn, q⟩
    · cases q
    · obtain ⟨v', e1, r'⟩ := E.sh j d' q
      exact ⟨v', by rw [List.getElem?_set_ne nn]; exact e1, r'⟩
  · rcases getSet e' with ⟨rfl, q⟩ | ⟨nn, q⟩
    · cases q
      have hlt : i < Δ.length := by
        by_cases hh : i < Δ.length
        · exact hh
        · rw [List.getElem?_eq_none (by rw [List.length_set]; omega)] at e'; cases e'
      exact ⟨p, ho, by rw [List.getElem?_set_self (by rw [E.len]; exact hlt)], List.mem_cons_self, e, t⟩
    · obtain ⟨a, ho', e1, m, x⟩ := E.ow j d' q
      exact ⟨a, ho', by rw [List.getElem?_set_ne nn]; exact e1, List.mem_cons_of_mem _ m, x⟩
  · rcases List.mem_cons.mp ha with rfl | ha
    · exact ⟨g, n, by rw [e]; simp⟩
    · exact E.out a ha
  · rcases getSet e1 with ⟨rfl, q⟩ | ⟨nn, q⟩
    · rcases getSet e2 with ⟨rfl, q'⟩ | ⟨n', q'⟩
      · rfl
      · rw [List.getElem?_set_ne n'] at h2
        have hlt : i < σ.length := by
          by_cases hh : i < σ.length
          · exact hh
          · rw [List.getElem?_eq_none (by rw [List.length_set]; omega)] at h1; cases h1
        rw [List.getElem?_set_self hlt] at h1
        cases h1
        exact absurd h2 (nw j' d2 q')
    · rcases getSet e2 with ⟨rfl, q'⟩ | ⟨n', q'⟩
      · rw [List.getElem?_set_ne nn] at h1
        have hlt : i < σ.length := by
          by_cases hh : i < σ.length
          · exact hh
          · rw [List.getElem?_eq_none (by rw [List.length_set]; omega)] at h2; cases h2
        rw [List.getElem?_set_self hlt] at h2
        cases h2
        exact absurd h1 (nw j d' q)
      · rw [List.getElem?_set_ne nn] at h1
        rw [List.getElem?_set_ne n'] at h2
        exact E.inj j j' d' d2 a q q' h1 h2
/-- a list of one's own is rewritten -/
theorem Ev.write (E : Ev K H0 G0 G H σ Δ O) {i : Nat} {a : Addr} {ho : HO} {d d' : D} (e : Δ[i]? = some (.ow d)) (s : σ[i]? = some (some (.ref a))) (m : a ∈ O) (t : Top K G ho d') : Ev K H0 G0 G (upd H a ho) σ (Δ.set i (.ow d')) O := by
  obtain ⟨g0, n0, h0⟩ := E.out a m
  have sm : Same G (upd H a ho) := fun b o q => by
    by_cases z : b = a
    · subst z; rw [g0] at q; cases q
    · rw [upd_ne z]; exact E.st.gh b o q
  have hh : Same H0 (upd H a ho) := fun b o q => by
    by_cases z : b = a
    · subst z; rw [n0] at q; cases q
    · rw [upd_ne z]; exact E.st.hh b o q
  refine ⟨⟨hh, sm, E.st.gg, E.st.nw⟩, by rw [List.length_set]; exact E.len, fun j d2 e' => ?_, fun j d2 e' => ?_, fun b hb => ?_, fun j j' d2 d3 b e1 e2 h1 h2 => ?_⟩
  · rcases getSet e' with ⟨rfl, q⟩ | ⟨nn, q⟩
    · cases q
    · exact E.sh j d2 q
  · rcases getSet e' with ⟨rfl, q⟩ | ⟨nn, q⟩
    · cases q
      exact ⟨a, ho, s, m, upd_same, t⟩
    · obtain ⟨b, ho', e1, m', e2, x⟩ := E.ow j d2 q
      refine ⟨b, ho', e1, m', ?_, x⟩
      rw [upd_ne]
      · exact e2
      · rintro rfl
        exact nn (E.inj i j d d2 b e q s e1)
  · obtain ⟨h1, h2, h3⟩ := E.out b hb
    refine ⟨h1, h2, ?_⟩
    by_cases z : b = a
    · subst z; rw [upd_same]; simp
    · rw [upd_ne z]; exact h3
  · rcases getSet e1 with ⟨rfl, q⟩ | ⟨nn, q⟩
    · rcases getSet e2 with ⟨rfl, q'⟩ | ⟨n', q'⟩
      · rfl
      · exact E.inj i j' d d3 b e q' h1 h2
    · rcases getSet e2 with ⟨rfl, q'⟩ | ⟨n', q'⟩
      · exact E.inj j i d2 d b q e h1 h2
      · exact E.inj j j' d2 d3 b q q' h1 h2
end

/-- one name's list is given to all -/
def give1 (Δ : SE) (j : Nat) : SE := match Δ[j]? with
  | some s => Δ.set j s.give
  | none => Δ
def gsome (js : List Nat) (Δ : SE) : SE := js.foldl give1 Δ
section
variable {K : PySem.W.Frag} {H0 G0 G H : Hp} {σ : Sg} {Δ : SE} {O : List Addr}
theorem set_same {α : Type} {l : List α} {j : Nat} {x : α} (h : l[j]? = some x) : l.set j x = l := by
  apply List.ext_getElem?
  intro i
  by_cases e : j = i
  · subst e
    have hlt : j < l.length := (List.getElem?_eq_some_iff.mp h).1
    rw [List.getElem?_set_self hlt, h]
  · rw [List.getElem?_set_ne e]
theorem Ev.give1 (E : Ev K H0 G0 G H σ Δ O) (j : Nat) : ∃ G' O', Same G G' ∧ Ev K H0 G0 G' H σ (L3.give1 Δ j) O' := by
  unfold L3.give1
  cases e : Δ[j]? with
  | none => exact ⟨G, O, Same.refl _, E⟩
  | some s =>
    cases s with
    | no => exact ⟨G, O, Same.refl _, by show Ev K H0 G0 G H σ (Δ.set j .no) O; rw [set_same e]; exact E⟩
    | sh d => exact ⟨G, O, Same.refl _, by show Ev K H0 G0 G H σ (Δ.set j (.sh d)) O; rw [set_same e]; exact E⟩
    | ow d =>
      show ∃ G' O', Same G G' ∧ Ev K H0 G0 G' H σ (Δ.set j (.sh d)) O'
      obtain ⟨a, ho, s1, m, hH, t⟩ := E.ow j d e
      obtain ⟨g0, n0, _⟩ := E.out a m
      obtain ⟨sm1, sm2⟩ := Step.give E.st.gh g0 hH
      refine ⟨upd G a ho, O.filter fun b => b ≠ a, sm2, ⟨E.st.hh, sm1, E.st.gg.trans sm2, fun b h1 h2 => ?_⟩, by rw [List.length_set]; exact E.len, fun i d' e' => ?_, fun i d' e' => ?_, fun b hb => ?_, fun i i' d1 d2 b e1 e2 h1 h2 => ?_⟩
      · rw [upd_ne (fun z => by subst z; exact h2 n0)]
        exact E.st.nw b h1 h2
      · rcases getSet e' with ⟨rfl, q⟩ | ⟨n, q⟩
        · cases q
          exact ⟨.ref a, s1, (t.mono sm2).has upd_same⟩
        · obtain ⟨v, e1, r⟩ := E.sh i d' q
          exact ⟨v, e1, r.mono sm2⟩
      · rcases getSet e' with ⟨rfl, q⟩ | ⟨n, q⟩
        · cases q
        · obtain ⟨b, ho', e1, m', e2, t'⟩ := E.ow i d' q
          refine ⟨b, ho', e1, List.mem_filter.mpr ⟨m', ?_⟩, e2, t'.mono sm2⟩
          refine decide_eq_true fun z => ?_
          subst z
          exact n (E.inj j i d d' b e q s1 e1)
      · obtain ⟨h1, h2⟩ := List.mem_filter.mp hb
        obtain ⟨k1, k2, k3⟩ := E.out b h1
        exact ⟨by rw [upd_ne (of_decide_eq_true h2)]; exact k1, k2, k3⟩
      · rcases getSet e1 with ⟨rfl, q⟩ | ⟨n, q⟩
        · cases q
        · rcases getSet e2 with ⟨rfl, q'⟩ | ⟨n', q'⟩
          · cases q'
          · exact E.inj i i' d1 d2 b q q' h1 h2
theorem Ev.gsome : ∀ (js : List Nat) {G : Hp} {Δ : SE} {O : List Addr}, Ev K H0 G0 G H σ Δ O → ∃ G' O', Same G G' ∧ Ev K H0 G0 G' H σ (L3.gsome js Δ) O'
  | [], G, Δ, O, E => ⟨G, O, Same.refl _, E⟩
  | j :: js, G, Δ, O, E => by
    obtain ⟨G1, O1, s1, E1⟩ := E.give1 j
    obtain ⟨G2, O2, s2, E2⟩ := Ev.gsome js E1
    exact ⟨G2, O2, s1.trans s2, E2⟩
end

/-- what is wanted behind a statement -/
def Fin (K : PySem.W.Frag) (EX : EXT) (H0 G0 G1 : Hp) (D : Ends) : Fl → Prop
  | .nx Δ => ∀ σ G H O, Ev K H0 G0 G H σ Δ O → Same G1 G → D.nx σ H
  | .bk Δ => ∀ σ G H O, Ev K H0 G0 G H σ Δ O → Same G1 G → D.bk σ H
  | .ct Δ => ∀ σ G H O, Ev K H0 G0 G H σ Δ O → Same G1 G → D.ct σ H
  | .rt w => WP K G0 H0 w D.rt
  | .ex x => EX.p x G0 H0
  | .no => False
theorem Fin.mono {K : PySem.W.Frag} {EX : EXT} {H0 G0 G1 G2 : Hp} {D : Ends} {r : Fl} (s : Same G1 G2) (h : Fin K EX H0 G0 G1 D r) : Fin K EX H0 G0 G2 D r := by
  cases r with
  | nx Δ => exact fun σ G H O E q => h σ G H O E (s.trans q)
  | bk Δ => exact fun σ G H O E q => h σ G H O E (s.trans q)
  | ct Δ => exact fun σ G H O E q => h σ G H O E (s.trans q)
  | rt w => exact h
  | ex x => exact h
  | no => exact h
def tS (K : PySem.W.Frag) (EX : EXT) (g : FS) : TS := fun D σ H => ∃ H0 G0 G Δ O, Ev K H0 G0 G H σ Δ O ∧ Fin K EX H0 G0 G D (g Δ)
abbrev SD (X : Cx) (EX : EXT) (st : Stmt) (g : FS) : Prop := PS X st (tS X.K EX g)
abbrev BD (X : Cx) (EX : EXT) (st : List Stmt) (g : FS) : Prop := PSs X st (tS X.K EX g)
section
variable {X : Cx} {EX : EXT} {st : Stmt} {sts : List Stmt} {g h : FS} {pos : Pos} {e : Expr} {f : FE} {p : FT}

/-! ### blocks -/
def sNil : FS := fun Δ => .nx Δ
def sSeq (g h : FS) : FS := fun Δ => match g Δ with
  | .nx Δ' => h Δ'
  | r => r
theorem bd_nil : BD X EX [] sNil := PSs.imp pss_nil fun D σ H ⟨H0, G0, G, Δ, O, E, q⟩ => q σ G H O E (Same.refl _)
theorem bd_one (h1 : SD X EX st g) : BD X EX [st] g := pss_one h1
theorem bd_cons (h1 : SD X EX st g) (h2 : BD X EX sts h) : BD X EX (st :: sts) (sSeq g h) :=
  PSs.imp (pss_cons h1 h2) fun D σ H ⟨H0, G0, G, Δ, O, E, q⟩ => by
    refine ⟨H0, G0, G, Δ, O, E, ?_⟩
    unfold sSeq at q
    cases e : g Δ with
    | nx Δ' => rw [e] at q; exact fun σ' G' H' O' E' sm => ⟨H0, G0, G', Δ', O', E', Fin.mono sm q⟩
    | bk Δ' => rw [e] at q; exact q
    | ct Δ' => rw [e] at q; exact q
    | rt w => rw [e] at q; exact q
    | ex x => rw [e] at q; exact q
    | no => rw [e] at q; exact q
def sNever : FS := fun _ => .no
theorem sd_never : SD X EX st sNever := PS.imp ps_never fun D σ H ⟨H0, G0, G, Δ, O, E, q⟩ => q
theorem sd_pass : SD X EX (.Pass pos) sNil := PS.imp ps_pass fun D σ H ⟨H0, G0, G, Δ, O, E, q⟩ => q σ G H O E (Same.refl _)
theorem sd_break : SD X EX (.Break pos) (fun Δ => .bk Δ) := PS.imp ps_break fun D σ H ⟨H0, G0, G, Δ, O, E, q⟩ => q σ G H O E (Same.refl _)
theorem sd_continue : SD X EX (.Continue pos) (fun Δ => .ct Δ) := PS.imp ps_continue fun D σ H ⟨H0, G0, G, Δ, O, E, q⟩ => q σ G H O E (Same.refl _)

/-! ### return -/
def R.toRt : R W → Fl
  | .ok w => .rt w
  | .ex x => .ex x
  | .no => .no
def sRet (f : FE) : FS := fun Δ => (f (vall Δ)).toRt
theorem sd_ret (he : ED X EX e f) : SD X EX (.Return (some e) pos) (sRet f) :=
  PS.imp (ps_ret he) fun D σ H ⟨H0, G0, G, Δ, O, E, q⟩ => by
    refine ⟨allG G H O, vall Δ, E.aH, E.gall, ?_⟩
    unfold sRet at q
    cases e1 : f (vall Δ) with
    | ok w => rw [e1] at q; exact WP.mono E.aStep q
    | ex x => rw [e1] at q; exact EX.mono _ _ _ _ _ E.aStep q
    | no => rw [e1] at q; exact q
def sRetN : FS := fun _ => .rt (.sh .non)
theorem sd_retN : SD X EX (.Return none pos) sRetN := PS.imp ps_retN fun D σ H ⟨H0, G0, G, Δ, O, E, q⟩ => (WP.mono (w := .sh .non) (Q := D.rt) E.st q).use E.st.gh .non
/-- return x: a list of one's own is handed on -/
def sRetV (i : Nat) : FS := fun Δ => match Δ[i]? with
  | some (.sh d) => .rt (.sh d)
  | some (.ow d) => .rt (.ow d)
  | _ => .no
theorem sd_retV (i : Nat) {x : Str} {pos pos' : Pos} (hN : X.N[i]? = some x := by rfl) (hv : Vis X.env.scope x := by first | exact Or.inl rfl | exact Or.inr (Or.inl rfl) | exact Or.inr (Or.inr rfl)) (hd : (x == ("__debug__" : Str)) = false := by decide)
    (hcd : (x == ("__classdict__" : Str)) = false := by decide) : SD X EX (.Return (some (.Name x pos)) pos') (sRetV i) :=
  PS.imp (ps_ret (pe_var hN hv hd hcd)) fun D σ H ⟨H0, G0, G, Δ, O, E, q⟩ => by
    unfold sRetV at q
    split at q
    · rename_i d e
      obtain ⟨v, e1, r⟩ := E.sh i d e
      exact ⟨v, e1, (WP.mono (w := .sh d) (Q := D.rt) E.st q).use E.st.gh r⟩
    · rename_i d e
      obtain ⟨a, ho, e1, m, e2, t⟩ := E.ow i d e
      obtain ⟨h1, h2, h3⟩ := E.out a m
      exact ⟨_, e1, q a ho G H E.st h2 e2 h1 t⟩
    · exact q.elim

/-! ### x = e -/
/-- the value with what may be spoken of; else with all, where it is flat; else with the lists that it names given to all -/
def sSet (i : Nat) (js : List Nat) (f : FE) : FS := fun Δ => match f (vsh Δ) with
  | .ok (.sh d) => .nx (Δ.set i (.sh d))
  | .ok (.ow d) => .nx (Δ.set i (.ow d))
  | .ex x => .ex x
  | .no => match f (vall Δ) with
    | .ex x => .ex x
    | .no => .no
    | .ok w => if flatD w.d = true then .nx (Δ.set i (.sh w.d)) else match f (vsh (gsome js Δ)) with
      | .ok (.sh d) => .nx ((gsome js Δ).set i (.sh d))
      | .ok (.ow d) => .nx ((gsome js Δ).set i (.ow d))
      | .ex x => .ex x
      | .no => .no
theorem set_one {K : PySem.W.Frag} {H0 G0 G G1 H : Hp} {σ : Sg} {Δ : SE} {O : List Addr} {D : Ends} {i : Nat} (E : Ev K H0 G0 G H σ Δ O) (sg : Same G1 G)
    (q : Fin K EX H0 G0 G1 D (match f (vsh Δ) with | .ok (.sh d) => .nx (Δ.set i (.sh d)) | .ok (.ow d) => .nx (Δ.set i (.ow d)) | .ex x => .ex x | .no => .no)) : tAsg (tD K EX f) (gName i) D σ H := by
  refine ⟨G, vsh Δ, E.st.gh, E.gsh, ?_⟩
  cases e1 : f (vsh Δ) with
  | ok w =>
    rw [e1] at q
    cases w with
    | sh d => exact fun v G' H' st r => q _ G' H' O ((E.grow st).put r) (sg.trans st.gg)
    | ow d =>
      intro p ho G' H' st n e2 g t
      refine q _ G' H' (p :: O) ((E.grow st).putO (E.st.hh.free n) g e2 t fun j d' ej z => ?_) (sg.trans st.gg)
      obtain ⟨a, ho', z1, _, z2, _⟩ := E.ow j d' ej
      rw [z1] at z
      cases z
      rw [n] at z2; cases z2
  | ex x => rw [e1] at q; exact EX.mono _ _ _ _ _ E.st q
  | no => rw [e1] at q; exact q
/-- a value comes, then a name is stored -/
theorem set_core {K : PySem.W.Frag} {D : Ends} {σ : Sg} {H : Hp} {i : Nat} {js : List Nat} (q : tS K EX (sSet i js f) D σ H) : tAsg (tD K EX f) (gName i) D σ H := by
  obtain ⟨H0, G0, G, Δ, O, E, q⟩ := q
  unfold sSet at q
  cases e1 : f (vsh Δ) with
  | ok w =>
    rw [e1] at q
    refine set_one E (Same.refl _) ?_
    rw [e1]
    cases w <;> exact q
  | ex x =>
    rw [e1] at q
    refine set_one E (Same.refl _) ?_
    rw [e1]
    exact q
  | no =>
    rw [e1] at q
    cases e2 : f (vall Δ) with
    | ok w =>
      simp only [e2] at q
      split at q
      · rename_i fl
        refine ⟨allG G H O, vall Δ, E.aH, E.gall, ?_⟩
        rw [e2]
        exact WP.intro fun v G' H' st r => q _ G H' O ((E.keep st.hh).put (r.ofFl fl)) (Same.refl _)
      · obtain ⟨G', O', sg, E'⟩ := E.gsome js
        exact set_one E' sg q
    | ex x =>
      simp only [e2] at q
      exact ⟨allG G H O, vall Δ, E.aH, E.gall, by rw [e2]; exact EX.mono _ _ _ _ _ E.aStep q⟩
    | no => simp only [e2] at q; exact q.elim
theorem sd_set {i : Nat} (js : List Nat) {x : Str} {pos' : Pos} (he : ED X EX e f) (hN : X.N.Nodup) (hi : X.N[i]? = some x := by rfl) (hx : Loc X.env.scope x := by first | exact Or.inl rfl | exact Or.inr rfl) (hs : swapsWith e (some (.Name x pos')) pos.line X.env = pure false := by rfl)
    (hf : X.fn x = true ∨ X.env.scope.names.lookup x = some .local := by first | exact .inl rfl | exact .inr rfl | assumption) : SD X EX (.Assign [.Name x pos'] e pos) (sSet i js f) :=
  PS.imp (ps_set hN hi hx he hs hf) fun D σ H q => set_core q

/-! ### an expression whose value is dropped; if -/
def sExpr (f : FE) : FS := fun Δ => match f (vall Δ) with
  | .ok _ => .nx Δ
  | .ex x => .ex x
  | .no => .no
theorem sd_expr (he : ED X EX e f) (hs : swapsWith e none pos.line X.env = pure false := by rfl) : SD X EX (.Expr e pos) (sExpr f) :=
  PS.imp (ps_expr he hs) fun D σ H ⟨H0, G0, G, Δ, O, E, q⟩ => by
    refine ⟨allG G H O, vall Δ, E.aH, E.gall, ?_⟩
    unfold sExpr at q
    cases e1 : f (vall Δ) with
    | ok w => rw [e1] at q; exact WP.intro fun v G' H' st r => q σ G H' O (E.keep st.hh) (Same.refl _)
    | ex x => rw [e1] at q; exact EX.mono _ _ _ _ _ E.aStep q
    | no => rw [e1] at q; exact q
def sIf (p : FT) (g h : FS) : FS := fun Δ => match p (vall Δ) with
  | .ok b => if b = true then g Δ else h Δ
  | .ex x => .ex x
  | .no => .no
/-- a test, then one of two -/
theorem test_core {K : PySem.W.Frag} {H0 G0 G H : Hp} {σ : Sg} {Δ : SE} {O : List Addr} {D : Ends} {k : Bool → Fl} {P : Bool → Hp → Prop} (E : Ev K H0 G0 G H σ Δ O)
    {G1 : Hp} (q : Fin K EX H0 G0 G1 D (match p (vall Δ) with | .ok b => k b | .ex x => .ex x | .no => .no)) (i : ∀ b H', p (vall Δ) = .ok b → Ev K H0 G0 G H' σ Δ O → Fin K EX H0 G0 G1 D (k b) → P b H') : tDt K EX p σ H P := by
  refine ⟨allG G H O, vall Δ, E.aH, E.gall, ?_⟩
  cases e1 : p (vall Δ) with
  | ok b => rw [e1] at q; exact fun G' H' st => i b H' e1 (E.keep st.hh) q
  | ex x => rw [e1] at q; exact EX.mono _ _ _ _ _ E.aStep q
  | no => rw [e1] at q; exact q
theorem sd_if {c : Expr} {as bs : List Stmt} (hc : TD X EX c p) (ha : BD X EX as g) (hb : BD X EX bs h) : SD X EX (.If c as bs pos) (sIf p g h) :=
  PS.imp (ps_if hc ha hb) fun D σ H ⟨H0, G0, G, Δ, O, E, q⟩ => test_core (k := fun b => if b = true then g Δ else h Δ) E q fun b H' _ E' q' => by
    cases b with
    | true => rw [if_pos rfl]; exact ⟨H0, G0, G, Δ, O, E', q'⟩
    | false => rw [if_neg Bool.false_ne_true]; exact ⟨H0, G0, G, Δ, O, E', q'⟩

/-! ### while: n turns at most -/
def sWhile (p : FT) (g : FS) : Nat → FS
  | 0 => fun _ => .no
  | n + 1 => fun Δ => match p (vall Δ) with
    | .ok b => if b = true then (match g Δ with
        | .nx Δ' => sWhile p g n Δ'
        | .ct Δ' => sWhile p g n Δ'
        | .bk Δ' => .nx Δ'
        | r => r) else .nx Δ
    | .ex x => .ex x
    | .no => .no
theorem sd_while (n : Nat) {c : Expr} {body : List Stmt} (hp : PassesOwn (model X.prog X.w) X.A X.env X.xe) (hc : TD X EX c p) (hb : BD X EX body g) : SD X EX (.While c body [] pos) (sWhile p g n) :=
  PS.imp (ps_while hp hc hb) fun D σ H ⟨H0, G0, G1, Δ, O, E, q⟩ => by
    refine ⟨fun m σ H => ∃ G Δ O, Ev X.K H0 G0 G H σ Δ O ∧ Same G1 G ∧ Fin X.K EX H0 G0 G1 D (sWhile p g m Δ), ⟨n, G1, Δ, O, E, Same.refl _, q⟩, ?_⟩
    rintro m σ H ⟨G, Δ, O, E, sg, q⟩
    cases m with
    | zero => exact False.elim q
    | succ m =>
      refine test_core (k := fun b => if b = true then (match g Δ with | .nx Δ' => sWhile p g m Δ' | .ct Δ' => sWhile p g m Δ' | .bk Δ' => .nx Δ' | r => r) else .nx Δ) E q fun b H' _ E' q' => ?_
      cases b with
      | false => rw [if_neg Bool.false_ne_true]; exact q' σ G H' O E' sg
      | true =>
        rw [if_pos rfl]
        rw [if_pos rfl] at q'
        refine ⟨fun σ' H' => ∃ G Δ O, Ev X.K H0 G0 G H' σ' Δ O ∧ Same G1 G ∧ Fin X.K EX H0 G0 G1 D (sWhile p g m Δ), fun σ' H' w => ⟨m, Nat.lt_succ_self _, w⟩, H0, G0, G, Δ, O, E', ?_⟩
        cases e1 : g Δ with
        | nx Δ' => rw [e1] at q'; exact fun σ' G' H' O' E2 s2 => ⟨G', Δ', O', E2, sg.trans s2, q'⟩
        | ct Δ' => rw [e1] at q'; exact fun σ' G' H' O' E2 s2 => ⟨G', Δ', O', E2, sg.trans s2, q'⟩
        | bk Δ' => rw [e1] at q'; exact Fin.mono (r := .nx Δ') sg q'
        | rt w => rw [e1] at q'; exact q'
        | ex x => rw [e1] at q'; exact q'
        | no => rw [e1] at q'; exact q'
end

/-! ### a def -/
def start3 (n : Nat) (ds : List D) : SE := ds.map Sl.sh ++ List.replicate (n - ds.length) .no
def bodyD (n : Nat) (g : FS) (ds : List D) : R W := match g (start3 n ds) with
  | .nx _ => .ok (.sh .non)
  | .rt w => .ok w
  | .ex x => .ex x
  | _ => .no
theorem ev_start {K : PySem.W.Frag} {G H : Hp} {vs : List V} {ds : List D} {N : List Str} (g : Same G H) (r : HasL K G vs ds) : Ev K H G G H (L2.start N vs) (start3 N.length ds) [] := by
  refine ⟨Step.refl g, ?_, fun i d e => ?_, fun i d e => ?_, fun a ha => absurd ha (by simp), fun i j d d' a e => ?_⟩
  · unfold L2.start start3
    simp only [List.length_append, List.length_map, List.length_replicate, r.length]
  · unfold start3 at e
    by_cases hi : i < ds.length
    · rw [List.getElem?_append_left (by rw [List.length_map]; exact hi), List.getElem?_map] at e
      cases q : ds[i]? with
      | none => rw [q] at e; cases e
      | some d' =>
        rw [q] at e
        cases e
        obtain ⟨v, e1, h⟩ := r.get q
        refine ⟨v, ?_, h⟩
        unfold L2.start
        rw [List.getElem?_append_left (by rw [List.length_map, r.length]; exact hi), List.getElem?_map, e1]
        rfl
    · rw [List.getElem?_append_right (by rw [List.length_map]; omega), List.getElem?_replicate] at e
      split at e <;> cases e
  · exfalso
    unfold start3 at e
    by_cases hi : i < ds.length
    · rw [List.getElem?_append_left (by rw [List.length_map]; exact hi), List.getElem?_map] at e
      cases q : ds[i]? with
      | none => rw [q] at e; cases e
      | some d' => rw [q] at e; cases e
    · rw [List.getElem?_append_right (by rw [List.length_map]; omega), List.getElem?_replicate] at e
      split at e <;> cases e
  · exfalso
    unfold start3 at e
    by_cases hi : i < ds.length
    · rw [List.getElem?_append_left (by rw [List.length_map]; exact hi), List.getElem?_map] at e
      cases q : ds[i]? with
      | none => rw [q] at e; cases e
      | some d' => rw [q] at e; cases e
    · rw [List.getElem?_append_right (by rw [List.length_map]; omega), List.getElem?_replicate] at e
      split at e <;> cases e
theorem fn_D {P : Program} {w : World} {K : PySem.W.Frag} {mg : Str → Option Value} {base : Heap} {x qual : Str} {st : Stmt} {f : Addr} {fd : FuncData} {N ps : List Str} {k : Nat} {g : FS} (F : Fun K x qual st f fd) (S : FnScope N ps (defScope st))
    (hbody : ∀ (cdv : Value) (A : Around) (outer : List Env) (s : Shared) (H : Hp) (E : XK), Room k (A.deeper (envOfC qual (defScope st) s.heap.objs.size f cdv)) →
      BD (cxOf CX0 P w K mg base N qual (defScope st) f cdv A outer s H E).nox EX0 (defBody st) g) : FnOk P w K mg base CX0 (k + 1) f fd ps (spD K ps.length (bodyD N.length g)) := by
  refine F.ok S (fun vs H Q E h => h.1) fun cdv A outer s H vs Q E hr h => ⟨_, hbody cdv A outer s H E hr, ?_⟩
  obtain ⟨hl, G, ds, g0, r, o⟩ := h
  refine ⟨H, G, G, _, [], ev_start g0 r, ?_⟩
  unfold bodyD at o
  cases e : g (start3 N.length ds) with
  | nx Δ => rw [e] at o; exact fun σ G' H' O E' _ => (WP.mono (w := .sh .non) (Q := Q) E'.st o).use E'.st.gh .non
  | rt w => rw [e] at o; exact o
  | ex x => rw [e] at o; exact o
  | bk Δ => rw [e] at o; exact o.elim
  | ct Δ => rw [e] at o; exact o.elim
  | no => rw [e] at o; exact o
/-- a def of the text, under its name -/
theorem fnd_mk {P : Program} {w : World} {K : PySem.W.Frag} {mg : Str → Option Value} {base : Heap} {x : Str} {st : Stmt} {f : Addr} {fd : FuncData} {ps : List Str} {k : Nat} {Fn : List D → R W} (F : Fun K x x st f fd) (hm : mg x = some (.ref f)) (hb : Binds K fd ps [])
    (ok : FnOk P w K mg base CX0 k f fd ps (spD K ps.length Fn)) : FnD P w K mg base x k ps Fn := ⟨f, fd, ok, hm, F.kp, hb⟩
end L3

namespace L3
open PySem PySem.Spec PyProof.Rows L2

/-! ### what is walked -/
/-- the signs of a text -/
def strIt (x : Str) : It := ⟨fun i _ => i < x.cps.size, fun i H v H' => H' = H ∧ ∃ c, x.cps[i]? = some c ∧ v = .str ⟨#[c]⟩, fun i _ => i = x.cps.size⟩
/-- an iterator that walks as the library says (no tuples of its own) -/
theorem turn_walks {P : Program} {w : World} {K : PySem.W.Frag} {tg : Expr} {it : Addr} {n : Nat} {Pv : Nat → Value → Prop} {St : Nat → Heap → Prop} {J : It}
    (W : ∀ A' : Around, A'.handled = none → Walks P w A' it [it] [it] n Pv St)
    (hobj : ∀ i h, St i h → ∃ o nm vs, h.get? it = some o ∧ o.cls = .type nm ∧ o.data = .fields vs ∧ ["enumerate", "zip", "dict_itemiterator", "dict_reverseitemiterator", "odict_iterator", "itertools.zip_longest", "itertools.pairwise"].contains nm = false)
    (hkeep : ∀ (i : Nat) (h h' : Heap), St i h → (∀ b ∈ [it], ∀ o, h.get? b = some o → h'.get? b = some o) → St i h') (hself : ∀ (A : Around) (i : Nat) (s : Shared) (Q E : Value → Shared → Prop), St i s.heap → Q (.ref it) s → wpAny (model P w) A (pyIter (.ref it)) Q E s)
    (hgo : ∀ i H, J.go i H → i < n) (hst : ∀ i H, J.stop i H → i = n) (hy : ∀ i H u, Pv i u → ∃ x, RelV x u ∧ J.yld i H x H) : Turn P w K tg J [it] it St where
  mem := by simp
  obj := fun i h st b hb => by
    have e : b = it := by simpa using hb
    subst e
    obtain ⟨o, nm, vs, e, c, d, _⟩ := hobj i h st
    exact ⟨o, e, fun v z => by rw [d] at z; cases z⟩
  keep := hkeep
  item := by
    intro X hP hw hK hc i pins s σ H E I hf st hg
    subst hP hw hK
    obtain ⟨f0, f1, f2, f3, f4, f5⟩ := hf it (by simp)
    refine (W X.A (I.ok.hd hc)).item i s _ _ (hgo i H hg) st fun v h' tk hv st' kk => ?_
    have I1 : Inv X pins σ H { s with heap := h', toks := tk } := I.turned (fun b o hb e => kk b o (by simpa using hb) e) f0 f1 f3 f4 f5
    obtain ⟨x, rx, yx⟩ := hy i H v hv
    obtain ⟨o, nm, vs, e, c, d, hn⟩ := hobj (i + 1) h' st'
    exact ⟨v, rfl, go_of (s := { s with heap := h', toks := tk }) e c d hn ⟨x, H, I1, rx, yx, st', fun b hb => (hf b hb).1⟩⟩
  done := by
    intro X hP hw hK hc i pins s σ H E I hf st hg
    subst hP hw hK
    obtain ⟨f0, f1, f2, f3, f4, f5⟩ := hf it (by simp)
    obtain rfl := hst i H hg
    exact (W X.A (I.ok.hd hc)).done s _ _ st fun h' tk kk => ⟨rfl, I.turned (fun b o hb e => kk b o (by simpa using hb) e) f0 f1 f3 f4 f5⟩
  self := hself

def ItD (K : PySem.W.Frag) (G1 : Hp) (J : It) (ds : List D) : Prop := ∀ G H, Same G1 G → Same G H → ∀ i,
  (∀ d, ds[i]? = some d → J.go i H ∧ ∀ x H', J.yld i H x H' → ∃ G', Step G H G' H' ∧ Has K G' x d) ∧ (ds.length = i → J.stop i H)
abbrev FI := DE → R (List D)
def tI (K : PySem.W.Frag) (EX : EXT) (fi : FI) : TI := fun σ H Q => ∃ G δ, Same G H ∧ HasS K G σ δ ∧ match fi δ with
  | .ok ds => ∀ J G' H', Step G H G' H' → ItD K G' J ds → Q J H'
  | .ex x => EX.p x G H
  | .no => False
abbrev ID (X : Cx) (EX : EXT) (tg iter : Expr) (fi : FI) : Prop := PI X tg iter (tI X.K EX fi)
theorem PI.imp {X : Cx} {tg e : Expr} {t t' : TI} (h : PI X tg e t) (i : ∀ σ H Q, t' σ H Q → t σ H Q) : PI X tg e t' := fun pins s σ H Q I q => h pins s σ H Q I (i σ H Q q)
section
variable {X : Cx} {EX : EXT} {tg e a b : Expr} {f : FE} {fa : FA} {p pos : Pos}
theorem tDa.seqI {K : PySem.W.Frag} {G H : Hp} {σ : Sg} {δ : DE} {k : List D → R (List D)} {Q : It → Hp → Prop} {P : List V → Hp → Prop} (g : Same G H) (s : HasS K G σ δ)
    (h : match (fa δ).bind k with | .ok ds => ∀ J G' H', Step G H G' H' → ItD K G' J ds → Q J H' | .ex x => EX.p x G H | .no => False)
    (i : ∀ ds vs G' H', Step G H G' H' → HasL K G' vs ds → (match k ds with | .ok ds => ∀ J G2 H2, Step G' H' G2 H2 → ItD K G2 J ds → Q J H2 | .ex x => EX.p x G' H' | .no => False) → P vs H') : tDa K EX fa σ H P := by
  refine ⟨G, δ, g, s, ?_⟩
  cases e : fa δ with
  | ok ds =>
    rw [e] at h
    simp only [R.bind_ok] at h
    refine fun vs G' H' st r => i ds vs G' H' st r ?_
    cases e2 : k ds with
    | ok ds' => rw [e2] at h; exact fun J G2 H2 st2 it => h J G2 H2 (st.trans st2) it
    | ex x => rw [e2] at h; exact EX.mono _ _ _ _ _ st h
    | no => rw [e2] at h; exact h
  | ex x => rw [e] at h; exact h
  | no => rw [e] at h; exact h

/-! ### range -/
def zints (lo : Int) (n : Nat) : List D := (List.range n).map fun (k : Nat) => D.int (lo + (k : Int))
theorem zints_get {lo : Int} {n i : Nat} {d : D} (h : (zints lo n)[i]? = some d) : i < n ∧ d = .int (lo + (i : Int)) := by
  unfold zints at h
  rw [List.getElem?_map] at h
  by_cases hi : i < n
  · rw [List.getElem?_range hi] at h
    cases h
    exact ⟨hi, rfl⟩
  · rw [List.getElem?_eq_none (by rw [List.length_range]; omega)] at h
    cases h
theorem zints_len (lo : Int) (n : Nat) : (zints lo n).length = n := by unfold zints; rw [List.length_map, List.length_range]
theorem itd_range {K : PySem.W.Frag} {G : Hp} (lo : Int) (n : Nat) : ItD K G (Itr lo n) (zints lo n) := fun G' H _ g i => by
  refine ⟨fun d e => ?_, fun e => ?_⟩
  · obtain ⟨hi, rfl⟩ := zints_get e
    refine ⟨hi, fun x H' y => ?_⟩
    obtain ⟨e1, e2⟩ := y
    subst e1 e2
    exact ⟨G', Step.refl g, .int _⟩
  · rw [zints_len] at e
    exact Nat.le_of_eq e
def rng1 : List D → R (List D)
  | [.int j] => if j.natAbs < 4611686018427387904 then .ok (zints 0 j.toNat) else .no
  | _ => .no
def rng2 : List D → R (List D)
  | [.int i, .int j] => if i.natAbs < 4611686018427387904 ∧ j.natAbs < 4611686018427387904 then .ok (zints i (j - i).toNat) else .no
  | _ => .no
def iArgs (k : List D → R (List D)) (fa : FA) : FI := fun δ => (fa δ).bind k
theorem id_range1 (hm : X.mg "range" = none) (ha : AD X EX [a] fa) (hg : Gl X "range" := by rfl) (hs : starEach [a] X.env = [(false, eval a X.env)] := by rfl) : ID X EX tg (.Call (.Name "range" p) [a] [] pos) (iArgs rng1 fa) :=
  PI.imp (pi_range1 hg hm ha hs) fun σ H Q ⟨G, δ, g0, s0, o⟩ => tDa.seqI g0 s0 o fun ds vs G' H' st r o' => by
    cases r with
    | nil => exact False.elim o'
    | cons h t =>
      cases t with
      | cons _ _ => cases h <;> exact False.elim o'
      | nil =>
        cases h with
        | int j =>
          by_cases hc : j.natAbs < 4611686018427387904
          · rw [show rng1 [.int j] = .ok (zints 0 j.toNat) from if_pos hc] at o'
            exact ⟨j, rfl, by omega, by omega, o' _ G' H' (Step.refl st.gh) (itd_range 0 j.toNat)⟩
          · rw [show rng1 [.int j] = .no from if_neg hc] at o'
            exact o'.elim
        | _ => exact False.elim o'
theorem id_range2 (hm : X.mg "range" = none) (ha : AD X EX [a, b] fa) (hg : Gl X "range" := by rfl) (hs : starEach [a, b] X.env = [(false, eval a X.env), (false, eval b X.env)] := by rfl) (hs2 : starEach [b] X.env = [(false, eval b X.env)] := by rfl) :
    ID X EX tg (.Call (.Name "range" p) [a, b] [] pos) (iArgs rng2 fa) :=
  PI.imp (pi_range2 hg hm ha hs hs2) fun σ H Q ⟨G, δ, g0, s0, o⟩ => tDa.seqI g0 s0 o fun ds vs G' H' st r o' => by
    refine two_ints r (fun i j e1 e2 => ?_) fun n => ?_
    · subst e1 e2
      by_cases hc : i.natAbs < 4611686018427387904 ∧ j.natAbs < 4611686018427387904
      · rw [show rng2 [.int i, .int j] = .ok (zints i (j - i).toNat) from if_pos hc] at o'
        exact ⟨i, j, rfl, ⟨by have := hc.1; omega, by have := hc.1; omega, by have := hc.2; omega, by have := hc.2; omega⟩, o' _ G' H' (Step.refl st.gh) (itd_range i (j - i).toNat)⟩
      · rw [show rng2 [.int i, .int j] = .no from if_neg hc] at o'
        exact o'.elim
    · have e : rng2 ds = .no := by
        unfold rng2
        split
        · rename_i i j; exact absurd rfl (n i j)
        · rfl
      rw [e] at o'
      exact o'.elim

/-! ### lists, tuples, texts -/
def signs (x : Str) : List D := x.cps.toList.map fun c => .str ⟨#[c]⟩
def itemsD : D → R (List D)
  | .lst ds => .ok ds
  | .tup ds => .ok ds
  | .str x => .ok (signs x)
  | _ => .no
def iOf (f : FE) : FI := fun δ => (f δ).bind fun w => itemsD w.d
def iAny (K : PySem.W.Frag) (tl : TE) : TI := fun σ H Q => tl σ H fun x H1 =>
  (∃ a, x = .ref a ∧ (∃ xs, SqL K H1 a xs) ∧ Q (Itl K a) H1) ∨ (∃ a, x = .ref a ∧ (∃ xs, SqT K H1 a xs) ∧ Q (Itt K a) H1) ∨ (∃ z, x = .str z ∧ Q (strIt z) H1)
theorem pi_any {l : Expr} {tl : TE} (hl : PE X l tl) : PI X tg l (iAny X.K tl) := by
  intro pins s σ H Q I h
  refine thn (hl pins s σ H _ I h) fun v s1 ⟨x, H1, I1, r1, q1⟩ => ?_
  rcases q1 with ⟨a, e, ⟨xs, hq⟩, q⟩ | ⟨a, e, ⟨xs, hq⟩, q⟩ | ⟨z, e, q⟩
  · subst e
    cases r1
    obtain ⟨its, rv, p, hz⟩ := I1.list hq
    refine wpAny_pyIter_list p.isList ?_
    refine ⟨s1.heap.objs.size, [s1.heap.objs.size], _, _, H1, rfl, I1.kept (t' := s1.toks) fun b o e => Heap.get?_push_of_some _ e, turn_list a _, ⟨_, Heap.get?_push_size _ rfl, rfl, rfl⟩, fun b hb => ?_, q⟩
    have e : b = s1.heap.objs.size := by simpa using hb
    subst e
    exact I1.fpOk (Nat.le_refl _) (I1.hok.fresh (Nat.le_refl _))
  · subst e
    cases r1
    obtain ⟨its, rv, p, hz⟩ := I1.tuple hq
    refine wpAny_pyIter_tuple (show s1.heap.IsTuple a its.toArray from p) ?_
    refine ⟨s1.heap.objs.size, [s1.heap.objs.size], _, _, H1, rfl, I1.kept (t' := s1.toks) fun b o e => Heap.get?_push_of_some _ e, turn_tuple a _, ⟨_, Heap.get?_push_size _ rfl, rfl, rfl⟩, fun b hb => ?_, q⟩
    have e : b = s1.heap.objs.size := by simpa using hb
    subst e
    exact I1.fpOk (Nat.le_refl _) (I1.hok.fresh (Nat.le_refl _))
  · subst e
    obtain ⟨t, rfl⟩ := r1
    have fin : ∀ (nm : String) (St : Nat → Heap → Prop), (∀ i h, St i h ↔ h.IsStrIter s1.heap.objs.size nm z t i) → (∀ A' : Around, A'.handled = none → Walks X.prog X.w A' s1.heap.objs.size [s1.heap.objs.size] [s1.heap.objs.size] z.cps.size (SignAt z) St) →
        ["enumerate", "zip", "dict_itemiterator", "dict_reverseitemiterator", "odict_iterator", "itertools.zip_longest", "itertools.pairwise"].contains nm = false →
        (∀ (A : Around) (i : Nat) (s : Shared) (Q E : Value → Shared → Prop), s.heap.IsStrIter s1.heap.objs.size nm z t i → Q (.ref s1.heap.objs.size) s → wpAny (model X.prog X.w) A (pyIter (.ref s1.heap.objs.size)) Q E s) →
        PIE X pins σ tg Q (.ref s1.heap.objs.size) { s1 with heap := s1.heap.push { cls := .type nm, data := .fields #[.str z t, .int 0 0] } } := by
      intro nm St hS W hn hslf
      refine ⟨s1.heap.objs.size, [s1.heap.objs.size], St, strIt z, H1, rfl, I1.kept (t' := s1.toks) fun b o e => Heap.get?_push_of_some _ e,
        turn_walks W (fun i h st => ?_) (fun i h h' st k => ?_) (fun A i s Q E st h => hslf A i s Q E ((hS _ _).mp st) h) (fun i H g => g) (fun i H g => ?_) (fun i H u hu => ?_), (hS _ _).mpr ⟨_, Heap.get?_push_size _ rfl, rfl, rfl⟩, fun b hb => ?_, q⟩
      · obtain ⟨o, ho, hc, hd⟩ := (hS _ _).mp st
        exact ⟨o, nm, _, ho, hc, hd, hn⟩
      · obtain ⟨o, ho, r⟩ := (hS _ _).mp st
        exact (hS _ _).mpr ⟨o, k _ (by simp) o ho, r⟩
      · exact g
      · obtain ⟨c, u', e1, e2⟩ := hu
        subst e2
        exact ⟨.str ⟨#[c]⟩, ⟨u', rfl⟩, rfl, c, e1, rfl⟩
      · have e : b = s1.heap.objs.size := by simpa using hb
        subst e
        exact I1.fpOk (Nat.le_refl _) (I1.hok.fresh (Nat.le_refl _))
    cases ha : z.cps.all (· < 128)
    · exact wpAny_pyIter_wide ha (fin "str_iterator" _ (fun _ _ => Iff.rfl) (fun A' hA => Walks.strWide hA _ z t) (by decide) fun A i s Q E st h => wpAny_pyIter_striter_wide st h)
    · exact wpAny_pyIter_ascii ha (fin "str_ascii_iterator" _ (fun _ _ => Iff.rfl) (fun A' hA => Walks.strAscii hA _ z t) (by decide) fun A i s Q E st h => wpAny_pyIter_striter_ascii st h)
theorem itd_list {K : PySem.W.Frag} {G : Hp} {a : Addr} {vs : List V} {ds : List D} (h : SqL K G a vs) (r : HasL K G vs ds) : ItD K G (Itl K a) ds := fun G' H g1 g i => by
  refine ⟨fun d e => ?_, fun e => ?_⟩
  · obtain ⟨v, e1, hv⟩ := r.get e
    refine ⟨⟨vs, v, (g1.trans g).seq h, e1⟩, fun x H' y => ?_⟩
    obtain ⟨e2, y⟩ := y
    subst e2
    have e3 := y vs ((g1.trans g).seq h)
    rw [e1] at e3
    cases e3
    exact ⟨G', Step.refl g, hv.mono g1⟩
  · exact ⟨vs, (g1.trans g).seq h, by rw [r.length]; exact Nat.le_of_eq e⟩
theorem itd_tup {K : PySem.W.Frag} {G : Hp} {a : Addr} {vs : List V} {ds : List D} (h : SqT K G a vs) (r : HasL K G vs ds) : ItD K G (Itt K a) ds := fun G' H g1 g i => by
  refine ⟨fun d e => ?_, fun e => ?_⟩
  · obtain ⟨v, e1, hv⟩ := r.get e
    refine ⟨⟨vs, v, Same.tupS (g1.trans g) h, e1⟩, fun x H' y => ?_⟩
    obtain ⟨e2, y⟩ := y
    subst e2
    have e3 := y vs (Same.tupS (g1.trans g) h)
    rw [e1] at e3
    cases e3
    exact ⟨G', Step.refl g, hv.mono g1⟩
  · exact ⟨vs, Same.tupS (g1.trans g) h, by rw [r.length]; exact Nat.le_of_eq e⟩
theorem itd_str {K : PySem.W.Frag} {G : Hp} (z : Str) : ItD K G (strIt z) (signs z) := fun G' H g1 g i => by
  refine ⟨fun d e => ?_, fun e => ?_⟩
  · unfold signs at e
    rw [List.getElem?_map] at e
    cases q : z.cps.toList[i]? with
    | none => rw [q] at e; cases e
    | some c =>
      rw [q] at e
      cases e
      have hi : i < z.cps.size := by
        have := (List.getElem?_eq_some_iff.mp q).1
        simpa using this
      refine ⟨hi, fun x H' y => ?_⟩
      obtain ⟨e2, c', e3, e4⟩ := y
      subst e2 e4
      have : z.cps.toList[i]? = some c' := by simpa using e3
      rw [q] at this
      cases this
      exact ⟨G', Step.refl g, .str _⟩
  · unfold signs at e
    rw [List.length_map] at e
    show i = z.cps.size
    simp at e
    omega
theorem id_of (he : ED X EX e f) : ID X EX tg e (iOf f) :=
  PI.imp (pi_any he) fun σ H Q ⟨G, δ, g0, s0, o⟩ => by
    refine ⟨G, δ, g0, s0, ?_⟩
    unfold iOf at o
    cases e1 : f δ with
    | ok w =>
      rw [e1] at o
      simp only [R.bind_ok] at o
      refine WP.intro fun v G' H' st r => ?_
      revert r o
      cases w.d with
      | lst ds =>
        intro o r
        cases r with
        | lst h r => exact .inl ⟨_, rfl, ⟨_, st.gh.seq h⟩, o _ G' H' st (itd_list h r)⟩
      | tup ds =>
        intro o r
        cases r with
        | tup h r => exact .inr (.inl ⟨_, rfl, ⟨_, Same.tupS st.gh h⟩, o _ G' H' st (itd_tup h r)⟩)
      | str z =>
        intro o r
        cases r
        exact .inr (.inr ⟨z, rfl, o _ G' H' st (itd_str z)⟩)
      | _ => intro o _; exact False.elim o
    | ex x => rw [e1] at o; exact o
    | no => rw [e1] at o; exact o
end

/-! ### targets -/
abbrev FG := D → SE → R SE
def tG (K : PySem.W.Frag) (EX : EXT) (fg : FG) : TG := fun v σ H Q => ∃ H0 G0 G Δ O d, Ev K H0 G0 G H σ Δ O ∧ Has K G v d ∧ match fg d Δ with
  | .ok Δ' => ∀ σ' G' H' O', Ev K H0 G0 G' H' σ' Δ' O' → Same G G' → Q σ' H'
  | .ex x => EX.p x G0 H0
  | .no => False
theorem PG.imp {X : Cx} {tg : Expr} {t t' : TG} (h : PG X tg t) (i : ∀ v σ H Q, t' v σ H Q → t v σ H Q) : PG X tg t' := fun pins s σ H v u Q I r q => h pins s σ H v u Q I r (i v σ H Q q)
abbrev GD (X : Cx) (EX : EXT) (tg : Expr) (fg : FG) : Prop := PG X tg (tG X.K EX fg)
section
variable {X : Cx} {EX : EXT} {pos : Pos}
def gV (i : Nat) : FG := fun d Δ => .ok (Δ.set i (.sh d))
theorem gd_name {i : Nat} {x : Str} (hN : X.N.Nodup) (hi : X.N[i]? = some x := by rfl) (hx : Loc X.env.scope x := by first | exact Or.inl rfl | exact Or.inr rfl)
    (hf : X.fn x = true ∨ X.env.scope.names.lookup x = some .local := by first | exact .inl rfl | exact .inr rfl | assumption) : GD X EX (.Name x pos) (gV i) :=
  PG.imp (pg_name hN hi hx hf) fun v σ H Q ⟨H0, G0, G, Δ, O, d, E, r, q⟩ => q _ G H O (E.put r) (Same.refl _)
/-- two names -/
def gV2 (i j : Nat) : FG := fun d Δ => match d with
  | .tup [a, b] => .ok ((Δ.set i (.sh a)).set j (.sh b))
  | _ => .no
theorem gd_two {i j k : Nat} {x y : Str} {p1 p2 : Pos} (hc : X.calm = true) (hN : X.N.Nodup) (hi : X.N[i]? = some x := by rfl) (hj : X.N[j]? = some y := by rfl) (hx : Loc X.env.scope x := by first | exact Or.inl rfl | exact Or.inr rfl) (hy : Loc X.env.scope y := by first | exact Or.inl rfl | exact Or.inr rfl)
    (hf : X.fn x = true ∨ X.env.scope.names.lookup x = some .local := by first | exact .inl rfl | exact .inr rfl | assumption) (hf2 : X.fn y = true ∨ X.env.scope.names.lookup y = some .local := by first | exact .inl rfl | exact .inr rfl | assumption)
    (hn : (assignEach [.Name x p1, .Name y p2] X.env).length = 2 := by rfl) (hst : (assignEach [.Name x p1, .Name y p2] X.env).findIdx? (·.1) = none := by rfl)
    (hs : (assignEach [.Name x p1, .Name y p2] X.env).map (·.2) = assign (.Name x p1) X.env :: (assignEach [.Name y p2] X.env).map (·.2) := by rfl) (hs2 : (assignEach [.Name y p2] X.env).map (·.2) = assign (.Name y p2) X.env :: (assignEach [] X.env).map (·.2) := by rfl) :
    GD X EX (.Tuple [.Name x p1, .Name y p2] k pos) (gV2 i j) :=
  PG.imp (pg_tup hc (pgs_cons (pg_name hN hi hx hf) (pgs_cons (pg_name hN hj hy hf2) pgs_nil hs2) hs) hn hst) fun v σ H Q ⟨H0, G0, G, Δ, O, d, E, r, q⟩ => by
    cases r with
    | tup h r =>
      cases r with
      | nil => exact False.elim q
      | cons r1 r =>
        cases r with
        | nil => exact False.elim q
        | cons r2 r =>
          cases r with
          | nil => exact ⟨_, _, rfl, Same.tupS E.st.gh h, rfl, _, _, rfl, _, _, rfl, rfl, q _ G H O ((E.put r1).put r2) (Same.refl _)⟩
          | cons _ _ => exact False.elim q
    | _ => exact False.elim q
/-- three names -/
def gV3 (i j l : Nat) : FG := fun d Δ => match d with
  | .tup [a, b, c] => .ok (((Δ.set i (.sh a)).set j (.sh b)).set l (.sh c))
  | .lst [a, b, c] => .ok (((Δ.set i (.sh a)).set j (.sh b)).set l (.sh c))
  | _ => .no

/-! ### for -/
def sLoop (fg : FG) (g : FS) : List D → FS
  | [] => fun Δ => .nx Δ
  | d :: ds => fun Δ => match fg d Δ with
    | .ok Δ1 => (match g Δ1 with
      | .nx Δ2 => sLoop fg g ds Δ2
      | .ct Δ2 => sLoop fg g ds Δ2
      | .bk Δ2 => .nx Δ2
      | r => r)
    | .ex x => .ex x
    | .no => .no
def sFor (js : List Nat) (fi : FI) (fg : FG) (g : FS) : FS := fun Δ => match fi (vsh Δ) with
  | .ok ds => sLoop fg g ds Δ
  | .ex x => .ex x
  | .no => match fi (vsh (gsome js Δ)) with
    | .ok ds => sLoop fg g ds (gsome js Δ)
    | .ex x => .ex x
    | .no => .no
theorem drop_one {α : Type} {l : List α} {i : Nat} (h : i < l.length) : ∃ x, l[i]? = some x ∧ l.drop i = x :: l.drop (i + 1) := ⟨l[i], by simp [h], List.drop_eq_getElem_cons h⟩
theorem loop_core {K : PySem.W.Frag} {fg : FG} {g : FS} {H0 G0 G1 H1 : Hp} {J : It} {ds : List D} {Δ : SE} {O : List Addr} {σ : Sg} {D : Ends} (E : Ev K H0 G0 G1 H1 σ Δ O) (it : ItD K G1 J ds) (q : Fin K EX H0 G0 G1 D (sLoop fg g ds Δ)) :
    ∃ W : Nat → Nat → Sg → Hp → Prop, (∃ m, W 0 m σ H1) ∧ ∀ i m σ H, W i m σ H →
      (J.stop i H ∧ D.nx σ H) ∨ (J.go i H ∧ ∃ N : Sg → Hp → Prop, (∀ σ' H', N σ' H' → ∃ m', m' < m ∧ W (i + 1) m' σ' H') ∧ ∀ x H', J.yld i H x H' → tG K EX fg x σ H' fun σ2 H2 => tS K EX g { D with nx := N, ct := N, bk := D.nx } σ2 H2) := by
  refine ⟨fun i m σ H => m = ds.length - i ∧ i ≤ ds.length ∧ ∃ G Δ O, Ev K H0 G0 G H σ Δ O ∧ Same G1 G ∧ Fin K EX H0 G0 G1 D (sLoop fg g (ds.drop i) Δ), ⟨ds.length, by simp, Nat.zero_le _, G1, Δ, O, E, Same.refl _, q⟩, ?_⟩
  rintro i m σ H ⟨rfl, hi, G, Δ, O, E, sg, q⟩
  obtain ⟨i1, i2⟩ := it G H sg E.st.gh i
  by_cases hlt : i < ds.length
  · obtain ⟨d, e1, e2⟩ := drop_one hlt
    obtain ⟨go, yl⟩ := i1 d e1
    refine .inr ⟨go, fun σ' H' => ∃ G Δ O, Ev K H0 G0 G H' σ' Δ O ∧ Same G1 G ∧ Fin K EX H0 G0 G1 D (sLoop fg g (ds.drop (i + 1)) Δ), fun σ' H' w => ⟨ds.length - (i + 1), by omega, rfl, hlt, w⟩, fun x H' y => ?_⟩
    obtain ⟨G', st, hx⟩ := yl x H' y
    rw [e2] at q
    refine ⟨H0, G0, G', Δ, O, d, E.grow st, hx, ?_⟩
    have q' : Fin K EX H0 G0 G1 D (match fg d Δ with
      | .ok Δ1 => (match g Δ1 with
        | .nx Δ2 => sLoop fg g (ds.drop (i + 1)) Δ2
        | .ct Δ2 => sLoop fg g (ds.drop (i + 1)) Δ2
        | .bk Δ2 => .nx Δ2
        | r => r)
      | .ex x => .ex x
      | .no => .no) := q
    cases e3 : fg d Δ with
    | ok Δ1 =>
      rw [e3] at q'
      intro σ2 G2 H2 O2 E2 s2
      have s12 : Same G1 G2 := sg.trans (st.gg.trans s2)
      refine ⟨H0, G0, G2, Δ1, O2, E2, ?_⟩
      cases e4 : g Δ1 with
      | nx Δ2 => simp only [e4] at q'; exact fun σ3 G3 H3 O3 E3 s3 => ⟨G3, Δ2, O3, E3, s12.trans s3, q'⟩
      | ct Δ2 => simp only [e4] at q'; exact fun σ3 G3 H3 O3 E3 s3 => ⟨G3, Δ2, O3, E3, s12.trans s3, q'⟩
      | bk Δ2 => simp only [e4] at q'; exact fun σ3 G3 H3 O3 E3 s3 => q' σ3 G3 H3 O3 E3 (s12.trans s3)
      | rt w => simp only [e4] at q'; exact q'
      | ex x => simp only [e4] at q'; exact q'
      | no => simp only [e4] at q'; exact q'
    | ex x => rw [e3] at q'; exact q'
    | no => rw [e3] at q'; exact q'
  · have e : ds.length = i := by omega
    refine .inl ⟨i2 e, ?_⟩
    rw [List.drop_eq_nil_of_le (by omega)] at q
    exact q σ G H O E sg
theorem sd_for {tg iter : Expr} {body : List Stmt} {fi : FI} {fg : FG} {g : FS} (js : List Nat) (hp : PassesOwn (model X.prog X.w) X.A X.env X.xe) (hc : X.calm = true) (hi : ID X EX tg iter fi) (hg : GD X EX tg fg) (hb : BD X EX body g)
    (hs : ∀ x, foldedSetIterable iter X.env x = pure x := by intro _; rfl) : SD X EX (.For tg iter body [] pos) (sFor js fi fg g) :=
  PS.imp (ps_for hp hc hi hg hb hs) fun D σ H ⟨H0, G0, G, Δ, O, E, q⟩ => by
    unfold sFor at q
    cases e1 : fi (vsh Δ) with
    | ok ds =>
      rw [e1] at q
      refine ⟨G, vsh Δ, E.st.gh, E.gsh, ?_⟩
      rw [e1]
      exact fun J G' H' st it => loop_core (E.grow st) it (Fin.mono st.gg q)
    | ex x =>
      rw [e1] at q
      exact ⟨G, vsh Δ, E.st.gh, E.gsh, by rw [e1]; exact EX.mono _ _ _ _ _ E.st q⟩
    | no =>
      rw [e1] at q
      obtain ⟨G1, O1, sg, E1⟩ := E.gsome js
      refine ⟨G1, vsh (gsome js Δ), E1.st.gh, E1.gsh, ?_⟩
      cases e2 : fi (vsh (gsome js Δ)) with
      | ok ds =>
        simp only [e2] at q
        exact fun J G' H' st it => loop_core (E1.grow st) it (Fin.mono (sg.trans st.gg) q)
      | ex x => simp only [e2] at q; exact EX.mono _ _ _ _ _ E1.st q
      | no => simp only [e2] at q; exact q

/-! ### x.append(e), x one's own -/
def sApp (i : Nat) (f : FE) : FS := fun Δ => match Δ[i]? with
  | some (.ow (.lst ds)) => if ds.length < 16777216 then (match f (vsh Δ) with
      | .ok w => .nx (Δ.set i (.ow (.lst (ds ++ [w.d]))))
      | .ex x => .ex x
      | .no => match f (vall Δ) with
        | .ok w => if flatD w.d = true then .nx (Δ.set i (.ow (.lst (ds ++ [w.d])))) else .no
        | .ex x => .ex x
        | .no => .no) else .no
  | _ => .no
theorem sd_app {i : Nat} {x : Str} {e : Expr} {f : FE} {p1 apos cpos : Pos} (he : ED X EX e f) (hN : X.N[i]? = some x := by rfl) (hv : Vis X.env.scope x := by first | exact Or.inl rfl | exact Or.inr (Or.inl rfl) | exact Or.inr (Or.inr rfl)) (hd : (x == ("__debug__" : Str)) = false := by decide)
    (hcd : (x == ("__classdict__" : Str)) = false := by decide) (hsw : swapsWith (.Call (.Attribute (.Name x p1) "append" apos) [e] [] cpos) none pos.line X.env = pure false := by rfl)
    (hbase : attributeBase (.Name x p1) "append" X.env (eval (.Name x p1) X.env) = eval (.Name x p1) X.env := by rfl)
    (hfew : ((backTo cpos (starEach [e] X.env)).all (fun x => !x.1) && (backToKw cpos (keywordEach [] X.env)).all (fun x => x.1.isSome)
      && decide ([e].length + ([] : List Keyword).length + (if ([] : List Keyword).isEmpty then 0 else 1) < 30)) = true := by rfl)
    (hline : (apos.endLine == cpos.line) = true := by rfl) (hs : starEach [e] X.env = (false, eval e X.env) :: starEach [] X.env := by rfl) (hplain : (backTo cpos (starEach [] X.env)).any (·.1) = false := by rfl) :
    SD X EX (.Expr (.Call (.Attribute (.Name x p1) "append" apos) [e] [] cpos) pos) (sApp i f) :=
  PS.imp (ps_expr (pe_bm PySem.F.plainAttrs_list PySem.F.slot_list_append PySem.F.type_list_append mt_append (pe_var hN hv hd hcd) (pa_cons he pa_nil hs) hbase hfew hline hs hplain) hsw) fun D σ H ⟨H0, G0, G, Δ, O, E, q⟩ => by
    unfold sApp at q
    split at q
    · rename_i ds e1
      split at q
      · rename_i hz
        obtain ⟨a, ho, s1, m, hH, t⟩ := E.ow i _ e1
        cases t with
        | lst rl =>
          rename_i vs
          refine ⟨.ref a, s1, .inl ⟨rfl, _, SqL.of hH⟩, ?_⟩
          have fin : ∀ {G' H' : Hp} {v : V} {d : L3.D}, Ev X.K H0 G0 G' H' σ Δ O → Same G G' → H' a = some (.lst vs) → HasL X.K G' vs ds → Has X.K G' v d → Fin X.K EX H0 G0 G D (.nx (Δ.set i (.ow (.lst (ds ++ [d]))))) →
              rAppend (.ref a) [v] H' fun _ H1 => D.nx σ H1 := fun {G' H' v d} E' sg hH' r' hv' q' =>
            ⟨a, vs, v, rfl, rfl, hH', by rw [r'.length, sizeLine_eq]; exact hz, q' σ G' _ O (E'.write e1 s1 m (.lst (r'.append (.cons hv' .nil)))) sg⟩
          cases e2 : f (vsh Δ) with
          | ok w =>
            simp only [e2] at q
            refine ⟨G, vsh Δ, E.st.gh, E.gsh, ?_⟩
            rw [e2]
            exact WP.intro fun v G' H' st r => fin (E.grow st) st.gg (st.hh _ _ hH) (rl.mono st.gg) r q
          | ex x =>
            simp only [e2] at q
            exact ⟨G, vsh Δ, E.st.gh, E.gsh, by rw [e2]; exact EX.mono _ _ _ _ _ E.st q⟩
          | no =>
            simp only [e2] at q
            refine ⟨allG G H O, vall Δ, E.aH, E.gall, ?_⟩
            cases e3 : f (vall Δ) with
            | ok w =>
              simp only [e3] at q
              split at q
              · rename_i fl
                exact WP.intro fun v G' H' st r => fin (E.keep st.hh) (Same.refl _) (st.hh _ _ hH) rl (r.ofFl fl) q
              · exact q.elim
            | ex x => simp only [e3] at q; exact EX.mono _ _ _ _ _ E.aStep q
            | no => simp only [e3] at q; exact q
      · exact q.elim
    · exact q.elim
end
end L3

namespace L3
open PySem PySem.Spec PyProof.Rows L2

/-! ### a list comprehension of one clause -/
/-- the context of its block -/
def compCx (X : Cx) (scope : Scope) (cl : List (Str × Addr)) (N' : List Str) (C : Addr) (s0 : Shared) (H0 : Hp) (fp : List Addr) (pn : List (Addr × Obj)) : Cx where
  prog := X.prog
  w := X.w
  K := X.K
  mg := X.mg
  base := X.base
  A := X.A
  N := N'
  s₀ := s0
  H₀ := H0
  env := compEnvC scope cl C X.env
  outer := X.stack
  stack := X.stack
  ex := fp
  fn := fun _ => false
  calm := X.calm
  pn := pn
  xe := fun _ _ => False
abbrev FGc := D → DE → R DE
def tGc (K : PySem.W.Frag) (EX : EXT) (fg : FGc) : TG := fun v σ H Q => ∃ G δ d, Same G H ∧ HasS K G σ δ ∧ Has K G v d ∧ match fg d δ with
  | .ok δ' => ∀ σ', HasS K G σ' δ' → HasS K G σ' δ → Q σ' H
  | .ex x => EX.p x G H
  | .no => False
abbrev GC (X : Cx) (EX : EXT) (tg : Expr) (fg : FGc) : Prop := PG X tg (tGc X.K EX fg)
/-- the tests of a clause -/
def CTs (X : Cx) (EX : EXT) (ifs : List Expr) (p : FT) : Prop :=
  ∀ (pins : List (Addr × Obj)) (s : Shared) (σ : Sg) (H : Hp) (Q : Bool → Hp → Prop), Inv X pins σ H s → tDt X.K EX p σ H Q →
    wpAny (model X.prog X.w) X.A (forIn ifs true fun c r => if r = true then do let ok ← isTrue c X.env (eval c X.env); pure (ForInStep.yield ok) else pure (ForInStep.yield r)) (TP X pins σ Q) X.xe s
section
variable {X : Cx} {EX : EXT} {pos : Pos}
def gC (i : Nat) : FGc := fun d δ => match δ[i]? with
  | some none => .ok (δ.set i (some d))
  | _ => .no
theorem HasS.put {K : PySem.W.Frag} {G : Hp} {σ : Sg} {δ : DE} {v : V} {d : D} (h : HasS K G σ δ) (r : Has K G v d) (i : Nat) : HasS K G (σ.set i (some v)) (δ.set i (some d)) := by
  refine ⟨by rw [List.length_set, List.length_set]; exact h.len, fun j d' e => ?_⟩
  rcases getSet e with ⟨rfl, q⟩ | ⟨n, q⟩
  · cases q
    have hlt : i < δ.length := by
      by_cases hh : i < δ.length
      · exact hh
      · rw [List.getElem?_eq_none (by rw [List.length_set]; omega)] at e; cases e
    exact ⟨v, by rw [List.getElem?_set_self (by rw [h.len]; exact hlt)], r⟩
  · obtain ⟨v', e1, r'⟩ := h.get j d' q
    exact ⟨v', by rw [List.getElem?_set_ne n]; exact e1, r'⟩
theorem gc_name {i : Nat} {x : Str} (hN : X.N.Nodup) (hi : X.N[i]? = some x := by rfl) (hx : Loc X.env.scope x := by first | exact Or.inl rfl | exact Or.inr rfl)
    (hf : X.fn x = true ∨ X.env.scope.names.lookup x = some .local := by first | exact .inl rfl | exact .inr rfl | assumption) : GC X EX (.Name x pos) (gC i) :=
  PG.imp (pg_name hN hi hx hf) fun v σ H Q ⟨G, δ, d, g, s, r, q⟩ => by
    unfold gC at q
    cases e : δ[i]? with
    | none => rw [e] at q; exact q.elim
    | some o =>
      rw [e] at q
      cases o with
      | some _ => exact q.elim
      | none =>
        refine q _ (s.put r i) ⟨by rw [List.length_set]; exact s.len, fun j d' e' => ?_⟩
        obtain ⟨v', e1, r'⟩ := s.get j d' e'
        refine ⟨v', ?_, r'⟩
        rw [List.getElem?_set_ne]
        · exact e1
        · rintro rfl
          rw [e] at e'
          cases e'
theorem ct_nil : CTs X EX [] (fun _ => .ok true) := fun pins s σ H Q I ⟨G, δ, g, h, q⟩ => wpAny_tests_nil ⟨H, I, q G H (Step.refl g)⟩
theorem ct_one {c : Expr} {p : FT} (h : TD X EX c p) : CTs X EX [c] p := fun pins s σ H Q I q => wpAny_tests_one (h pins s σ H Q I q)

def compD (fg : FGc) (p : FT) (f : FE) (δ : DE) : List D → R (List D)
  | [] => .ok []
  | d :: ds => (fg d δ).bind fun δ1 => (p δ1).bind fun b => if b = true then (f δ1).bind fun w => (compD fg p f δ ds).bind fun rs => .ok (w.d :: rs) else compD fg p f δ ds
def eComp (m : Nat) (fi : FI) (fg : FGc) (p : FT) (f : FE) : FE := fun δ => (fi δ).bind fun ds => if ds.length ≤ 16777216 then (compD fg p f (δ ++ List.replicate m none) ds).bind fun rs => .ok (.ow (.lst rs)) else .no

@[reducible] def CompGo (prog : Program) (w : World) (A : Around) (env : Env) (tg elt : Expr) (ifs : List Expr) (it acc : Value) (bad : Value → Shared → Prop) (fin more : Shared → Prop) : Option Value → Shared → Prop
  | none => fin
  | some v => wpAny (model prog w) A (letOwnedTupleGo tg it v) (fun _ => wpAny (model prog w) A (assign tg env v) (fun _ =>
      wpAny (model prog w) A (forIn ifs true fun c r => if r = true then do let ok ← isTrue c env (eval c env); pure (ForInStep.yield ok) else pure (ForInStep.yield r)) (fun ok =>
        if ok = true then wpAny (model prog w) A (eval elt env) (fun x => wpAny (model prog w) A (call (.builtin "list.append") [acc, x]) (fun _ => more) bad) bad else more) bad) bad) bad
theorem comp_turns {prog : Program} {w : World} {A : Around} {R : Result → Shared → Prop} {s : Shared} {elt target iter : Expr} {ifs : List Expr} {scope : Scope} {pos : Pos} {it acc : Value} {env : Env} (I : Nat → Shared → Prop)
    (turn : ∀ n s, I n s → wpAny (model prog w) A (pyNext it) (CompGo prog w A env target elt ifs it acc (notedBy (model prog w) A env fun e => R (.error e)) (R (.ok .next)) fun s' => ∃ m, m < n ∧ I m s') (notedBy (model prog w) A env fun e => R (.error e)) s)
    (n : Nat) (h : I n s) : codeAny (model prog w) A (.compLoop (.ListComp elt [⟨target, iter, ifs, 0⟩] scope pos) 0 it acc env) R s := by
  refine codeAny_loop rfl I (fun k t hk => wpAny_noted (env := env) (m := compTurn (.ListComp elt [⟨target, iter, ifs, 0⟩] scope pos) 0 it acc env) (compTurn_list .. ▸ ?_)) n h
  refine wpAny_bind (wpAny_standAt (wpAny_bind (thn (turn k t hk) ?_)))
  rintro (_ | v) t1 g1
  · exact wpAny_pure g1
  refine wpAny_bind (thn g1 fun _ t2 g2 => wpAny_bind (thn g2 fun _ t3 g3 => wpAny_bind (thn g3 ?_)))
  rintro (_ | _) t4 g4
  · exact wpAny_pure ⟨rfl, g4⟩
  · exact wpAny_bind (wpAny_bind (thn g4 fun _ t5 g5 => wpAny_bind (thn g5 fun _ t6 g6 => wpAny_pure (wpAny_pure ⟨rfl, g6⟩))))
/-- what the names of the block are -/
structure CompN (X : Cx) (scope : Scope) (cl : List (Str × Addr)) (N' : List Str) : Prop where
  clos : closureFor scope X.env = pure cl
  cell : ∀ y ∈ scope.names, y.2 ≠ .cell
  kind : scope.kind = .function
  names : ∀ y ∈ scope.names, y.2 = .local → scope.names.lookup y.1 = some .local
  sub : ∀ x c, cl.lookup x = some c → X.env.cells.lookup x = some c
  has : ∀ x, ((relabel scope X.env).names.lookup x = some .cell ∨ (relabel scope X.env).names.lookup x = some .free) → ∃ c, cl.lookup x = some c
  old : ∀ (i : Nat) (x : Str), N'[i]? = some x → i < X.N.length → Vis (relabel scope X.env) x → X.N[i]? = some x ∧ (X.env.scope.names.lookup x = some .cell ∨ X.env.scope.names.lookup x = some .free) ∧ (∃ c, cl.lookup x = some c) ∧ ((relabel scope X.env).names.lookup x = some .cell ∨ (relabel scope X.env).names.lookup x = some .free)
/-- the cells that the block takes along -/
def clOf (cells : List (Str × Addr)) : List (Str × NameKind) → List (Str × Addr) → List (Str × Addr)
  | [], acc => acc
  | (x, k) :: r, acc => clOf cells r (if k = .free then (x, (cells.lookup x).getD 0) :: acc else acc)
theorem closureFor_eq {scope : Scope} {env : Env} (h : ∀ p ∈ scope.names, p.2 = .free → ∃ c, env.cells.lookup p.1 = some c) : closureFor scope env = pure (clOf env.cells scope.names []) := by
  have all : ∀ (names : List (Str × NameKind)) (acc : List (Str × Addr)), (∀ p ∈ names, p.2 = .free → ∃ c, env.cells.lookup p.1 = some c) →
      (forIn names acc fun (x : Str × NameKind) (r : List (Str × Addr)) => if (x.2 == .free) = true then do let a ← cellOf env x.1; pure (ForInStep.yield ((x.1, a) :: r)) else pure (ForInStep.yield r) : Sem (List (Str × Addr))) = pure (clOf env.cells names acc) := by
    intro names
    induction names with
    | nil => intro acc _; rfl
    | cons p r ih =>
      intro acc hp
      obtain ⟨x, k⟩ := p
      rw [List.forIn_cons]
      by_cases hk : k = .free
      · subst hk
        obtain ⟨c, e⟩ := hp (x, .free) List.mem_cons_self rfl
        have e1 : cellOf env x = pure c := by unfold cellOf; rw [show env.cells.lookup x = some c from e]
        simp only [beq_self_eq_true, if_true, e1, pure_bind]
        rw [ih _ fun q hq => hp q (List.mem_cons_of_mem _ hq)]
        show _ = pure (clOf env.cells r (if NameKind.free = .free then (x, (env.cells.lookup x).getD 0) :: acc else acc))
        rw [if_pos rfl, show env.cells.lookup x = some c from e]
        rfl
      · have hb : (k == NameKind.free) = false := by simpa using hk
        simp only [hb, Bool.false_eq_true, if_false, pure_bind]
        rw [ih _ fun q hq => hp q (List.mem_cons_of_mem _ hq)]
        show _ = pure (clOf env.cells r (if k = .free then (x, (env.cells.lookup x).getD 0) :: acc else acc))
        rw [if_neg hk]
  unfold closureFor
  have := all scope.names [] h
  simpa using this
theorem clOf_mem {cells : List (Str × Addr)} {q : Str × Addr} : ∀ {names : List (Str × NameKind)} {acc : List (Str × Addr)}, q ∈ clOf cells names acc → q ∈ acc ∨ ((q.1, NameKind.free) ∈ names ∧ q.2 = (cells.lookup q.1).getD 0)
  | [], acc, h => .inl h
  | (x, k) :: r, acc, h => by
    rcases clOf_mem (names := r) h with h | ⟨h1, h2⟩
    · split at h
      · rename_i hk
        rcases List.mem_cons.mp h with rfl | h
        · exact .inr ⟨by rw [hk]; exact List.mem_cons_self, rfl⟩
        · exact .inl h
      · exact .inl h
    · exact .inr ⟨List.mem_cons_of_mem _ h1, h2⟩
theorem clOf_acc {cells : List (Str × Addr)} {x : Str} : ∀ {names : List (Str × NameKind)} {acc : List (Str × Addr)}, (acc.lookup x).isSome = true → ((clOf cells names acc).lookup x).isSome = true
  | [], acc, h => h
  | (y, k) :: r, acc, h => by
    refine clOf_acc (names := r) ?_
    split
    · rw [List.lookup_cons]
      split
      · rfl
      · exact h
    · exact h
theorem clOf_has {cells : List (Str × Addr)} {x : Str} : ∀ {names : List (Str × NameKind)} {acc : List (Str × Addr)}, (x, NameKind.free) ∈ names → ((clOf cells names acc).lookup x).isSome = true
  | (y, k) :: r, acc, h => by
    rcases List.mem_cons.mp h with h | h
    · cases h
      refine clOf_acc (names := r) ?_
      rw [if_pos rfl, List.lookup_cons]
      simp
    · exact clOf_has (names := r) h
theorem lookup_relabel {env : Env} : ∀ (names : List (Str × NameKind)) (x : Str),
    (names.map fun (n, k) => if (k == NameKind.free && env.scope.kind == .function && env.kindOf n == some .cell) then (n, NameKind.cell) else (n, k)).lookup x = (names.lookup x).map fun k => if (k == NameKind.free && env.scope.kind == .function && env.kindOf x == some .cell) = true then NameKind.cell else k
  | [], x => rfl
  | (n, k) :: r, x => by
    have ih := lookup_relabel (env := env) r x
    show List.lookup x ((if (k == NameKind.free && env.scope.kind == .function && env.kindOf n == some .cell) = true then (n, NameKind.cell) else (n, k)) :: _) = _
    cases hx : x == n with
    | true =>
      have e : x = n := eq_of_beq hx
      subst e
      by_cases hc : (k == NameKind.free && env.scope.kind == .function && env.kindOf x == some .cell) = true
      · rw [if_pos hc]; simp only [List.lookup_cons, beq_self_eq_true, Option.map_some]; rw [if_pos hc]
      · rw [if_neg hc]; simp only [List.lookup_cons, beq_self_eq_true, Option.map_some]; rw [if_neg hc]
    | false =>
      by_cases hc : (k == NameKind.free && env.scope.kind == .function && env.kindOf n == some .cell) = true
      · rw [if_pos hc]; simp only [List.lookup_cons, hx]; exact ih
      · rw [if_neg hc]; simp only [List.lookup_cons, hx]; exact ih
/-- the names' kinds, looked at once -/
def compB (inner outer : List (Str × NameKind)) (N N' : List Str) : Bool :=
  (inner.all fun p => p.2 != .cell && (p.2 != .local || inner.lookup p.1 == some .local) && (p.2 != .free || (outer.lookup p.1 == some .cell || outer.lookup p.1 == some .free))) &&
  (List.range N.length).all fun i => match N'[i]? with
    | some x => (match inner.lookup x with
      | some .free => N[i]? == some x && (outer.lookup x == some .cell || outer.lookup x == some .free)
      | some .local => false
      | some .cell => false
      | _ => true)
    | none => true
theorem compN_mk {scope : Scope} {N' : List Str} (ok : X.Ok) (hk : scope.kind = .function) (hb : compB scope.names X.env.scope.names X.N N' = true) : CompN X scope (clOf X.env.cells scope.names []) N' := by
  unfold compB at hb
  rw [Bool.and_eq_true] at hb
  obtain ⟨h1, h2⟩ := hb
  have h1 := List.all_eq_true.mp h1
  have h2 := List.all_eq_true.mp h2
  have fr : ∀ p ∈ scope.names, p.2 = .free → ∃ c, X.env.cells.lookup p.1 = some c := fun p hp hf => by
    have z := h1 p hp
    simp only [hf, Bool.and_eq_true, Bool.or_eq_true, bne_iff_ne, beq_iff_eq] at z
    exact ok.has p.1 (by
      rcases z.2 with z | z
      · exact absurd rfl z
      · exact z)
  have inn : ∀ x k, scope.names.lookup x = some k → (x, k) ∈ scope.names := fun x k e => PySem.mem_of_lookup e
  have nocell : ∀ p ∈ scope.names, p.2 ≠ .cell := fun p hp hc => by
    have z := h1 p hp
    rw [hc] at z
    simp at z
  have hasF : ∀ x, scope.names.lookup x = some .free → ∃ c, (clOf X.env.cells scope.names []).lookup x = some c := fun x e => Option.isSome_iff_exists.mp (clOf_has (inn x _ e))
  have relF : ∀ x, ((relabel scope X.env).names.lookup x = some .cell ∨ (relabel scope X.env).names.lookup x = some .free) → scope.names.lookup x = some .free := fun x h => by
    unfold relabel at h
    rw [lookup_relabel] at h
    cases e : scope.names.lookup x with
    | none => rw [e] at h; simp at h
    | some k =>
      rw [e] at h
      have nc := nocell (x, k) (inn x k e)
      cases k with
      | free => rfl
      | cell => exact absurd rfl nc
      | «local» => simp at h
      | globalExplicit => simp at h
      | globalImplicit => simp at h
  refine ⟨closureFor_eq fr, nocell, hk, fun y hy hl => ?_, fun x c e => ?_, fun x h => hasF x (relF x h), fun i x e hi hv => ?_⟩
  · have z := h1 y hy
    simp only [hl, Bool.and_eq_true, Bool.or_eq_true, bne_iff_ne, beq_iff_eq] at z
    rcases z.1.2 with z | z
    · exact absurd rfl z
    · exact z
  · rcases clOf_mem (PySem.mem_of_lookup e) with z | ⟨z1, z2⟩
    · exact absurd z (by simp)
    · obtain ⟨c', e'⟩ := fr (x, .free) z1 rfl
      have z2 : c = (X.env.cells.lookup x).getD 0 := z2
      have e' : X.env.cells.lookup x = some c' := e'
      rw [e'] at z2 ⊢
      cases z2
      rfl
  · have z := h2 i (List.mem_range.mpr hi)
    rw [e] at z
    dsimp only at z
    have look : scope.names.lookup x = some .free ∧ (((relabel scope X.env).names.lookup x = some .cell ∨ (relabel scope X.env).names.lookup x = some .free)) := by
      unfold Vis relabel at hv
      unfold relabel
      rw [lookup_relabel] at hv ⊢
      cases q : scope.names.lookup x with
      | none => rw [q] at hv; simp at hv
      | some k =>
        rw [q] at hv z
        cases k with
        | free =>
          refine ⟨rfl, ?_⟩
          by_cases hc : (X.env.scope.kind == .function && X.env.kindOf x == some .cell) = true
          · left; simp [Bool.and_assoc, hc]
          · right; simp [Bool.and_assoc, hc]
        | cell => simp at z
        | «local» => simp at z
        | globalExplicit => simp at hv
        | globalImplicit => simp at hv
    rw [look.1] at z
    simp only [Bool.and_eq_true, Bool.or_eq_true, beq_iff_eq] at z
    exact ⟨z.1, z.2, hasF x look.1, look.2⟩
theorem comp_block {elt iter tg : Expr} {ifs : List Expr} {scope : Scope} {N' : List Str} {fi : FI} {fg : FGc} {p : FT} {f : FE} {m : Nat} (hx0 : ∀ e s, ¬ X.xe e s) (hc : X.calm = true) (hi : ID X EX tg iter fi) (hk : scope.kind = .function) (hb : compB scope.names X.env.scope.names X.N N' = true)
    (hm : N'.length = X.N.length + m)
    (hin : ∀ C s0 H0 fp pn, GC (compCx X scope (clOf X.env.cells scope.names []) N' C s0 H0 fp pn) EX tg fg ∧ CTs (compCx X scope (clOf X.env.cells scope.names []) N' C s0 H0 fp pn) EX ifs p ∧ ED (compCx X scope (clOf X.env.cells scope.names []) N' C s0 H0 fp pn) EX elt f)
    {pins : List (Addr × Obj)} {s : Shared} {σ : Sg} {G H : Hp} {δ : DE} (I : Inv X pins σ H s) (g0 : Same G H) (h0 : HasS X.K G σ δ) {RR : Value → Addr → Result → Shared → Prop}
    (o : match eComp m fi fg p f δ with | .ok _ => True | .ex x => EX.p x G H | .no => False)
    (hRR : ∀ (Da C : Addr) (s1 : Shared) (G' H' : Hp) (vs : List V) (rs : List D), eComp m fi fg p f δ = .ok (.ow (.lst rs)) → Inv X pins σ H' s1 → (∃ m, s1.heap.Ns C m) → FpOk X pins H' C → Step G H G' H' → H Da = none → H' Da = some (.lst vs) → G' Da = none → HasL X.K G' vs rs → RR (.ref Da) C (.ok .next) s1) :
    wpAny (model X.prog X.w) X.A (eval iter X.env) (fun x s₁ => wpAny (model X.prog X.w) X.A (pyIter x) (fun it s₂ => wpAny (model X.prog X.w) X.A (newList []) (fun acc s₃ =>
      wpAny (model X.prog X.w) X.A (newFunctionEnv scope X.env.globals (clOf X.env.cells scope.names []) [] X.env.qual none .none (some X.env)) (fun cenv s₄ =>
        codeAny (model X.prog X.w) X.A (.compStart (.ListComp elt [⟨tg, iter, ifs, 0⟩] scope pos) 0 it acc { cenv with scope := relabel scope X.env }) (RR acc cenv.locals) s₄) X.xe s₃) X.xe s₂) X.xe s₁) X.xe s := by
  have n := compN_mk I.ok hk hb
  generalize hcle : clOf X.env.cells scope.names [] = cl at n hin ⊢
  have hcomp : ∀ ds, fi δ = .ok ds → ds.length ≤ 16777216 ∧ (match compD fg p f (δ ++ List.replicate m none) ds with | .ok rs => eComp m fi fg p f δ = .ok (.ow (.lst rs)) | .ex x => EX.p x G H | .no => False) := fun ds e => by
    unfold eComp at o ⊢
    simp only [e, R.bind_ok] at o ⊢
    by_cases hz : ds.length ≤ 16777216
    · refine ⟨hz, ?_⟩
      rw [if_pos hz] at o ⊢
      cases e2 : compD fg p f (δ ++ List.replicate m none) ds with
      | ok rs => rfl
      | ex x => rw [e2] at o; exact o
      | no => rw [e2] at o; exact o
    · rw [if_neg hz] at o; exact o.elim
  -- the iterator
  refine wpAny_mono (hi pins s σ H (fun J H2 => ∃ ds G2, fi δ = .ok ds ∧ Step G H G2 H2 ∧ ItD X.K G2 J ds) I ⟨G, δ, g0, h0, ?_⟩) (fun xv s₁ h₁ => wpAny_mono h₁ (fun itv s₂ h₂ => ?_) fun _ _ e => (hx0 _ _ e).elim) fun _ _ e => (hx0 _ _ e).elim
  · unfold eComp at o
    cases e : fi δ with
    | ok ds => exact fun J G2 H2 st it => ⟨ds, G2, rfl, st, it⟩
    | ex x => rw [e] at o; exact o
    | no => rw [e] at o; exact o
  obtain ⟨it, fp, tn, J, H2, rfl, I2, T, st2, f2, ds, G2, e2, stp, itd⟩ := h₂
  obtain ⟨hz, o⟩ := hcomp ds e2
  -- the list and the block's names
  have hfD : H2 s₂.heap.objs.size = none := I2.hok.fresh (Nat.le_refl _)
  refine wpAny_newObj_type (wpAny_newFunctionEnv n.cell (by intro y hy; simp at hy) (fun h₁ hns₁ hsb₁ => ?_) n.kind)
  dsimp only at hns₁ hsb₁ ⊢
  generalize hDa : s₂.heap.objs.size = Da at hfD
  have hDn : @Eq Nat s₂.heap.objs.size Da := hDa
  have I3 : Inv X pins σ (upd H2 Da (.lst [])) { s₂ with heap := s₂.heap.push { cls := .type "list", dict := none, data := .seq ([] : List Value).toArray } } := by
    rw [← hDa]
    exact I2.lnew (t' := s₂.toks) .nil (Nat.zero_le _)
  generalize hH3 : s₂.heap.push { cls := .type "list", dict := none, data := .seq ([] : List Value).toArray } = hp3 at hns₁ hsb₁ I3 ⊢
  have hC : hp3.objs.size = Da + 1 := by rw [← hH3, Heap.size_push, hDa]
  generalize hCe : hp3.objs.size = C at hns₁ hsb₁ hC
  have hCn : @Eq Nat hp3.objs.size C := hCe
  have hC2 : @Eq Nat C (Da + 1) := hC
  have old3 : ∀ b o, s₂.heap.get? b = some o → hp3.get? b = some o := fun b o e => by rw [← hH3]; exact Heap.get?_push_of_some _ e
  have up : ∀ b o, hp3.get? b = some o → h₁.get? b = some o := fun b o e => hsb₁.extBut b o (Nat.ne_of_lt (show @LT.lt Nat _ b C by rw [← hCn]; exact Heap.lt_size e)) (Heap.get?_push_of_some _ e)
  -- the context
  have fpC : ∀ b ∈ fp, b < s₂.heap.objs.size := fun b hb => by
    obtain ⟨o, e, _⟩ := T.obj _ _ st2 b hb
    exact Heap.lt_size e
  have hcl : ∀ x c, cl.lookup x = some c → c < hp3.objs.size ∧ c ∉ fp ∧ (upd H2 Da (.lst [])) c = none := fun x c e => by
    have e' := n.sub x c e
    obtain ⟨v, hv⟩ := I3.cell x c e'
    exact ⟨hv.lt, fun z => (f2 c z).2.2.2.2.1 x c e' rfl, I3.freeC x c e'⟩
  let X' := compCx X scope cl N' C { s₂ with heap := hp3 } (upd H2 Da (.lst [])) fp (X.pn ++ pins)
  have ok' : X'.Ok := by
    refine ⟨I.ok.mod, n.kind, I.ok.glob, I.ok.blt, Nat.le_of_eq hCe, fun x y c h1 h2 => I.ok.inj x y c (n.sub x c h1) (n.sub y c h2), fun x hx => n.has x hx, fun x c z => ?_, I.ok.hd, I.ok.frames, .inl rfl, fun b hb => ⟨?_, fun x c e z => ?_⟩, fun b o e => ?_, ?_, fun b o e hb => ?_, fun b hb z => ?_, I3.stack, I3.stkFree⟩
    · exact absurd z Bool.false_ne_true
    · exact Nat.ne_of_lt (Nat.lt_of_lt_of_le (fpC b hb) (show @LE.le Nat _ s₂.heap.objs.size C by omega))
    · subst z; exact (hcl x c e).2.1 hb
    · exact I3.bs b o e
    · exact Nat.le_trans I.ok.bsz I3.sz
    · rcases (f2 b hb).2.2.2.1 with z | z
      · exact I.ok.noex b o e z
      · exact absurd (Heap.lt_size (I.ok.bs b o e).1) (Nat.not_lt_of_le z)
    · rcases List.mem_cons.mp (I3.stkSub b z) with z | z
      · exact (f2 b hb).2.1 z
      · exact (f2 b hb).2.2.1 z
  have lenσ : σ.length = X.N.length := I.len
  have I4 : Inv X' [] (σ ++ List.replicate m none) (upd H2 Da (.lst [])) { s₂ with heap := h₁, toks := s₂.toks + ([] : List (Str × Value)).length } := by
    refine ⟨ok', rfl, I2.bare, Un.kept up, ⟨_, hns₁, fun i x v e1 e2 e3 => ?_⟩, fun x c e => ?_, ?_, fun x c e => (hcl x c e).2.2, fun p hp => ?_, I3.hok.kept up, ?_⟩
    · have hi : i < σ.length := by
        by_cases hh : i < σ.length
        · exact hh
        · rw [List.getElem?_append_right (by omega), List.getElem?_replicate] at e2
          split at e2 <;> cases e2
      rw [List.getElem?_append_left hi] at e2
      obtain ⟨n1, n2, ⟨c, n3⟩, n4⟩ := n.old i x e1 (by omega) e3
      obtain ⟨mm, hnm, hl⟩ := I3.loc
      obtain ⟨u, r, l⟩ := hl i x v n1 e2 (.inr n2)
      refine ⟨u, r, .inr ⟨n4, c, n3, ?_⟩⟩
      have n3' := n.sub x c n3
      rcases l with ⟨k1, k2⟩ | ⟨k1, c', k2, k3⟩
      · exfalso
        have k1' : X.env.scope.names.lookup x = some .local := k1
        rcases n2 with n2 | n2
        · rw [n2] at k1'; cases k1'
        · rw [n2] at k1'; cases k1'
      · rw [n3'] at k2
        cases k2
        exact k3.keeps up
    · obtain ⟨v, hv⟩ := I3.cell x c (n.sub x c e)
      exact ⟨v, hv.keeps up⟩
    · show upd H2 Da (.lst []) C = none
      exact I3.hok.fresh (by show hp3.objs.size ≤ C; omega)
    · have hp' : p ∈ X.pn ++ pins := by
        have hp2 : p ∈ (X.pn ++ pins) ++ [] := hp
        rwa [List.append_nil] at hp2
      obtain ⟨z1, z2, z3, z4, z5⟩ := I3.pin p hp'
      refine ⟨up _ _ z1, z2, ?_, fun z => ?_, z5⟩
      · exact Nat.ne_of_lt (show @LT.lt Nat _ p.1 C by rw [← hCn]; exact Heap.lt_size z1)
      · rcases List.mem_cons.mp (I3.stkSub p.1 z) with z | z
        · exact z3 z
        · exact z4 z
    · rw [List.length_append, List.length_replicate, lenσ]
      exact hm.symm
  obtain ⟨hgc, hct, hel⟩ := hin C { s₂ with heap := hp3 } (upd H2 Da (.lst [])) fp (X.pn ++ pins)
  have hHD : H Da = none := stp.hh.free hfD
  have hS4 : HasS X.K G2 (σ ++ List.replicate m none) (δ ++ List.replicate m none) := by
    refine ⟨by rw [List.length_append, List.length_append, List.length_replicate, List.length_replicate, h0.len], fun i d e => ?_⟩
    by_cases hh : i < δ.length
    · rw [List.getElem?_append_left hh] at e
      obtain ⟨v, e1, r⟩ := h0.get i d e
      exact ⟨v, by rw [List.getElem?_append_left (by rw [h0.len]; exact hh)]; exact e1, r.mono stp.gg⟩
    · rw [List.getElem?_append_right (by omega), List.getElem?_replicate] at e
      split at e <;> cases e
  generalize hδ : δ ++ List.replicate m none = δ' at hS4 o
  have stn : tn 0 h₁ := T.keep 0 _ _ st2 fun b hb o e => up b o (old3 b o e)
  have fpn : ∀ b ∈ fp, (upd H2 Da (.lst [])) b = none := fun b hb => by
    rw [upd_ne (Nat.ne_of_lt (show @LT.lt Nat _ b Da by rw [← hDn]; exact fpC b hb))]
    exact (f2 b hb).1
  have fpok : ∀ {pl : List (Addr × Obj)} {H' : Hp}, pl = [] → (∀ b ∈ fp, H' b = none) → ∀ b ∈ fp, FpOk X' pl H' b := fun {pl H'} hpl hn b hb => by
    subst hpl
    refine ⟨hn b hb, ?_, fun z => ?_, .inl hb, fun x c e z => ?_, fun p hp z => ?_⟩
    · exact Nat.ne_of_lt (Nat.lt_of_lt_of_le (fpC b hb) (show @LE.le Nat _ s₂.heap.objs.size C by omega))
    · rcases List.mem_cons.mp (I3.stkSub b z) with z | z
      · exact (f2 b hb).2.1 z
      · exact (f2 b hb).2.2.1 z
    · subst z; exact (hcl x c e).2.1 hb
    · have hp' : p ∈ X.pn ++ pins := by
        have hp2 : p ∈ (X.pn ++ pins) ++ [] := hp
        rwa [List.append_nil] at hp2
      exact (f2 b hb).2.2.2.2.2 p hp' z
  have loop : ∀ s4 : Shared, Inv X' [] (σ ++ List.replicate m none) (upd H2 Da (.lst [])) s4 → tn 0 s4.heap → codeAny (model X.prog X.w) X.A (.compLoop (.ListComp elt [⟨tg, iter, ifs, 0⟩] scope pos) 0 (.ref it) (.ref Da) (compEnvC scope cl C X.env)) (RR (.ref Da) C) s4 := by
    intro s4 I4 tn4
    refine comp_turns (fun k s' => ∃ i σ' H' G' vs rs, k = ds.length - i ∧ i ≤ ds.length ∧ Inv X' [] σ' H' s' ∧ tn i s'.heap ∧ (∀ b ∈ fp, H' b = none) ∧ HasS X.K G' σ' δ' ∧ Step G H G' H' ∧ Same G2 G' ∧ H' Da = some (.lst vs) ∧ G' Da = none ∧
      HasL X.K G' vs rs ∧ rs.length ≤ i ∧ (match compD fg p f δ' (ds.drop i) with | .ok rs2 => eComp m fi fg p f δ = .ok (.ow (.lst (rs ++ rs2))) | .ex x => EX.p x G H | .no => False)) ?_ ds.length
      ⟨0, _, _, G2, [], [], by simp, Nat.zero_le _, I4, tn4, fpn, hS4, stp.trans (Step.own stp.gh hfD _), Same.refl _, upd_same, stp.gh.free hfD, .nil, Nat.zero_le _, by simpa using o⟩
    rintro k s' ⟨i, σ', H', G', vs, rs, rfl, hi, I', tni, fn', hS, st, sg, hD, gD, rl, hl, o'⟩
    obtain ⟨i1, i2⟩ := itd G' H' sg st.gh i
    by_cases hlt : i < ds.length
    · obtain ⟨d, e1, e2⟩ := drop_one hlt
      obtain ⟨go, yl⟩ := i1 d e1
      refine thn (T.item X' rfl rfl rfl hc i [] s' σ' H' _ I' (fpok rfl fn') tni go) fun r s1 ⟨u, hr, h1⟩ => ?_
      subst hr
      refine thn h1 fun _ s5 ⟨x, H5, I5, r5, y5, st5, fr5⟩ => ?_
      obtain ⟨G5, stp5, hx5⟩ := yl x H5 y5
      have I5' := I5.pinned (fpok rfl fr5) (T.obj _ _ st5)
      rw [e2] at o'
      have o1 : match ((fg d δ').bind fun δ1 => (p δ1).bind fun b => if b = true then (f δ1).bind fun w => (compD fg p f δ' (ds.drop (i + 1))).bind fun rs => .ok (w.d :: rs) else compD fg p f δ' (ds.drop (i + 1))) with | .ok rs2 => eComp m fi fg p f δ = .ok (.ow (.lst (rs ++ rs2))) | .ex x => EX.p x G H | .no => False := o'
      have hS5 : HasS X.K G5 σ' δ' := hS.mono stp5.gg
      refine wpAny_mono (hgc _ s5 σ' H5 x u (fun σ6 H6 => ∃ δ1, fg d δ' = .ok δ1 ∧ H6 = H5 ∧ HasS X.K G5 σ6 δ1 ∧ HasS X.K G5 σ6 δ') I5' r5 ⟨G5, δ', d, stp5.gh, hS5, hx5, ?_⟩) (fun _ s6 ⟨σ6, H6, I6, δ1, e6, eH, hS6, hS6'⟩ => ?_) fun _ _ z => False.elim z
      · cases e6 : fg d δ' with
        | ok δ1 => exact fun σ6 h6 h6' => ⟨δ1, rfl, rfl, h6, h6'⟩
        | ex x => rw [e6] at o1; exact EX.mono _ _ _ _ _ (st.trans stp5) o1
        | no => rw [e6] at o1; exact o1
      subst eH
      rw [e6] at o1
      simp only [R.bind_ok] at o1
      refine wpAny_mono (hct _ s6 σ6 H6 (fun b H7 => ∃ G7, p δ1 = .ok b ∧ Step G5 H6 G7 H7) I6 ⟨G5, δ1, stp5.gh, hS6, ?_⟩) (fun b s7 ⟨H7, I7, G7, e7, stp7⟩ => ?_) fun _ _ z => False.elim z
      · cases e7 : p δ1 with
        | ok b => exact fun G7 H7 st7 => ⟨G7, rfl, st7⟩
        | ex x => rw [e7] at o1; exact EX.mono _ _ _ _ _ (st.trans stp5) o1
        | no => rw [e7] at o1; exact o1
      rw [e7] at o1
      simp only [R.bind_ok] at o1
      -- what stays
      have gD7 : G7 Da = none := (stp5.trans stp7).nw Da gD (by rw [hD]; simp)
      have hD7 : H7 Da = some (.lst vs) := (stp5.trans stp7).hh _ _ hD
      have pinK : ∀ {σ9 : Sg} {H9 : Hp} {s9 : Shared}, Inv X' ([] ++ pinsAt fp s5.heap) σ9 H9 s9 → tn (i + 1) s9.heap ∧ ∀ b ∈ fp, H9 b = none := fun {σ9 H9 s9} I9 =>
        ⟨T.keep _ _ _ st5 fun b hb o e => (I9.pin (b, o) (List.mem_append_right _ (List.mem_append_right _ (mem_pinsAt hb e)))).1, fun b hb => by
          obtain ⟨o, e, d⟩ := T.obj _ _ st5 b hb
          exact (I9.pin (b, o) (List.mem_append_right _ (List.mem_append_right _ (mem_pinsAt hb e)))).2.1⟩
      have hSk : ∀ {G9 : Hp}, Same G7 G9 → HasS X.K G9 σ6 δ' := fun {G9} sm => hS6'.mono (stp7.gg.trans sm)
      cases b with
      | false =>
        rw [if_neg Bool.false_ne_true] at o1 ⊢
        exact ⟨ds.length - (i + 1), by omega, i + 1, σ6, H7, G7, vs, rs, rfl, hlt, I7.unpinned, (pinK I7).1, (pinK I7).2, hSk (Same.refl _), st.trans (stp5.trans stp7), sg.trans (stp5.gg.trans stp7.gg), hD7, gD7, rl.mono (stp5.gg.trans stp7.gg), by omega, o1⟩
      | true =>
        rw [if_pos rfl] at o1 ⊢
        refine wpAny_mono (hel _ s7 σ6 H7 (fun v H8 => ∃ w G8, f δ1 = .ok w ∧ Step G7 H7 G8 H8 ∧ Has X.K G8 v w.d) I7 ⟨G7, δ1, stp7.gh, hS6.mono stp7.gg, ?_⟩) (fun u8 s8 ⟨v8, H8, I8, r8, w8, G8, e8, stp8, hv8⟩ => ?_) fun _ _ z => False.elim z
        · cases e8 : f δ1 with
          | ok w => exact WP.intro fun v G8 H8 st8 r8 => ⟨w, G8, rfl, st8, r8⟩
          | ex x => rw [e8] at o1; exact EX.mono _ _ _ _ _ (st.trans (stp5.trans stp7)) o1
          | no => rw [e8] at o1; exact o1
        rw [e8] at o1
        simp only [R.bind_ok] at o1
        have gD8 : G8 Da = none := stp8.nw Da gD7 (by rw [hD7]; simp)
        have hD8 : H8 Da = some (.lst vs) := stp8.hh _ _ hD7
        have rl8 : HasL X.K G8 vs rs := rl.mono (stp5.gg.trans (stp7.gg.trans stp8.gg))
        refine wpAny_mono (mt_append (X := X') _ s8 σ6 H8 (.ref Da) [v8] (.ref Da) [u8] (fun _ H9 => H9 = upd H8 Da (.lst (vs ++ [v8]))) I8 rfl (.cons r8 .nil) ⟨Da, vs, v8, rfl, rfl, hD8, by rw [rl.length, sizeLine_eq]; omega, rfl⟩) (fun _ s9 ⟨_, H9, I9, _, e9⟩ => ?_) fun _ _ z => False.elim z
        subst e9
        have stA := st.trans (stp5.trans (stp7.trans stp8))
        refine ⟨ds.length - (i + 1), by omega, i + 1, σ6, _, G8, vs ++ [v8], rs ++ [w8.d], rfl, hlt, I9.unpinned, (pinK I9).1, (pinK I9).2, hSk stp8.gg, ⟨fun b o z => ?_, fun b o z => ?_, stA.gg, stA.nw⟩, sg.trans (stp5.gg.trans (stp7.gg.trans stp8.gg)), upd_same, gD8, rl8.append (.cons hv8 .nil), by rw [List.length_append, List.length_singleton]; omega, ?_⟩
        · rw [upd_ne (ne_of_none z hHD)]; exact stA.hh b o z
        · rw [upd_ne (ne_of_none z gD8)]; exact stp8.gh b o z
        · cases e10 : compD fg p f δ' (ds.drop (i + 1)) with
          | ok rs2 =>
            rw [e10] at o1
            simp only [R.bind_ok] at o1 ⊢
            rw [List.append_assoc]
            exact o1
          | ex x => rw [e10] at o1; exact o1
          | no => rw [e10] at o1; exact o1
    · have e : ds.length = i := by omega
      refine thn (T.done X' rfl rfl rfl hc i [] s' σ' H' _ I' (fpok rfl fn') tni (i2 e)) fun r s1 ⟨hr, I1⟩ => ?_
      subst hr
      rw [List.drop_eq_nil_of_le (by omega)] at o'
      have o1 : eComp m fi fg p f δ = .ok (.ow (.lst (rs ++ []))) := o'
      rw [List.append_nil] at o1
      obtain ⟨mm, hnm, _⟩ := I1.loc
      have Iout : Inv X pins σ H' s1 := I3.call' (s' := s1) (ch := fp) I1.os I1.base I1.hok I1.bare fun b hb => by
        obtain ⟨f0, f1', f2', f3, f4, f5⟩ := f2 b hb
        exact ⟨f3, f1', f4, f5⟩
      exact hRR Da C s1 G' H' vs rs o1 Iout ⟨mm, hnm⟩ (I3.fpOk (by show hp3.objs.size ≤ C; omega) I1.free) st hHD hD gD rl
  exact codeAny_compStart_list (loop _ I4 stn) (T.self X.A 0 _ _ _ stn (loop _ I4 stn))
/-- .. as a value -/
theorem ed_comp {elt iter tg : Expr} {ifs : List Expr} {scope : Scope} {N' : List Str} {fi : FI} {fg : FGc} {p : FT} {f : FE} {m : Nat} (hx0 : ∀ e s, ¬ X.xe e s) (hc : X.calm = true) (hi : ID X EX tg iter fi) (hk : scope.kind = .function) (hb : compB scope.names X.env.scope.names X.N N' = true)
    (hm : N'.length = X.N.length + m)
    (hin : ∀ C s0 H0 fp pn, GC (compCx X scope (clOf X.env.cells scope.names []) N' C s0 H0 fp pn) EX tg fg ∧ CTs (compCx X scope (clOf X.env.cells scope.names []) N' C s0 H0 fp pn) EX ifs p ∧ ED (compCx X scope (clOf X.env.cells scope.names []) N' C s0 H0 fp pn) EX elt f)
    (hs : ∀ x, foldedSetIterable iter X.env x = pure x := by intro _; rfl) : ED X EX (.ListComp elt [⟨tg, iter, ifs, 0⟩] scope pos) (eComp m fi fg p f) := by
  intro pins s σ H Q I q
  obtain ⟨G, δ, g0, h0, o⟩ := q
  rw [eval_ListComp]
  have n := compN_mk I.ok hk hb
  refine wpAny_comprehension_free (use := none) rfl hs n.clos n.kind n.names (comp_block (RR := fun acc C => compPost (model X.prog X.w) X.A X.xe none (EP X pins σ Q) acc C) hx0 hc hi hk hb hm hin I g0 h0 ?_ fun Da C s1 G' H' vs rs e Io hm' fc st h1 h2 h3 rl => ?_)
  · cases e : eComp m fi fg p f δ with
    | ok w => trivial
    | ex x => rw [e] at o; exact o
    | no => rw [e] at o; exact o
  · rw [e] at o
    obtain ⟨mm, hnm⟩ := hm'
    obtain ⟨c0, c1, c2, c3, c4, c5⟩ := fc
    exact ⟨mm, hnm, fun h' sb => ⟨.ref Da, H', Io.turned (t' := s1.toks) (fun b ob hb e => (sb.2 b hb).trans e) c0 c1 c3 c4 c5, rfl, o Da _ G' H' st h1 h2 h3 (.lst rl)⟩⟩
/-- y = [..] where the store comes ahead of the block's end -/
theorem sd_setC (js : List Nat) {elt iter tg : Expr} {ifs : List Expr} {scope : Scope} {N' : List Str} {fi : FI} {fg : FGc} {p : FT} {f : FE} {m i : Nat} {y : Str} {py spos : Pos} (hx0 : ∀ e s, ¬ X.xe e s) (hc : X.calm = true) (hi : ID X EX tg iter fi) (hk : scope.kind = .function) (hb : compB scope.names X.env.scope.names X.N N' = true)
    (hm : N'.length = X.N.length + m)
    (hin : ∀ C s0 H0 fp pn, GC (compCx X scope (clOf X.env.cells scope.names []) N' C s0 H0 fp pn) EX tg fg ∧ CTs (compCx X scope (clOf X.env.cells scope.names []) N' C s0 H0 fp pn) EX ifs p ∧ ED (compCx X scope (clOf X.env.cells scope.names []) N' C s0 H0 fp pn) EX elt f)
    (hN : X.N.Nodup) (hy : X.N[i]? = some y := by rfl) (hx : Loc X.env.scope y := by first | exact Or.inl rfl | exact Or.inr rfl) (hf : X.fn y = true ∨ X.env.scope.names.lookup y = some .local := by first | exact .inl rfl | exact .inr rfl | assumption)
    (hsw : swapsWith (.ListComp elt [⟨tg, iter, ifs, 0⟩] scope pos) (some (.Name y py)) spos.line X.env = pure true := by rfl)
    (hs : ∀ x, foldedSetIterable iter X.env x = pure x := by intro _; rfl) : SD X EX (.Assign [.Name y py] (.ListComp elt [⟨tg, iter, ifs, 0⟩] scope pos) spos) (sSet i js (eComp m fi fg p f)) := by
  intro pins s σ H D I q
  have q2 := set_core q
  obtain ⟨G, δ, g0, h0, o⟩ := q2
  have n := compN_mk I.ok hk hb
  rw [exec_Assign_Name_used _ _ _ _ hsw]
  refine wpAny_bind (wpAny_standAt (wpAny_bind ?_))
  show wpAny _ X.A (do let _ ← comprehension (.ListComp elt [⟨tg, iter, ifs, 0⟩] scope pos) scope X.env _ (newList []) false (eval iter X.env) (some (assign (.Name y py) X.env))) _ _ s
  refine wpAny_bind (wpAny_mono (wpAny_comprehension_free (use := some (assign (.Name y py) X.env)) (Q := fun _ s' => SP X pins D .next s') rfl hs n.clos n.kind n.names
    (comp_block (RR := fun acc C => compPost (model X.prog X.w) X.A X.xe (some (assign (.Name y py) X.env)) (fun _ s' => SP X pins D .next s') acc C) hx0 hc hi hk hb hm hin I g0 h0 ?_ fun Da C s1 G' H' vs rs e Io hm' fc st h1 h2 h3 rl => ?_)) (fun _ s' hq => wpAny_pure (wpAny_pure hq)) fun _ _ e => e)
  · cases e : eComp m fi fg p f δ with
    | ok w => trivial
    | ex x => rw [e] at o; exact o
    | no => rw [e] at o; exact o
  · rw [e] at o
    obtain ⟨mm, hnm⟩ := hm'
    obtain ⟨c0, c1, c2, c3, c4, c5⟩ := fc
    show wpAny _ X.A (assign (.Name y py) X.env (.ref Da)) _ _ _
    refine wpAny_assign_Name (store_ok2 Io hN hy hx (v := .ref Da) rfl (fun s2 I2 ⟨a, sb, ha⟩ => ?_) hf)
    have hCa : C ≠ a := by
      rcases ha with rfl | ha
      · exact c1
      · exact fun z => c4 y a ha z.symm
    refine ⟨mm, hnm.sameBut sb hCa, fun h' sb' => ⟨_, H', I2.turned (t' := s2.toks) (fun b ob hb e => (sb'.2 b hb).trans e) c0 c1 c3 c4 c5, ?_⟩⟩
    exact o Da _ G' H' st h1 h2 h3 (.lst rl)
end
end L3

namespace L3
open PySem PySem.Spec PyProof.Rows L2
theorem boot_bool : bootBuiltins "bool" = some (.type "bool") := by decide +kernel
theorem room_comp {X : Cx} {k : Nat} {scope : Scope} {cl : List (Str × Addr)} {N' : List Str} {C : Addr} {s0 : Shared} {H0 : Hp} {fp : List Addr} {pn : List (Addr × Obj)} (h : Room k (Cx.A X)) : Room k (Cx.A (compCx X scope cl N' C s0 H0 fp pn)) := h
theorem calm_comp {X : Cx} {scope : Scope} {cl : List (Str × Addr)} {N' : List Str} {C : Addr} {s0 : Shared} {H0 : Hp} {fp : List Addr} {pn : List (Addr × Obj)} (h : Cx.calm X = true) : Cx.calm (compCx X scope cl N' C s0 H0 fp pn) = true := h
section
variable {X : Cx} {EX : EXT} {a b e : Expr} {es : List Expr} {f g : FE} {fa : FA} {pos p2 : Pos}

/-! ### slices -/
abbrev FO := DE → R (Option Int)
def tDo (K : PySem.W.Frag) (EX : EXT) (fo : FO) : TO := fun σ H Q => ∃ G δ, Same G H ∧ HasS K G σ δ ∧ match fo δ with
  | .ok i => ∀ G' H', Step G H G' H' → Q i H'
  | .ex x => EX.p x G H
  | .no => False
abbrev OD (X : Cx) (EX : EXT) (e : Option Expr) (fo : FO) : Prop := PO X e (tDo X.K EX fo)
def oNone : FO := fun _ => .ok none
def intPart : D → R (Option Int)
  | .int i => .ok (some i)
  | _ => .no
def oSome (f : FE) : FO := fun δ => (f δ).bind fun w => intPart w.d
theorem PO.imp {X : Cx} {e : Option Expr} {t t' : TO} (h : PO X e t) (i : ∀ σ H Q, t' σ H Q → t σ H Q) : PO X e t' := fun pins s σ H Q I q => h pins s σ H Q I (i σ H Q q)
theorem od_none : OD X EX none oNone := PO.imp po_none fun σ H Q ⟨G, δ, g, s, o⟩ => o G H (Step.refl g)
theorem od_some (h : ED X EX e f) : OD X EX (some e) (oSome f) := PO.imp (po_some h) fun σ H Q ⟨G, δ, g, s, o⟩ => by
  refine ⟨G, δ, g, s, ?_⟩
  unfold oSome at o
  cases e1 : f δ with
  | ok w =>
    rw [e1] at o
    simp only [R.bind_ok] at o
    refine WP.intro fun v G' H' st r => ?_
    revert r o
    cases w.d with
    | int i => intro o r; cases r; exact ⟨i, rfl, o G' H' st⟩
    | _ => intro o _; exact False.elim o
  | ex x => rw [e1] at o; exact o
  | no => rw [e1] at o; exact o
def cutL {α : Type} (xs : List α) (lo hi : Option Int) : List α := (xs.drop (HT.sIx xs.length 0 lo)).take (HT.sIx xs.length xs.length hi - HT.sIx xs.length 0 lo)
def sliceD : D → Option Int → Option Int → R W
  | .lst ds, lo, hi => .ok (.ow (.lst (cutL ds lo hi)))
  | .str x, lo, hi => if x.length ≤ 16777216 then .ok (.sh (.str (Txt.slice x lo hi))) else .no
  | _, _, _ => .no
theorem sl_str : SlR X (fun x lo hi H Q => ∃ z, x = .str z ∧ z.length ≤ sizeLine ∧ Q (.str (Txt.slice z lo hi)) H) := by
  intro pins s σ H x v vl vu lo hi sl Q I rx hs pl pu h
  obtain ⟨z, rfl, hz, q⟩ := h
  obtain ⟨t, rfl⟩ := rx
  refine ⟨"str", _, PySem.F.slot_str_getitem.lookup, typeIs_str _ _ _, ?_⟩
  obtain ⟨o, ho, hc, hd⟩ := hs
  have fin : ∀ t' k, EP X pins σ Q (.str (Txt.slice z lo hi) t') { s with toks := k } := fun t' k => ⟨.str _, H, I.tok _, ⟨_, rfl⟩, q⟩
  cases pl with
  | none =>
    cases pu with
    | none => exact wpAny_getItem_str_slice (l := none) (u := none) (st := none) ⟨o, ho, hc, hd⟩ rfl (post_val_or_str ⟨Nat.le_trans (Txt.slice_le z _ _) hz, fin⟩)
    | int j uj => exact wpAny_getItem_str_slice (l := none) (u := some (j, uj)) (st := none) ⟨o, ho, hc, hd⟩ rfl (post_val_or_str ⟨Nat.le_trans (Txt.slice_le z _ _) hz, fin⟩)
  | int i ui =>
    cases pu with
    | none => exact wpAny_getItem_str_slice (l := some (i, ui)) (u := none) (st := none) ⟨o, ho, hc, hd⟩ rfl (post_val_or_str ⟨Nat.le_trans (Txt.slice_le z _ _) hz, fin⟩)
    | int j uj => exact wpAny_getItem_str_slice (l := some (i, ui)) (u := some (j, uj)) (st := none) ⟨o, ho, hc, hd⟩ rfl (post_val_or_str ⟨Nat.le_trans (Txt.slice_le z _ _) hz, fin⟩)
def rSlD (K : PySem.W.Frag) (EX : EXT) : V → Option Int → Option Int → Hp → VK → Prop := fun x lo hi H Q => ∃ G d, Same G H ∧ Has K G x d ∧ Out K EX G H (sliceD d lo hi) Q
theorem sl_d : SlR X (rSlD X.K EX) := by
  intro pins s σ H x v vl vu lo hi sl Q I rx hs pl pu h
  obtain ⟨G, d, g, r, o⟩ := h
  cases r with
  | lst h r =>
    rename_i vs ds
    refine sl_list pins s σ H _ v vl vu lo hi sl Q I rx hs pl pu ⟨_, _, rfl, g.seq h, fun p hp => ?_⟩
    have hcut : HasL X.K G (cutV vs lo hi) (cutL ds lo hi) := by
      unfold cutV cutL
      rw [r.length]
      exact (r.drop _).take _
    exact out_own o g hcut p hp
  | str z =>
    simp only [sliceD] at o
    split at o
    · rename_i hz
      exact sl_str pins s σ H _ v vl vu lo hi sl Q I rx hs pl pu ⟨z, rfl, by rw [sizeLine_eq]; exact hz, out_sh o g (.str _)⟩
    · exact o.elim
  | _ => exact False.elim o
def eSlice (f : FE) (lo hi : FO) : FE := fun δ => (f δ).bind fun w => (lo δ).bind fun l => (hi δ).bind fun u => sliceD w.d l u
theorem tDo.seq {K : PySem.W.Frag} {G H : Hp} {σ : Sg} {δ : DE} {fo : FO} {k : Option Int → R W} {Q : VK} {P : Option Int → Hp → Prop} (g : Same G H) (s : HasS K G σ δ) (h : Out K EX G H ((fo δ).bind k) Q)
    (i : ∀ b G' H', fo δ = .ok b → Step G H G' H' → Out K EX G' H' (k b) Q → P b H') : tDo K EX fo σ H P := by
  refine ⟨G, δ, g, s, ?_⟩
  cases e : fo δ with
  | ok w => rw [e] at h; exact fun G' H' st => i w G' H' e st (Out.mono st h)
  | ex x => rw [e] at h; exact h
  | no => rw [e] at h; exact h
theorem ed_slice {lo hi : Option Expr} {fl fh : FO} (he : ED X EX e f) (hl : OD X EX lo fl) (hu : OD X EX hi fh) : ED X EX (.Subscript e (.Slice lo hi none p2) pos) (eSlice f fl fh) :=
  PE.imp (pe_slice sl_d he hl hu) fun σ H Q ⟨G, δ, g0, s0, o⟩ => tD.seq g0 s0 o fun w v G1 H1 _ st1 r1 o1 => tDo.seq st1.gh (s0.mono st1.gg) o1 fun l G2 H2 _ st2 o2 =>
    tDo.seq st2.gh (s0.mono (st1.gg.trans st2.gg)) o2 fun u G3 H3 _ st3 o3 => ⟨G3, w.d, st3.gh, r1.mono (st2.gg.trans st3.gg), o3⟩

/-! ### methods of built-ins -/
def tyD (T : String) : D → Bool
  | .str _ => T == "str"
  | .int _ => T == "int"
  | .lst _ => T == "list"
  | _ => false
theorem tyD_V {K : PySem.W.Frag} {G H : Hp} {T : String} {v : V} {d : D} (g : Same G H) (r : Has K G v d) (h : tyD T d = true) : tyV K T v H := by
  cases r with
  | str x => exact eq_of_beq h
  | int i => exact eq_of_beq h
  | lst hq r => exact .inl ⟨eq_of_beq h, _, g.seq hq⟩
  | _ => cases h
def rDm (K : PySem.W.Frag) (EX : EXT) (fn : D → List D → R W) : V → List V → Hp → VK → Prop := fun x vs H Q => ∃ G d ds, Same G H ∧ Has K G x d ∧ HasL K G vs ds ∧ Out K EX G H (fn d ds) Q
abbrev MtD (X : Cx) (EX : EXT) (id : String) (fn : D → List D → R W) : Prop := MtR X id (rDm X.K EX fn)
def eMeth (T : String) (fn : D → List D → R W) (f : FE) (fa : FA) : FE := fun δ => (f δ).bind fun w => if tyD T w.d = true then (fa δ).bind fun ds => fn w.d ds else .no
variable {o : Expr} {name : Str} {apos cpos : Pos} {T id : String} {fn : D → List D → R W}
theorem ed_meth (pa : PlainAttrs T) (slot : Slot T name id) (hty : typeOf (.builtin id) = pure (.type "method_descriptor")) (hm : MtD X EX id fn) (ho : ED X EX o f) (ha : AD X EX (e :: es) fa)
    (hbase : attributeBase o name X.env (eval o X.env) = eval o X.env := by rfl)
    (hfew : ((backTo cpos (starEach (e :: es) X.env)).all (fun x => !x.1) && (backToKw cpos (keywordEach [] X.env)).all (fun x => x.1.isSome)
      && decide ((e :: es).length + ([] : List Keyword).length + (if ([] : List Keyword).isEmpty then 0 else 1) < 30)) = true := by rfl)
    (hline : (apos.endLine == cpos.line) = true := by rfl) (hs : starEach (e :: es) X.env = (false, eval e X.env) :: starEach es X.env := by rfl) (hplain : (backTo cpos (starEach es X.env)).any (·.1) = false := by rfl) :
    ED X EX (.Call (.Attribute o name apos) (e :: es) [] cpos) (eMeth T fn f fa) :=
  PE.imp (pe_bm pa slot hty hm ho ha hbase hfew hline hs hplain) fun σ H Q ⟨G, δ, g0, s0, o⟩ => tD.seq g0 s0 o fun w v G1 H1 _ st1 r1 o1 => by
    split at o1
    · rename_i ht
      exact ⟨tyD_V st1.gh r1 ht, tDa.seq st1.gh (s0.mono st1.gg) o1 fun ds vs G2 H2 _ st2 r2 o2 => ⟨G2, w.d, ds, st2.gh, r1.mono st2.gg, r2, o2⟩⟩
    · exact o1.elim
def eMeth0 (T : String) (fn : D → List D → R W) (f : FE) : FE := fun δ => (f δ).bind fun w => if tyD T w.d = true then fn w.d [] else .no
theorem ed_meth0 (pa : PlainAttrs T) (slot : Slot T name id) (hty : typeOf (.builtin id) = pure (.type "method_descriptor")) (hm : MtD X EX id fn) (ho : ED X EX o f)
    (hbase : attributeBase o name X.env (eval o X.env) = eval o X.env := by rfl) (hline : (apos.endLine == cpos.line) = true := by rfl) : ED X EX (.Call (.Attribute o name apos) [] [] cpos) (eMeth0 T fn f) :=
  PE.imp (pe_bm0 pa slot hty hm ho hbase hline) fun σ H Q ⟨G, δ, g0, s0, o⟩ => tD.seq g0 s0 o fun w v G1 H1 _ st1 r1 o1 => by
    split at o1
    · rename_i ht
      exact ⟨tyD_V st1.gh r1 ht, G1, w.d, [], st1.gh, r1, .nil, o1⟩
    · exact o1.elim
def bitLen : D → List D → R W
  | .int i, [] => .ok (.sh (.int (Builtin.Int.intBits i : Nat)))
  | _, _ => .no
theorem mt_bitLen : MtD X EX "int.bit_length" bitLen := by
  intro pins s σ H x vs v us Q I rx rv h
  obtain ⟨G, d, ds, g, r, rl, o⟩ := h
  cases r with
  | int i =>
    cases rl with
    | nil =>
      obtain ⟨t, rfl⟩ := rx
      cases rv
      exact PyProof.Rows.call_int_bit_length ⟨.int _, H, I.tok _, ⟨_, rfl⟩, out_sh o g (.int _)⟩
    | cons _ _ => exact False.elim o
  | _ => cases rl <;> exact False.elim o
def countS : D → List D → R W
  | .str x, [.str y] => .ok (.sh (.int (Txt.count x y)))
  | _, _ => .no
theorem str_one {K : PySem.W.Frag} {G : Hp} {v : V} {d : D} {vs : List V} {ds : List D} (r : Has K G v d) (rl : HasL K G vs ds) {P : Prop} (h : ∀ x y, v = .str x → d = .str x → vs = [.str y] → ds = [.str y] → P) (n : (∀ x y, ¬ (d = .str x ∧ ds = [.str y])) → P) : P := by
  by_cases e : ∃ x y, d = .str x ∧ ds = [.str y]
  · obtain ⟨x, y, rfl, rfl⟩ := e
    cases r
    cases rl with
    | cons a t => cases a; cases t; exact h x y rfl rfl rfl rfl
  · exact n fun x y z => e ⟨x, y, z⟩
theorem mt_countS : MtD X EX "str.count" countS := by
  intro pins s σ H x vs v us Q I rx rv h
  obtain ⟨G, d, ds, g, r, rl, o⟩ := h
  refine str_one r rl (fun x y e1 e2 e3 e4 => ?_) fun n => ?_
  · subst e1 e2 e3 e4
    obtain ⟨t, rfl⟩ := rx
    obtain ⟨u, rfl, t', rfl⟩ := rv.one
    exact SC.count ⟨.int _, H, I.tok _, ⟨_, rfl⟩, out_sh o g (.int _)⟩
  · have e : countS d ds = .no := by
      unfold countS
      split
      · rename_i x y; exact absurd ⟨rfl, rfl⟩ (n x y)
      · rfl
    rw [e] at o
    exact o.elim
def findS : D → List D → R W
  | .str x, [.str y] => .ok (.sh (.int (Txt.find x y)))
  | _, _ => .no
theorem mt_findS : MtD X EX "str.find" findS := by
  intro pins s σ H x vs v us Q I rx rv h
  obtain ⟨G, d, ds, g, r, rl, o⟩ := h
  refine str_one r rl (fun x y e1 e2 e3 e4 => ?_) fun n => ?_
  · subst e1 e2 e3 e4
    obtain ⟨t, rfl⟩ := rx
    obtain ⟨u, rfl, t', rfl⟩ := rv.one
    exact SC.find ⟨.int _, H, I.tok _, ⟨_, rfl⟩, out_sh o g (.int _)⟩
  · have e : findS d ds = .no := by
      unfold findS
      split
      · rename_i x y; exact absurd ⟨rfl, rfl⟩ (n x y)
      · rfl
    rw [e] at o
    exact o.elim
/-- sep.join(list of texts) -/
def strsD : List D → Option (List Str)
  | [] => some []
  | .str x :: ds => (strsD ds).map (x :: ·)
  | _ => none
theorem strs_are {K : PySem.W.Frag} {G : Hp} : ∀ {vs : List V} {ds : List D} {us : List Value} {ys : List Str}, HasL K G vs ds → Vals vs us → strsD ds = some ys → StrsAre us ys
  | _, _, _, _, .nil, r, e => by cases r; cases e; exact .nil
  | _, _, _, _, .cons h t, r, e => by
    cases r with
    | cons r1 r2 =>
      cases h with
      | str x =>
        obtain ⟨t', rfl⟩ := r1
        simp only [strsD] at e
        obtain ⟨zs, q, rfl⟩ := Option.map_eq_some_iff.mp e
        exact .cons x t' (strs_are t r2 q)
      | _ => cases e
def joinS : D → List D → R W
  | .str x, [.lst ds] => match strsD ds with
    | some ys => if (ys.map (·.length)).sum + ys.length * x.length ≤ 16777216 then .ok (.sh (.str (Txt.join x ys))) else .no
    | none => .no
  | _, _ => .no
theorem mt_joinS : MtD X EX "str.join" joinS := by
  intro pins s σ H x vs v us Q I rx rv h
  obtain ⟨G, d, ds, g, r, rl, o⟩ := h
  cases r with
  | str x =>
    cases rl with
    | nil => exact False.elim o
    | cons a t =>
      cases t with
      | cons _ _ => cases a <;> exact False.elim o
      | nil =>
        cases a with
        | lst h r =>
          obtain ⟨t, rfl⟩ := rx
          obtain ⟨u, rfl, ru⟩ := rv.one
          cases ru
          simp only [joinS] at o
          split at o
          · rename_i ys e
            split at o
            · rename_i hz
              obtain ⟨its, rv', pl, _⟩ := I.list (g.seq h)
              exact join_list pl.isList (by simpa using strs_are r rv' e) hz fun t' k => ⟨.str _, H, I.tok _, ⟨_, rfl⟩, out_sh o g (.str _)⟩
            · exact o.elim
          · exact o.elim
        | _ => exact False.elim o
  | _ => cases rl <;> exact False.elim o

/-! ### isinstance(e, T), T a built-in type -/
def isT (T : String) : D → Option Bool
  | .non => some false
  | .bl _ => some (T == "bool" || T == "int")
  | .int _ => some (T == "int")
  | .str _ => some (T == "str")
  | .lst _ => some (T == "list")
  | .tup _ => some (T == "tuple")
  | _ => none
def eIs (T : String) (f : FE) : FE := fun δ => (f δ).bind fun w => match isT T w.d with
  | some k => .ok (.sh (.bl k))
  | none => .no
/-- what the kit says of a built-in type's classes -/
structure KitT (K : PySem.W.Frag) (T : String) : Prop where
  non : PySem.W.kitOne K (.type "NoneType") (.type T) = some false
  bl : PySem.W.kitOne K (.type "bool") (.type T) = some (T == "bool" || T == "int")
  int : PySem.W.kitOne K (.type "int") (.type T) = some (T == "int")
  str : PySem.W.kitOne K (.type "str") (.type T) = some (T == "str")
  lst : PySem.W.kitOne K (.type "list") (.type T) = some (T == "list")
  tup : PySem.W.kitOne K (.type "tuple") (.type T) = some (T == "tuple")
theorem call_isT {T : String} (k : KitT X.K T) : CallR X (.builtin "isinstance") (fun xs H Q => ∃ G x d b, xs = [x, .ty T] ∧ Same G H ∧ Has X.K G x d ∧ isT T d = some b ∧ Q (.bl b) H) := by
  intro pins s σ H xs us Q I rv h
  obtain ⟨G, x, d, b, rfl, g, r, e, q⟩ := h
  obtain ⟨u, u2, rfl, r1, r2⟩ := rv.two
  cases r2
  have fin : ∀ tk, EP X pins σ Q (.bool b) { s with toks := tk } := fun tk => ⟨.bl b, H, I.tok _, rfl, q⟩
  cases r with
  | non => cases r1; exact PySem.W.kia_one PySem.W.kitx_none I.kIn True.intro (k.non.trans e) (fun z => nomatch z) fin
  | bl y => cases r1; exact PySem.W.kia_one PySem.W.kitx_bool I.kIn True.intro (k.bl.trans e) (fun z => nomatch z) fin
  | int i => obtain ⟨t, rfl⟩ := r1; exact PySem.W.kia_one PySem.W.kitx_int I.kIn True.intro (k.int.trans e) (fun z => nomatch z) fin
  | str y => obtain ⟨t, rfl⟩ := r1; exact PySem.W.kia_one PySem.W.kitx_str I.kIn True.intro (k.str.trans e) (fun z => nomatch z) fin
  | lst h r =>
    cases r1
    obtain ⟨its, _, ⟨ob, n, e1, c, _, _⟩, _⟩ := I.list (g.seq h)
    exact PySem.W.kia_one PySem.W.kitx_list I.kIn ⟨ob, e1, c⟩ (k.lst.trans e) (fun z => nomatch z) fin
  | tup h r =>
    cases r1
    obtain ⟨its, _, ⟨ob, e1, c, _⟩, _⟩ := I.tuple (Same.tupS g h)
    exact PySem.W.kia_one PySem.W.kitx_tuple I.kIn ⟨ob, e1, c⟩ (k.tup.trans e) (fun z => nomatch z) fin
theorem ed_isT {Tn : Str} {T : String} {pp p3 : Pos} (k : KitT X.K T) (ha : ED X EX a f) (hm : X.mg "isinstance" = none) (hmT : X.mg Tn = none) (hvT : bootBuiltins Tn = some (.type T)) (hg : Gl X "isinstance" := by rfl) (hgT : Gl X Tn := by rfl)
    (hn : Tn ≠ "__name__" := by decide) (hdT : (Tn == ("__debug__" : Str)) = false := by decide)
    (he : starEach [a, .Name Tn p3] X.env = (false, eval a X.env) :: starEach [.Name Tn p3] X.env := by rfl) (hpl : (backTo pos (starEach [.Name Tn p3] X.env)).any (·.1) = false := by rfl)
    (hs : starEach [.Name Tn p3] X.env = (false, eval (.Name Tn p3) X.env) :: starEach [] X.env := by rfl) : ED X EX (.Call (.Name "isinstance" pp) [a, .Name Tn p3] [] pos) (eIs T f) :=
  PE.imp (pe_callB (call_isT k) hg hm boot_isinstance (pa_cons ha (pa_cons (pe_bltn (v := .ty T) hgT hmT hvT rfl hn hdT) pa_nil hs) he) (by decide) (by decide) he hpl) fun σ H Q ⟨G, δ, g0, s0, o⟩ => tD.seq g0 s0 o fun w v G1 H1 _ st1 r1 o1 => by
    split at o1
    · rename_i b e
      exact ⟨G1, v, w.d, b, rfl, st1.gh, r1, e, out_sh o1 st1.gh (.bl b)⟩
    · exact o1.elim
end

/-! ### the law -/
def spLaw3 (K : PySem.W.Frag) : Sp := fun vs H Q _ => ∃ (a : Addr) (ns : List Int), vs = [.ref a] ∧ SqL K H a (ns.map V.int) ∧ ns.length ≤ 63 ∧ ∀ H', Q (.bl true) H'
theorem hasInts {K : PySem.W.Frag} {G : Hp} : ∀ ns : List Int, HasL K G (ns.map V.int) (ns.map D.int)
  | [] => .nil
  | n :: ns => .cons (.int n) (hasInts ns)
theorem law_of {P : Program} {w : World} {K : PySem.W.Frag} {mg : Str → Option Value} {base : Heap} {k : Nat} {f : Addr} {fd : FuncData} {x : Str} {F : List D → R W} (h : FnOk P w K mg base CX0 k f fd [x] (spD K 1 F))
    (hF : ∀ ns : List Int, ns.length ≤ 63 → ∃ v, F [.lst (ns.map D.int)] = .ok v ∧ v.d = .bl true) : FnOk P w K mg base CX0 k f fd [x] (spLaw3 K) :=
  h.imp fun vs H Q E q => by
    obtain ⟨a, ns, rfl, hS, hl, q⟩ := q
    obtain ⟨v, e, ev⟩ := hF ns hl
    refine ⟨rfl, H, [.lst (ns.map D.int)], Same.refl _, .cons (.lst hS (hasInts ns)) .nil, ?_⟩
    rw [e]
    refine WP.intro fun u G' H' st r => ?_
    rw [ev] at r
    cases r
    exact q H'
theorem walk3 {l : PySem.W.OpenLaw} {q : Program} {loose : List Str} {XP : (Str → Option Value) → Heap → Prop} {YP : World → Heap → Prop} {d : DefRec} {K : Params → PySem.W.Frag} {x : Str} {k : Nat} (hn : l.most = some 63) (hdf : d.params.defaults = []) (hr : Room k callerA)
    (hY : ∀ (w : World) (h : Heap), YP w h → (K w.params).In h)
    (F : ∀ (w : World) (mg : Str → Option Value) (fa : Addr) (h : Heap), (K w.params).In h → h.Ns mainGlobals mg → mg d.name = some (.ref fa) →
      ∃ fd : FuncData, (∀ (s : Shared) (u : Value), BindsTo s fd ⟨[u], []⟩ [(x, u)]) ∧ ∀ base : Heap, (K w.params).In base → base.Ns mainGlobals mg → FnOk l.prog w (K w.params) mg base CX0 k fa fd [x] (spLaw3 (K w.params))) :
    PySem.W.WalkO q loose XP YP l.row.toRowW d [] (fun f vs => PySem.call f vs) :=
  L2.walk_of (n := 63) (k := k) (x := x) (CX := fun _ => CX0) (sp := fun w => spLaw3 (K w.params)) hn (by decide) hdf hr hY F (fun _ _ a ns hl _ hS => ⟨a, ns, rfl, hS, hl, fun _ => rfl⟩) fun _ _ _ _ _ z => z
end L3

namespace L3
open PySem PySem.Spec PyProof.Rows L2
/-! ### enumerate -/
/-- two records turn, a pair is laid and tracked -/
theorem Inv.pair {X : Cx} {pins : List (Addr × Obj)} {σ : Sg} {H : Hp} {s : Shared} {e it : Addr} {h' : Heap} {tk : Nat} {its : List Value} {vs : List V} (I : Inv X pins σ H s) (fe : FpOk X pins H e) (fi : FpOk X pins H it)
    (k : ∀ b o, b ≠ e → b ≠ it → s.heap.get? b = some o → h'.get? b = some o) (he : ∃ o, h'.get? e = some o) (hi : ∃ o, h'.get? it = some o) (ht : h'.get? s.heap.objs.size = some { cls := .type "tuple", data := .seq its.toArray }) (rv : Vals vs its) (hz : vs.length ≤ sizeLine) :
    Inv X pins σ (upd H s.heap.objs.size (.tup vs)) { s with heap := h', toks := tk } := by
  have hn : H s.heap.objs.size = none := I.hok.fresh (Nat.le_refl _)
  obtain ⟨e0, e1, e2, e3, e4, e5⟩ := fe
  obtain ⟨i0, i1, i2, i3, i4, i5⟩ := fi
  have neH : ∀ b u, H b = some u → b ≠ e ∧ b ≠ it := fun b u q => ⟨fun z => (by rw [z, e0] at q; cases q), fun z => (by rw [z, i0] at q; cases q)⟩
  have lt : ∀ b o, s.heap.get? b = some o → b ≠ s.heap.objs.size := fun b o q => Nat.ne_of_lt (Heap.lt_size q)
  refine I.step (g' := s.gens) (d' := s.drawn) (ch := [e, it]) (fun b hb => ?_) (fun b o _ _ hc q _ => k b o (fun z => hc (by simp [z])) (fun z => hc (by simp [z])) q)
    (fun b o _ _ hc q _ => ⟨o.slots, k b o (fun z => hc (by simp [z])) (fun z => hc (by simp [z])) q⟩) (fun b o _ q n => by rw [upd_ne (lt b o q)]; exact n) (fun b o hc q => ⟨o, k b o (fun z => hc (by simp [z])) (fun z => hc (by simp [z])) q⟩)
    (fun b xs q => by rw [upd_ne (ne_of_none q hn)]; exact q) (fun b o u q => by rw [upd_ne (ne_of_none q hn)]; exact q) (fun b ps q => ⟨#[], by rw [upd_ne (ne_of_none q hn), q]; simp⟩) (fun m hm => ?_) (fun b u q => ?_) I.bare
  · have hb' : b = e ∨ b = it := by simpa using hb
    rcases hb' with rfl | rfl
    · exact ⟨e3, e1, e4, e5⟩
    · exact ⟨i3, i1, i4, i5⟩
  · obtain ⟨o, es, ep, ho, r⟩ := hm
    exact ⟨o, es, ep, k _ o (Ne.symm e1) (Ne.symm i1) ho, r⟩
  · by_cases z : b = s.heap.objs.size
    · subst z
      rw [upd_same] at q
      cases q
      exact ⟨hz, its, rv, ⟨_, ht, rfl, 0, rfl⟩⟩
    · rw [upd_ne z] at q
      refine (I.hok b u q).stay (fun c v hc r => ?_) (fun c r => by rw [upd_ne (ne_of_none r hn)]; exact r) fun c xs r => by rw [upd_ne (ne_of_none r hn)]; exact r
      rcases hc with rfl | hc
      · exact k c v (neH c u q).1 (neH c u q).2 r
      · exact k c v (neH c _ hc).1 (neH c _ hc).2 r
/-- .. or only turn -/
theorem Inv.turned2 {X : Cx} {pins : List (Addr × Obj)} {σ : Sg} {H : Hp} {s : Shared} {e it : Addr} {h' : Heap} {tk : Nat} (I : Inv X pins σ H s) (fe : FpOk X pins H e) (fi : FpOk X pins H it)
    (k : ∀ b o, b ≠ e → b ≠ it → s.heap.get? b = some o → h'.get? b = some o) : Inv X pins σ H { s with heap := h', toks := tk } := by
  obtain ⟨e0, e1, e2, e3, e4, e5⟩ := fe
  obtain ⟨i0, i1, i2, i3, i4, i5⟩ := fi
  have neH : ∀ b u, H b = some u → b ≠ e ∧ b ≠ it := fun b u q => ⟨fun z => (by rw [z, e0] at q; cases q), fun z => (by rw [z, i0] at q; cases q)⟩
  refine I.step (g' := s.gens) (d' := s.drawn) (ch := [e, it]) (fun b hb => ?_) (fun b o _ _ hc q _ => k b o (fun z => hc (by simp [z])) (fun z => hc (by simp [z])) q)
    (fun b o _ _ hc q _ => ⟨o.slots, k b o (fun z => hc (by simp [z])) (fun z => hc (by simp [z])) q⟩) (fun b o _ q n => n) (fun b o hc q => ⟨o, k b o (fun z => hc (by simp [z])) (fun z => hc (by simp [z])) q⟩)
    (fun b xs q => q) (fun b o u q => q) (fun b ps q => ⟨#[], by rw [q]; simp⟩) (fun m hm => ?_) (fun b u q => ?_) I.bare
  · have hb' : b = e ∨ b = it := by simpa using hb
    rcases hb' with rfl | rfl
    · exact ⟨e3, e1, e4, e5⟩
    · exact ⟨i3, i1, i4, i5⟩
  · obtain ⟨o, es, ep, ho, r⟩ := hm
    exact ⟨o, es, ep, k _ o (Ne.symm e1) (Ne.symm i1) ho, r⟩
  · refine (I.hok b u q).stay (fun c v hc r => ?_) (fun c r => r) fun c xs r => r
    rcases hc with rfl | hc
    · exact k c v (neH c u q).1 (neH c u q).2 r
    · exact k c v (neH c _ hc).1 (neH c _ hc).2 r
def enL (K : PySem.W.Frag) (l : Addr) : It :=
  ⟨fun i H => ∃ xs x, SqL K H l xs ∧ xs[i]? = some x, fun i H v H' => ∃ p, H p = none ∧ v = .ref p ∧ ∀ xs x, SqL K H l xs → xs[i]? = some x → H' = upd H p (.tup [.int (i : Int), x]), fun i H => ∃ xs, SqL K H l xs ∧ xs.length = i⟩
def enS (z : Str) : It :=
  ⟨fun i _ => i < z.cps.size, fun i H v H' => ∃ p c, H p = none ∧ v = .ref p ∧ z.cps[i]? = some c ∧ H' = upd H p (.tup [.int (i : Int), .str ⟨#[c]⟩]), fun i _ => i = z.cps.size⟩
theorem turn_enL {P : Program} {w : World} {K : PySem.W.Frag} {elts : List Expr} {x1 : Nat} {pos : Pos} (e it l : Addr) (hei : e ≠ it) : Turn P w K (.Tuple elts x1 pos) (enL K l) [e, it] e (fun i h => (∃ old, IsEnum h e it (i : Int) old) ∧ h.IsListIter it l i) where
  mem := by simp
  obj := fun i h st b hb => by
    have hb' : b = e ∨ b = it := by simpa using hb
    rcases hb' with rfl | rfl
    · obtain ⟨⟨old, q⟩, _⟩ := st
      exact ⟨_, q, fun v z => by cases z⟩
    · obtain ⟨_, ⟨o, q, c, d⟩⟩ := st
      exact ⟨o, q, fun v z => by rw [d] at z; cases z⟩
  keep := fun i h h' st k => by
    obtain ⟨⟨old, q⟩, r⟩ := st
    exact ⟨⟨old, k e (by simp) _ q⟩, r.at fun o z => k it (by simp) o z⟩
  item := by
    intro X hP hw hK hc i pins s σ H E I hf st hg
    subst hP hw hK
    obtain ⟨xs, x, hq, hx⟩ := hg
    obtain ⟨its, rv, p, hz⟩ := I.list hq
    obtain ⟨u, hu, ru⟩ := rv.get hx
    obtain ⟨⟨old, he⟩, hit⟩ := st
    have fe := hf e (by simp)
    have fi := hf it (by simp)
    have pl := p.isList
    have nle : l ≠ e := fun z => by
      subst z
      obtain ⟨o, ho, hc', _⟩ := pl
      rw [show s.heap.get? l = _ from he] at ho
      cases ho
      exact absurd hc' (by simp)
    have nli : l ≠ it := fun z => by
      subst z
      obtain ⟨o, ho, hc', _⟩ := pl
      obtain ⟨o', ho', hc2, _⟩ := hit
      rw [ho] at ho'
      cases ho'
      rw [hc'] at hc2
      exact absurd hc2 (by simp)
    have hlt : i < its.toArray.size := by
      have := (List.getElem?_eq_some_iff.mp hu).1
      simpa using this
    refine wpAny_pyNext_enum_itemD (Draws.list (A := X.A.in1) (I.ok.hd hc) it l nli its.toArray) he ⟨hit, pl⟩ hlt hei (by simp [hei, Ne.symm nle]) fun y h' tk hy ho hst htup hsz kk => ?_
    have ey : y = u := by
      have : its.toArray[i]? = some u := by simpa using hu
      rw [this] at hy
      exact (Option.some.inj hy).symm
    subst ey
    refine ⟨_, rfl, wpAny_letOwnedTupleGo_enum ho fun h'' he'' sb => ?_⟩
    have hnext : ∃ old, IsEnum h'' e it ((i + 1 : Nat) : Int) old := ⟨_, by
      have e1 : ((i + 1 : Nat) : Int) = (i : Int) + 1 := by omega
      rw [e1]
      exact he''⟩
    refine ⟨.ref s.heap.objs.size, upd H s.heap.objs.size (.tup [.int (i : Int), x]), ?_, rfl, ⟨_, I.hok.fresh (Nat.le_refl _), rfl, fun ys y' hy' ey' => ?_⟩, ⟨hnext, ?_⟩, fun b hb => ?_⟩
    · have ne : s.heap.objs.size ≠ e := fun z => absurd (Heap.lt_size he) (by rw [← z]; exact Nat.lt_irrefl _)
      refine Inv.pair (its := [.int (i : Int) tk, y]) I fe fi (fun b o h1 h2 q => (sb.2 b h1).trans (kk b o h1 h2 q)) ⟨_, he''⟩ ?_ ((sb.2 _ ne).trans htup) (.cons ⟨_, rfl⟩ (.cons ru .nil)) (by show 2 ≤ sizeLine; decide)
      obtain ⟨⟨o, q, _⟩, _⟩ := hst
      exact ⟨o, (sb.2 it (Ne.symm hei)).trans q⟩
    · have := I.list_inj hy' hq
      subst this
      rw [hx] at ey'
      cases ey'
      rfl
    · exact hst.1.at fun o z => (sb.2 it (Ne.symm hei)).trans z
    · have hb' : b = e ∨ b = it := by simpa using hb
      have hbl : b < s.heap.objs.size := by
        rcases hb' with rfl | rfl
        · exact Heap.lt_size he
        · obtain ⟨o, q, _⟩ := hit; exact Heap.lt_size q
      rw [upd_ne (Nat.ne_of_lt hbl)]
      exact (hf b hb).1
  done := by
    intro X hP hw hK hc i pins s σ H E I hf st hg
    subst hP hw hK
    obtain ⟨xs, hq, hx⟩ := hg
    obtain ⟨its, rv, p, hz⟩ := I.list hq
    obtain ⟨⟨old, he⟩, hit⟩ := st
    have hl := rv.length
    have pl := p.isList
    have nli : l ≠ it := fun z => by
      subst z
      obtain ⟨o, ho, hc', _⟩ := pl
      obtain ⟨o', ho', hc2, _⟩ := hit
      rw [ho] at ho'
      cases ho'
      rw [hc'] at hc2
      exact absurd hc2 (by simp)
    have en : i = its.toArray.size := by simp; omega
    refine wpAny_pyNext_enum_endD (Draws.list (A := X.A.in1) (I.ok.hd hc) it l nli its.toArray) he (by rw [← en]; exact ⟨hit, pl⟩) fun h' eb => ⟨rfl, ?_⟩
    exact Inv.turned2 (tk := s.toks) I (hf e (by simp)) (hf it (by simp)) fun b o h1 h2 q => eb b o h2 q
  self := fun A i s Q E st h => by
    obtain ⟨⟨old, he⟩, _⟩ := st
    exact wpAny_pyIter_enum he h
theorem draws_str {prog : Program} {w : World} {A : Around} (hh : A.handled = none) (it : Addr) (x : Str) (t : Tok) :
    Draws prog w A it [it] x.cps.size (fun i v => ∃ c u, x.cps[i]? = some c ∧ v = .str ⟨#[c]⟩ u) (fun i h => h.IsStrIter it (strIterType x) x t i) := by
  unfold strIterType
  cases ha : x.cps.all (· < 128)
  · exact Draws.strWide hh it x t
  · exact Draws.strAscii hh it x t
theorem turn_enS {P : Program} {w : World} {K : PySem.W.Frag} {elts : List Expr} {x1 : Nat} {pos : Pos} (e it : Addr) (z : Str) (t : Tok) (hei : e ≠ it) : Turn P w K (.Tuple elts x1 pos) (enS z) [e, it] e (fun i h => (∃ old, IsEnum h e it (i : Int) old) ∧ h.IsStrIter it (strIterType z) z t i) where
  mem := by simp
  obj := fun i h st b hb => by
    have hb' : b = e ∨ b = it := by simpa using hb
    rcases hb' with rfl | rfl
    · obtain ⟨⟨old, q⟩, _⟩ := st
      exact ⟨_, q, fun v z => by cases z⟩
    · obtain ⟨_, ⟨o, q, c, d⟩⟩ := st
      exact ⟨o, q, fun v z => by rw [d] at z; cases z⟩
  keep := fun i h h' st k => by
    obtain ⟨⟨old, q⟩, ⟨o, r, c⟩⟩ := st
    exact ⟨⟨old, k e (by simp) _ q⟩, ⟨o, k it (by simp) o r, c⟩⟩
  item := by
    intro X hP hw hK hc i pins s σ H E I hf st hg
    subst hP hw hK
    obtain ⟨⟨old, he⟩, hit⟩ := st
    have fe := hf e (by simp)
    have fi := hf it (by simp)
    refine wpAny_pyNext_enum_itemD (draws_str (A := X.A.in1) (I.ok.hd hc) it z t) he hit hg hei (by simp [hei]) fun y h' tk hy ho hst htup hsz kk => ?_
    obtain ⟨c, uc, hcx, rfl⟩ := hy
    refine ⟨_, rfl, wpAny_letOwnedTupleGo_enum ho fun h'' he'' sb => ?_⟩
    have hnext : ∃ old, IsEnum h'' e it ((i + 1 : Nat) : Int) old := ⟨_, by
      have e1 : ((i + 1 : Nat) : Int) = (i : Int) + 1 := by omega
      rw [e1]
      exact he''⟩
    refine ⟨.ref s.heap.objs.size, upd H s.heap.objs.size (.tup [.int (i : Int), .str ⟨#[c]⟩]), ?_, rfl, ⟨_, c, I.hok.fresh (Nat.le_refl _), rfl, hcx, rfl⟩, ⟨hnext, ?_⟩, fun b hb => ?_⟩
    · have ne : s.heap.objs.size ≠ e := fun z => absurd (Heap.lt_size he) (by rw [← z]; exact Nat.lt_irrefl _)
      refine Inv.pair (its := [.int (i : Int) tk, .str ⟨#[c]⟩ uc]) I fe fi (fun b o h1 h2 q => (sb.2 b h1).trans (kk b o h1 h2 q)) ⟨_, he''⟩ ?_ ((sb.2 _ ne).trans htup) (.cons ⟨_, rfl⟩ (.cons ⟨_, rfl⟩ .nil)) (by show 2 ≤ sizeLine; decide)
      obtain ⟨o, q, _⟩ := hst
      exact ⟨o, (sb.2 it (Ne.symm hei)).trans q⟩
    · obtain ⟨o, q, r⟩ := hst
      exact ⟨o, (sb.2 it (Ne.symm hei)).trans q, r⟩
    · have hb' : b = e ∨ b = it := by simpa using hb
      have hbl : b < s.heap.objs.size := by
        rcases hb' with rfl | rfl
        · exact Heap.lt_size he
        · obtain ⟨o, q, _⟩ := hit; exact Heap.lt_size q
      rw [upd_ne (Nat.ne_of_lt hbl)]
      exact (hf b hb).1
  done := by
    intro X hP hw hK hc i pins s σ H E I hf st hg
    subst hP hw hK
    obtain ⟨⟨old, he⟩, hit⟩ := st
    have en : i = z.cps.size := hg
    refine wpAny_pyNext_enum_endD (draws_str (A := X.A.in1) (I.ok.hd hc) it z t) he (by rw [← en]; exact hit) fun h' eb => ⟨rfl, ?_⟩
    exact Inv.turned2 (tk := s.toks) I (hf e (by simp)) (hf it (by simp)) fun b o h1 h2 q => eb b o h2 q
  self := fun A i s Q E st h => by
    obtain ⟨⟨old, he⟩, _⟩ := st
    exact wpAny_pyIter_enum he h
def enumD (k : Nat) : List D → List D
  | [] => []
  | d :: ds => .tup [.int (k : Int), d] :: enumD (k + 1) ds
theorem enumD_get : ∀ {ds : List D} {k i : Nat} {d : D}, (enumD k ds)[i]? = some d → ∃ d', ds[i]? = some d' ∧ d = .tup [.int ((k + i : Nat) : Int), d']
  | [], _, _, _, h => by simp [enumD] at h
  | x :: ds, k, 0, d, h => by simp [enumD] at h; exact ⟨x, rfl, h.symm⟩
  | x :: ds, k, i + 1, d, h => by
    obtain ⟨d', e1, e2⟩ := enumD_get (ds := ds) (k := k + 1) (i := i) (by simpa [enumD] using h)
    exact ⟨d', by simpa using e1, by rw [e2, show k + 1 + i = k + (i + 1) by omega]⟩
theorem enumD_len : ∀ (ds : List D) (k : Nat), (enumD k ds).length = ds.length
  | [], _ => rfl
  | _ :: ds, k => by simp [enumD, enumD_len ds (k + 1)]
def enumOf : D → R (List D)
  | .lst ds => .ok (enumD 0 ds)
  | .str x => .ok (enumD 0 (signs x))
  | _ => .no
def iEnum (f : FE) : FI := fun δ => (f δ).bind fun w => enumOf w.d
section
variable {X : Cx} {EX : EXT} {a : Expr} {f : FE} {elts : List Expr} {x1 : Nat} {tp p pos : Pos}
def iEn (K : PySem.W.Frag) (t : TA) : TI := fun σ H Q => t σ H fun vs H1 => (∃ l, vs = [.ref l] ∧ (∃ xs, SqL K H1 l xs) ∧ Q (enL K l) H1) ∨ (∃ z, vs = [.str z] ∧ Q (enS z) H1)
theorem pi_enum {ta : TA} (hg : Gl X "enumerate") (hm : X.mg "enumerate" = none) (ha : PA X [a] ta) (hs : starEach [a] X.env = [(false, eval a X.env)] := by rfl) : PI X (.Tuple elts x1 tp) (.Call (.Name "enumerate" p) [a] [] pos) (iEn X.K ta) := by
  intro pins s σ H Q I h
  refine Call_ (ld_blt I hg hm PyProof.Rows.boot_enumerate (PyProof.Rows.callWith_type1 (thn (ha pos pins s σ H _ I h) fun us s1 ⟨vs, H1, I1, r1, q1⟩ => ?_) hs rfl))
  rcases q1 with ⟨l, rfl, ⟨xs, hq⟩, q⟩ | ⟨z, rfl, q⟩
  · obtain ⟨u, rfl, ru⟩ := r1.one
    cases ru
    obtain ⟨its, rv, pl, hz⟩ := I1.list hq
    refine call_enumerate_list pl.isList fun h' he hit hsz kk => wpAny_pyIter_enum he ?_
    refine ⟨s1.heap.objs.size + 1, [s1.heap.objs.size + 1, s1.heap.objs.size], _, enL X.K l, H1, rfl, I1.kept (t' := s1.toks) kk, turn_enL _ _ l (Nat.succ_ne_self _), ⟨⟨_, he⟩, hit⟩, fun b hb => ?_, q⟩
    have hb' : b = s1.heap.objs.size + 1 ∨ b = s1.heap.objs.size := by simpa using hb
    have hbl : s1.heap.objs.size ≤ b := by
      rcases hb' with rfl | rfl
      · exact Nat.le_succ _
      · exact Nat.le_refl _
    exact I1.fpOk hbl (I1.hok.fresh hbl)
  · obtain ⟨u, rfl, t, rfl⟩ := r1.one
    refine call_enumerate_str fun h' he hit hsz kk => wpAny_pyIter_enum he ?_
    refine ⟨s1.heap.objs.size + 1, [s1.heap.objs.size + 1, s1.heap.objs.size], _, enS z, H1, rfl, I1.kept (t' := s1.toks) kk, turn_enS _ _ z t (Nat.succ_ne_self _), ⟨⟨_, he⟩, hit⟩, fun b hb => ?_, q⟩
    have hb' : b = s1.heap.objs.size + 1 ∨ b = s1.heap.objs.size := by simpa using hb
    have hbl : s1.heap.objs.size ≤ b := by
      rcases hb' with rfl | rfl
      · exact Nat.le_succ _
      · exact Nat.le_refl _
    exact I1.fpOk hbl (I1.hok.fresh hbl)
theorem itd_enL {K : PySem.W.Frag} {G : Hp} {l : Addr} {vs : List V} {ds : List D} (h : SqL K G l vs) (r : HasL K G vs ds) : ItD K G (enL K l) (enumD 0 ds) := fun G' H g1 g i => by
  refine ⟨fun d e => ?_, fun e => ?_⟩
  · obtain ⟨d', e1, rfl⟩ := enumD_get e
    obtain ⟨v, e2, hv⟩ := r.get e1
    refine ⟨⟨vs, v, (g1.trans g).seq h, e2⟩, fun x H' y => ?_⟩
    obtain ⟨p, hp, rfl, y⟩ := y
    have := y vs v ((g1.trans g).seq h) e2
    subst this
    refine ⟨_, Step.new g hp _, .tup (SqT.of upd_same) (.cons (by rw [Nat.zero_add]; exact .int _) (.cons (hv.mono (g1.trans (same_new (g.free hp) _))) .nil))⟩
  · rw [enumD_len] at e
    exact ⟨vs, (g1.trans g).seq h, by rw [r.length]; exact e⟩
theorem itd_enS {K : PySem.W.Frag} {G : Hp} (z : Str) : ItD K G (enS z) (enumD 0 (signs z)) := fun G' H g1 g i => by
  refine ⟨fun d e => ?_, fun e => ?_⟩
  · obtain ⟨d', e1, rfl⟩ := enumD_get e
    unfold signs at e1
    rw [List.getElem?_map] at e1
    cases q : z.cps.toList[i]? with
    | none => rw [q] at e1; cases e1
    | some c =>
      rw [q] at e1
      cases e1
      have hi : i < z.cps.size := by
        have := (List.getElem?_eq_some_iff.mp q).1
        simpa using this
      refine ⟨hi, fun x H' y => ?_⟩
      obtain ⟨p, c', hp, rfl, hc, rfl⟩ := y
      have : z.cps.toList[i]? = some c' := by simpa using hc
      rw [q] at this
      cases this
      refine ⟨_, Step.new g hp _, .tup (SqT.of upd_same) (.cons (by rw [Nat.zero_add]; exact .int _) (.cons (.str _) .nil))⟩
  · rw [enumD_len] at e
    unfold signs at e
    rw [List.length_map] at e
    show i = z.cps.size
    simp at e
    omega
theorem id_enum (hm : X.mg "enumerate" = none) (he : ED X EX a f) (hg : Gl X "enumerate" := by rfl) (hs : starEach [a] X.env = [(false, eval a X.env)] := by rfl) (hs1 : starEach [a] X.env = (false, eval a X.env) :: starEach [] X.env := by rfl) :
    ID X EX (.Tuple elts x1 tp) (.Call (.Name "enumerate" p) [a] [] pos) (iEnum f) :=
  PI.imp (pi_enum hg hm (pa_cons he pa_nil hs1) hs) fun σ H Q ⟨G, δ, g0, s0, o⟩ => by
    refine ⟨G, δ, g0, s0, ?_⟩
    unfold iEnum at o
    cases e1 : f δ with
    | ok w =>
      rw [e1] at o
      simp only [R.bind_ok] at o
      refine WP.intro fun v G' H' st r => ?_
      revert r o
      cases w.d with
      | lst ds =>
        intro o r
        cases r with
        | lst h r => exact .inl ⟨_, rfl, ⟨_, st.gh.seq h⟩, o _ G' H' st (itd_enL h r)⟩
      | str z =>
        intro o r
        cases r
        exact .inr ⟨z, rfl, o _ G' H' st (itd_enS z)⟩
      | _ => intro o _; exact False.elim o
    | ex x => rw [e1] at o; exact o
    | no => rw [e1] at o; exact o
end
end L3

namespace L3
open PySem PySem.Spec PyProof.Rows L2
/-! ### range(a, b, c), c above 0 -/
def Itr3 (lo c : Int) (n : Nat) : It := ⟨fun i _ => i < n, fun i H x H' => H' = H ∧ x = .int (lo + (i : Int) * c), fun i _ => n ≤ i⟩
theorem turn_range3 {P : Program} {w : World} {K : PySem.W.Frag} {tg : Expr} (it : Addr) (lo c : Int) (n : Nat) : Turn P w K tg (Itr3 lo c n) [it] it (fun i h => IsRangeIter h it (lo + (i : Nat) * c) ((n : Int) - (i : Nat)) c) where
  mem := by simp
  obj := fun i h st b hb => by
    have e : b = it := by simpa using hb
    subst e
    exact ⟨_, st, fun v z => by
      have z' : Data.fields _ = Data.cell v := z
      cases z'⟩
  keep := fun i h h' st k => k it (by simp) _ st
  item := by
    intro X hP hw hK hc i pins s σ H E I hf st hg
    subst hP hw hK
    obtain ⟨f0, f1, f2, f3, f4, f5⟩ := hf it (by simp)
    have W := Walks.range (prog := X.prog) (w := X.w) (I.ok.hd hc) it lo c n
    refine W.item i s _ _ hg st fun v h' tk hv st' kk => ?_
    obtain ⟨t, rfl⟩ := hv
    have I1 : Inv X pins σ H { s with heap := h', toks := tk } := I.turned (fun b o hb e => kk b o (by simpa using hb) e) f0 f1 f3 f4 f5
    exact ⟨_, rfl, go_of (s := { s with heap := h', toks := tk }) (n := "range_iterator") st' rfl rfl (by decide) ⟨.int (lo + (i : Int) * c), H, I1, ⟨t, rfl⟩, ⟨rfl, rfl⟩, st', fun b hb => (hf b hb).1⟩⟩
  done := by
    intro X hP hw hK hc i pins s σ H E I hf st hg
    subst hP hw hK
    obtain ⟨f0, f1, f2, f3, f4, f5⟩ := hf it (by simp)
    exact wpAny_pyNext_range_end (I.ok.hd hc) st (by have : n ≤ i := hg; omega) fun h' eb => ⟨rfl, I.turned (t' := s.toks) (fun b o hb e => eb b o hb e) f0 f1 f3 f4 f5⟩
  self := fun _ _ _ _ _ st h => wpAny_pyIter_rangeiter st h
def C3 (i j c : Int) : Prop := 0 ≤ i ∧ i.natAbs < 1073741824 ∧ j.natAbs < 1073741824 ∧ 0 < c ∧ c.natAbs < 1073741824
instance (i j c : Int) : Decidable (C3 i j c) := by unfold C3; exact inferInstance
theorem size_le {i j c : Int} (h : C3 i j c) : 0 ≤ Builtin.Range.rangeSize i j c ∧ Builtin.Range.rangeSize i j c ≤ 1073741824 := by
  obtain ⟨h0, h1, h2, h3, h4⟩ := h
  unfold Builtin.Range.rangeSize
  rw [if_pos h3]
  split
  · have : 0 ≤ (j - i - 1) / c := Int.ediv_nonneg (by omega) (by omega)
    have : (j - i - 1) / c ≤ j - i - 1 := Int.ediv_le_self _ (by omega)
    omega
  · omega
section
variable {X : Cx} {EX : EXT} {tg a b c : Expr} {fa : FA} {ta : TA} {p pos : Pos}
def iRng3 (ta : TA) : TI := fun σ H R => ta σ H fun vs H1 => ∃ i j c : Int, vs = [.int i, .int j, .int c] ∧ C3 i j c ∧ R (Itr3 i c (Builtin.Range.rangeSize i j c).toNat) H1
theorem pi_range3 (hg : Gl X "range") (hm : X.mg "range" = none) (ha : PA X [a, b, c] ta) (hs : starEach [a, b, c] X.env = (false, eval a X.env) :: starEach [b, c] X.env) (hpl : (backTo pos (starEach [b, c] X.env)).any (·.1) = false) :
    PI X tg (.Call (.Name "range" p) [a, b, c] [] pos) (iRng3 ta) := by
  intro pins s σ H R I h
  refine Call_ (ld_blt I hg hm boot_range (PyProof.Rows.callWith_type1 (thn (ha pos pins s σ H _ I h) fun us s1 ⟨vs, H1, I1, r1, q1⟩ => ?_) hs hpl))
  obtain ⟨i, j, k, e, hC, q⟩ := q1
  subst e
  cases r1 with
  | cons r rr =>
    cases rr with
    | cons r' rr =>
      cases rr with
      | cons r'' rr =>
        cases rr
        obtain ⟨t, rfl⟩ := r
        obtain ⟨t', rfl⟩ := r'
        obtain ⟨t'', rfl⟩ := r''
        have hz := size_le hC
        have hC' := hC
        obtain ⟨h0, h1, h2, h3, h4⟩ := hC'
        refine call_range_3 (by omega) ?_ (Or.inl (PyProof.noPylong_small (by omega)))
        have sm : Builtin.Range.small i j k = true := by
          unfold Builtin.Range.small
          simp only [Builtin.Range.rangeFitsLong, Bool.and_eq_true, Bool.or_eq_true, decide_eq_true_eq, beq_iff_eq]
          refine ⟨⟨⟨⟨⟨by omega, by omega⟩, by omega, by omega⟩, by omega, by omega⟩, by omega, by omega⟩, .inr ?_⟩
          rw [if_pos (show k > 0 from h3), Bool.and_eq_true, decide_eq_true_eq, decide_eq_true_eq]
          omega
        refine wpAny_pyIter_range (IsRange.new ..) sm ?_
        have I2 : Inv X pins σ H1 { s1 with heap := s1.heap.push { cls := .type "range", data := .fields #[.int i t, .int j t', .int k t''] } } := I1.kept (t' := s1.toks) fun b o e => Heap.get?_push_of_some _ e
        refine ⟨(s1.heap.push { cls := .type "range", data := .fields #[.int i t, .int j t', .int k t''] }).objs.size, [(s1.heap.push { cls := .type "range", data := .fields #[.int i t, .int j t', .int k t''] }).objs.size], _, _, H1, rfl,
          I2.kept (t' := s1.toks) fun b o e => Heap.get?_push_of_some _ e, turn_range3 _ i k (Builtin.Range.rangeSize i j k).toNat, ?_, fun b hb => ?_, q⟩
        · have e1 : i + ((0 : Nat) : Int) * k = i := by simp
          have e2 : (((Builtin.Range.rangeSize i j k).toNat : Nat) : Int) - ((0 : Nat) : Int) = Builtin.Range.rangeSize i j k := by omega
          show IsRangeIter _ _ (i + ((0 : Nat) : Int) * k) ((((Builtin.Range.rangeSize i j k).toNat : Nat) : Int) - ((0 : Nat) : Int)) k
          rw [e1, e2]
          exact Heap.get?_push_size _ rfl
        · have e : b = (s1.heap.push { cls := .type "range", data := .fields #[.int i t, .int j t', .int k t''] }).objs.size := by simpa using hb
          subst e
          exact I2.fpOk (Nat.le_refl _) (I2.hok.fresh (Nat.le_refl _))
def stints (lo c : Int) (n : Nat) : List D := (List.range n).map fun (k : Nat) => D.int (lo + (k : Int) * c)
theorem stints_get {lo c : Int} {n i : Nat} {d : D} (h : (stints lo c n)[i]? = some d) : i < n ∧ d = .int (lo + (i : Int) * c) := by
  unfold stints at h
  rw [List.getElem?_map] at h
  by_cases hi : i < n
  · rw [List.getElem?_range hi] at h
    cases h
    exact ⟨hi, rfl⟩
  · rw [List.getElem?_eq_none (by rw [List.length_range]; omega)] at h
    cases h
theorem stints_len (lo c : Int) (n : Nat) : (stints lo c n).length = n := by unfold stints; rw [List.length_map, List.length_range]
def rng3 : List D → R (List D)
  | [.int i, .int j, .int c] => if C3 i j c then .ok (stints i c (Builtin.Range.rangeSize i j c).toNat) else .no
  | _ => .no
theorem id_range3 (hm : X.mg "range" = none) (ha : AD X EX [a, b, c] fa) (hg : Gl X "range" := by rfl) (hs : starEach [a, b, c] X.env = (false, eval a X.env) :: starEach [b, c] X.env := by rfl) (hpl : (backTo pos (starEach [b, c] X.env)).any (·.1) = false := by rfl) :
    ID X EX tg (.Call (.Name "range" p) [a, b, c] [] pos) (iArgs rng3 fa) :=
  PI.imp (pi_range3 hg hm ha hs hpl) fun σ H Q ⟨G, δ, g0, s0, o⟩ => tDa.seqI g0 s0 o fun ds vs G' H' st r o' => by
    by_cases hds : ∃ i j c, ds = [.int i, .int j, .int c]
    · obtain ⟨i, j, c, rfl⟩ := hds
      obtain rfl : vs = [.int i, .int j, .int c] := by
        cases r with
        | cons r1 r =>
          cases r with
          | cons r2 r =>
            cases r with
            | cons r3 r =>
              cases r
              cases r1
              cases r2
              cases r3
              rfl
      by_cases hc : C3 i j c
      · rw [show rng3 [.int i, .int j, .int c] = .ok (stints i c (Builtin.Range.rangeSize i j c).toNat) from if_pos hc] at o'
        refine ⟨i, j, c, rfl, hc, o' _ G' H' (Step.refl st.gh) fun G2 H2 _ g k => ⟨fun d e => ?_, fun e => ?_⟩⟩
        · obtain ⟨hi, rfl⟩ := stints_get e
          refine ⟨hi, fun x H' y => ?_⟩
          obtain ⟨e1, e2⟩ := y
          subst e1 e2
          exact ⟨G2, Step.refl g, .int _⟩
        · rw [stints_len] at e
          exact Nat.le_of_eq e
      · rw [show rng3 [.int i, .int j, .int c] = .no from if_neg hc] at o'
        exact o'.elim
    · have e : rng3 ds = .no := by
        unfold rng3
        split
        · rename_i i j c; exact absurd ⟨i, j, c, rfl⟩ hds
        · rfl
      rw [e] at o'
      exact o'.elim
end
end L3

namespace L3
open PySem PySem.Spec PyProof.Rows L2
section
variable {X : Cx} {EX : EXT} {a : Expr} {f : FE} {pos : Pos}
/-! ### - e -/
def negD : D → R W
  | .int i => .ok (.sh (.int (-i)))
  | _ => .no
def eNeg (f : FE) : FE := fun δ => (f δ).bind fun w => negD w.d
theorem ed_neg (ha : ED X EX a f) : ED X EX (.UnaryOp .USub a pos) (eNeg f) :=
  PE.imp (pe_un un_neg ha) fun σ H Q ⟨G, δ, g0, s0, o⟩ => tD.seq g0 s0 o fun w v G1 H1 _ st1 r1 o1 => by
    revert r1 o1
    cases w.d with
    | int i => intro r1 o1; cases r1; exact ⟨i, rfl, out_sh o1 st1.gh (.int _)⟩
    | _ => intro _ o1; exact False.elim o1
/-! ### all(list of bools) -/
def boolsD : List D → Option (List Bool)
  | [] => some []
  | .bl b :: ds => (boolsD ds).map (b :: ·)
  | _ => none
def allD : List D → R W
  | [.lst ds] => match boolsD ds with
    | some bs => .ok (.sh (.bl (bs.all id)))
    | none => .no
  | _ => .no
theorem bools_at {K : PySem.W.Frag} {G : Hp} : ∀ {vs : List V} {ds : List D} {us : List Value} {bs : List Bool}, HasL K G vs ds → Vals vs us → boolsD ds = some bs → us = bs.map Value.bool
  | _, _, _, _, .nil, r, e => by cases r; cases e; rfl
  | _, _, _, _, .cons h t, r, e => by
    cases r with
    | cons r1 r2 =>
      cases h with
      | bl x =>
        cases r1
        simp only [boolsD] at e
        obtain ⟨zs, q, rfl⟩ := Option.map_eq_some_iff.mp e
        rw [List.map_cons, bools_at t r2 q]
      | _ => cases e
theorem all_range (bs : List Bool) : (List.range bs.length).all (fun i => bs.getD i true) = bs.all id := by
  rw [Bool.eq_iff_iff, List.all_eq_true, List.all_eq_true]
  constructor
  · intro h b hb
    obtain ⟨i, hi, e⟩ := List.getElem_of_mem hb
    have := h i (List.mem_range.mpr hi)
    simp [hi] at this
    rw [← e]
    exact this
  · intro h i hi
    have hi := List.mem_range.mp hi
    simp [hi]
    exact h _ (List.getElem_mem hi)
theorem call_allD (hc : X.calm = true) : CallD X EX (.builtin "all") allD := by
  intro pins s σ H vs us Q I rv q
  obtain ⟨G, ds, g, r, o⟩ := q
  cases r with
  | nil => exact False.elim o
  | cons h t =>
    cases t with
    | cons _ _ => cases h <;> exact False.elim o
    | nil =>
      cases h with
      | lst h r =>
        rename_i l _ _
        simp only [allD] at o
        split at o
        · rename_i bs e
          obtain ⟨u, rfl, ru⟩ := rv.one
          cases ru
          obtain ⟨its, rv', pl, hz⟩ := I.list (g.seq h)
          have eb := bools_at r rv' e
          subst eb
          have nl : l ≠ s.heap.objs.size := fun z => by
            obtain ⟨o', ho, _⟩ := pl.isList
            exact absurd (Heap.lt_size ho) (by rw [← z]; exact Nat.lt_irrefl _)
          refine call_all_walk (wpAny_pyIter_list pl.isList ⟨s.heap.objs.size, _, _, _, _, _, fun i => bs.getD i true, rfl, Walks.list (A := X.A.in1) (I.ok.hd hc) s.heap.objs.size l nl (bs.map Value.bool).toArray, ⟨⟨_, Heap.get?_push_size _ rfl, rfl, rfl⟩, ?_⟩, fun i v s' Q' E' hP hQ => ?_, fun h' tk kk => ?_⟩)
          · exact pl.isList.at fun o z => Heap.get?_push_of_some _ z
          · have hP' : (bs.map Value.bool)[i]? = some v := by simpa using hP
            rw [List.getElem?_map] at hP'
            cases q : bs[i]? with
            | none => rw [q] at hP'; cases hP'
            | some b =>
              rw [q] at hP'
              cases hP'
              have : bs.getD i true = b := by simp [List.getD, q]
              dsimp only at hQ
              rw [this] at hQ
              exact wpAny_truthy_bool hQ
          · have en : (bs.map Value.bool).toArray.size = bs.length := by simp
            rw [en, all_range]
            refine ⟨.bl _, H, I.kept (t' := tk) fun b o' z => kk b o' (by
              have hb : b ≠ s.heap.objs.size := Nat.ne_of_lt (Heap.lt_size z)
              simpa using hb) (Heap.get?_push_of_some _ z), rfl, out_sh o g (.bl _)⟩
        · exact o.elim
      | _ => exact False.elim o
/-! ### text.index(text), where it is found -/
def indexS : D → List D → R W
  | .str x, [.str y] => match Builtin.Str.occurrences x y 0 x.length 1 with
    | i :: _ => .ok (.sh (.int (i : Nat)))
    | [] => .no
  | _, _ => .no
theorem mt_indexS : MtD X EX "str.index" indexS := by
  intro pins s σ H x vs v us Q I rx rv h
  obtain ⟨G, d, ds, g, r, rl, o⟩ := h
  refine str_one r rl (fun x y e1 e2 e3 e4 => ?_) fun n => ?_
  · subst e1 e2 e3 e4
    obtain ⟨t, rfl⟩ := rx
    obtain ⟨u, rfl, t', rfl⟩ := rv.one
    simp only [indexS] at o
    split at o
    · rename_i i rest e
      exact SC.index e ⟨.int _, H, I.tok _, ⟨_, rfl⟩, out_sh o g (.int _)⟩
    · exact o.elim
  · have e : indexS d ds = .no := by
      unfold indexS
      split
      · rename_i x y; exact absurd ⟨rfl, rfl⟩ (n x y)
      · rfl
    rw [e] at o
    exact o.elim
end
end L3

namespace L3
open PySem PySem.Spec PyProof.Rows L2
/-! ### (a, b, c) = a tuple or a list -/
section
variable {prog : Program} {w : World} {A : Around} {E : Value → Shared → Prop} {s : Shared}
theorem assign_Tuple_list {env : Env} {elts : List Expr} {x1} {pos : Pos} {t : Addr} {items : Array Value} {Q : Unit → Shared → Prop} (hh : A.handled = none) (ht : s.heap.IsList t items)
    (hn : (assignEach elts env).length = items.size) (hstar : (assignEach elts env).findIdx? (·.1) = none)
    (h : ∀ h', Heap.ExtBut s.heap.objs.size s.heap h' → wpAny (model prog w) A (assignInOrder ((assignEach elts env).map (·.2)) items.toList) Q E { s with heap := h' }) :
    wpAny (model prog w) A (assign (.Tuple elts x1 pos) env (.ref t)) Q E s := by
  rw [assign_Tuple, unpack, hn, hstar]
  exact wpAny_bind (wpAny_standAt (wpAny_bind (wpAny_holding (PySem.W.kun_itemsOf hh ht h))))
end
section
variable {X : Cx} {EX : EXT} {pos : Pos}
def gSeq (K : PySem.W.Frag) (n : Nat) (t : TGs) : TG := fun v σ H Q => ∃ a xs, v = .ref a ∧ (SqT K H a xs ∨ SqL K H a xs) ∧ xs.length = n ∧ t xs σ H Q
theorem pg_seq {es : List Expr} {k : Nat} {t : TGs} {n : Nat} (hc : X.calm = true) (h : PGs X es t)
    (hn : (assignEach es X.env).length = n := by rfl) (hst : (assignEach es X.env).findIdx? (·.1) = none := by rfl) : PG X (.Tuple es k pos) (gSeq X.K n t) := by
  intro pins s σ H v u Q I r hw
  obtain ⟨a, xs, e1, hq, hl, hw⟩ := hw
  rcases hq with hq | hq
  · exact pg_tup hc h hn hst pins s σ H v u Q I r ⟨a, xs, e1, hq, hl, hw⟩
  · subst e1
    cases r
    obtain ⟨its, rv, ht, hz⟩ := I.list hq
    refine assign_Tuple_list (I.ok.hd hc) ht.isList (by simp [hn, ← hl, rv.length]) hst fun h' hx => ?_
    have I1 : Inv X pins σ H { s with heap := h' } := I.kept (t' := s.toks) fun b o e => hx b o (Nat.ne_of_lt (Heap.lt_size e)) e
    exact h pins _ σ H xs _ Q I1 (by simpa using rv) hw
theorem gd_three {i j l k : Nat} {x y z : Str} {p1 p2 p3 : Pos} (hc : X.calm = true) (hN : X.N.Nodup) (hi : X.N[i]? = some x := by rfl) (hj : X.N[j]? = some y := by rfl) (hl : X.N[l]? = some z := by rfl) (hx : Loc X.env.scope x := by first | exact Or.inl rfl | exact Or.inr rfl) (hy : Loc X.env.scope y := by first | exact Or.inl rfl | exact Or.inr rfl) (hz : Loc X.env.scope z := by first | exact Or.inl rfl | exact Or.inr rfl)
    (hf : X.fn x = true ∨ X.env.scope.names.lookup x = some .local := by first | exact .inl rfl | exact .inr rfl | assumption) (hf2 : X.fn y = true ∨ X.env.scope.names.lookup y = some .local := by first | exact .inl rfl | exact .inr rfl | assumption) (hf3 : X.fn z = true ∨ X.env.scope.names.lookup z = some .local := by first | exact .inl rfl | exact .inr rfl | assumption)
    (hn : (assignEach [.Name x p1, .Name y p2, .Name z p3] X.env).length = 3 := by rfl) (hst : (assignEach [.Name x p1, .Name y p2, .Name z p3] X.env).findIdx? (·.1) = none := by rfl)
    (hs : (assignEach [.Name x p1, .Name y p2, .Name z p3] X.env).map (·.2) = assign (.Name x p1) X.env :: (assignEach [.Name y p2, .Name z p3] X.env).map (·.2) := by rfl) (hs2 : (assignEach [.Name y p2, .Name z p3] X.env).map (·.2) = assign (.Name y p2) X.env :: (assignEach [.Name z p3] X.env).map (·.2) := by rfl) (hs3 : (assignEach [.Name z p3] X.env).map (·.2) = assign (.Name z p3) X.env :: (assignEach [] X.env).map (·.2) := by rfl) :
    GD X EX (.Tuple [.Name x p1, .Name y p2, .Name z p3] k pos) (gV3 i j l) :=
  PG.imp (pg_seq hc (pgs_cons (pg_name hN hi hx hf) (pgs_cons (pg_name hN hj hy hf2) (pgs_cons (pg_name hN hl hz hf3) pgs_nil hs3) hs2) hs) hn hst) fun v σ H Q ⟨H0, G0, G, Δ, O, d, E, r, q⟩ => by
    cases r with
    | tup h r =>
      cases r with
      | nil => exact False.elim q
      | cons r1 r =>
        cases r with
        | nil => exact False.elim q
        | cons r2 r =>
          cases r with
          | nil => exact False.elim q
          | cons r3 r =>
            cases r with
            | nil => exact ⟨_, _, rfl, .inl (Same.tupS E.st.gh h), rfl, _, _, rfl, _, _, rfl, _, _, rfl, rfl, q _ G H O (((E.put r1).put r2).put r3) (Same.refl _)⟩
            | cons _ _ => exact False.elim q
    | lst h r =>
      cases r with
      | nil => exact False.elim q
      | cons r1 r =>
        cases r with
        | nil => exact False.elim q
        | cons r2 r =>
          cases r with
          | nil => exact False.elim q
          | cons r3 r =>
            cases r with
            | nil => exact ⟨_, _, rfl, .inr (E.st.gh.seq h), rfl, _, _, rfl, _, _, rfl, _, _, rfl, rfl, q _ G H O (((E.put r1).put r2).put r3) (Same.refl _)⟩
            | cons _ _ => exact False.elim q
    | _ => exact False.elim q
/-- a name of a block that stands empty -/
theorem HasS.skip {K : PySem.W.Frag} {G : Hp} {σ : Sg} {δ : DE} {v : V} {i : Nat} (h : HasS K G σ δ) (e : δ[i]? = some none) : HasS K G (σ.set i (some v)) δ := by
  refine ⟨by rw [List.length_set]; exact h.len, fun j d' e' => ?_⟩
  obtain ⟨v', e1, r'⟩ := h.get j d' e'
  refine ⟨v', ?_, r'⟩
  rw [List.getElem?_set_ne]
  · exact e1
  · rintro rfl
    rw [e] at e'
    cases e'
def gC2 (i j : Nat) : FGc := fun d δ => match d with
  | .tup [a, b] => (gC i a δ).bind fun δ1 => gC j b δ1
  | .lst [a, b] => (gC i a δ).bind fun δ1 => gC j b δ1
  | _ => .no
def gC3 (i j l : Nat) : FGc := fun d δ => match d with
  | .tup [a, b, c] => (gC i a δ).bind fun δ1 => (gC j b δ1).bind fun δ2 => gC l c δ2
  | .lst [a, b, c] => (gC i a δ).bind fun δ1 => (gC j b δ1).bind fun δ2 => gC l c δ2
  | _ => .no
theorem gC_cases (i : Nat) (d : D) (δ : DE) : (δ[i]? = some none ∧ gC i d δ = .ok (δ.set i (some d))) ∨ gC i d δ = .no := by
  unfold gC
  cases e : δ[i]? with
  | none => exact .inr rfl
  | some o =>
    cases o with
    | some _ => exact .inr rfl
    | none => exact .inl ⟨rfl, rfl⟩
theorem set_none {δ : DE} {i j : Nat} {d : D} (h : (δ.set i (some d))[j]? = some none) : δ[j]? = some none := by
  rcases getSet h with ⟨_, q⟩ | ⟨_, q⟩
  · cases q
  · exact q
theorem three_c {K : PySem.W.Frag} {G : Hp} {H : Hp} {σ : Sg} {δ : DE} {i j l : Nat} {v1 v2 v3 : V} {a b c : D} {Q : Sg → Hp → Prop} (s : HasS K G σ δ) (r1 : Has K G v1 a) (r2 : Has K G v2 b) (r3 : Has K G v3 c)
    (q : match (gC i a δ).bind fun δ1 => (gC j b δ1).bind fun δ2 => gC l c δ2 with | .ok δ' => ∀ σ', HasS K G σ' δ' → HasS K G σ' δ → Q σ' H | .ex x => EX.p x G H | .no => False) : Q (((σ.set i (some v1)).set j (some v2)).set l (some v3)) H := by
  rcases gC_cases i a δ with ⟨n1, e1⟩ | e1
  · rw [e1] at q
    simp only [R.bind_ok] at q
    rcases gC_cases j b (δ.set i (some a)) with ⟨n2, e2⟩ | e2
    · rw [e2] at q
      simp only [R.bind_ok] at q
      rcases gC_cases l c ((δ.set i (some a)).set j (some b)) with ⟨n3, e3⟩ | e3
      · rw [e3] at q
        exact q _ (((s.put r1 i).put r2 j).put r3 l) (((s.skip n1).skip (set_none n2)).skip (set_none (set_none n3)))
      · rw [e3] at q; exact q.elim
    · rw [e2] at q; exact q.elim
  · rw [e1] at q; exact q.elim
theorem two_c {K : PySem.W.Frag} {G : Hp} {H : Hp} {σ : Sg} {δ : DE} {i j : Nat} {v1 v2 : V} {a b : D} {Q : Sg → Hp → Prop} (s : HasS K G σ δ) (r1 : Has K G v1 a) (r2 : Has K G v2 b)
    (q : match (gC i a δ).bind fun δ1 => gC j b δ1 with | .ok δ' => ∀ σ', HasS K G σ' δ' → HasS K G σ' δ → Q σ' H | .ex x => EX.p x G H | .no => False) : Q ((σ.set i (some v1)).set j (some v2)) H := by
  rcases gC_cases i a δ with ⟨n1, e1⟩ | e1
  · rw [e1] at q
    simp only [R.bind_ok] at q
    rcases gC_cases j b (δ.set i (some a)) with ⟨n2, e2⟩ | e2
    · rw [e2] at q
      exact q _ ((s.put r1 i).put r2 j) ((s.skip n1).skip (set_none n2))
    · rw [e2] at q; exact q.elim
  · rw [e1] at q; exact q.elim
theorem gc_three {i j l k : Nat} {x y z : Str} {p1 p2 p3 : Pos} (hc : X.calm = true) (hN : X.N.Nodup) (hi : X.N[i]? = some x := by rfl) (hj : X.N[j]? = some y := by rfl) (hl : X.N[l]? = some z := by rfl) (hx : Loc X.env.scope x := by first | exact Or.inl rfl | exact Or.inr rfl) (hy : Loc X.env.scope y := by first | exact Or.inl rfl | exact Or.inr rfl) (hz : Loc X.env.scope z := by first | exact Or.inl rfl | exact Or.inr rfl)
    (hf : X.fn x = true ∨ X.env.scope.names.lookup x = some .local := by first | exact .inl rfl | exact .inr rfl | assumption) (hf2 : X.fn y = true ∨ X.env.scope.names.lookup y = some .local := by first | exact .inl rfl | exact .inr rfl | assumption) (hf3 : X.fn z = true ∨ X.env.scope.names.lookup z = some .local := by first | exact .inl rfl | exact .inr rfl | assumption)
    (hn : (assignEach [.Name x p1, .Name y p2, .Name z p3] X.env).length = 3 := by rfl) (hst : (assignEach [.Name x p1, .Name y p2, .Name z p3] X.env).findIdx? (·.1) = none := by rfl)
    (hs : (assignEach [.Name x p1, .Name y p2, .Name z p3] X.env).map (·.2) = assign (.Name x p1) X.env :: (assignEach [.Name y p2, .Name z p3] X.env).map (·.2) := by rfl) (hs2 : (assignEach [.Name y p2, .Name z p3] X.env).map (·.2) = assign (.Name y p2) X.env :: (assignEach [.Name z p3] X.env).map (·.2) := by rfl) (hs3 : (assignEach [.Name z p3] X.env).map (·.2) = assign (.Name z p3) X.env :: (assignEach [] X.env).map (·.2) := by rfl) :
    GC X EX (.Tuple [.Name x p1, .Name y p2, .Name z p3] k pos) (gC3 i j l) :=
  PG.imp (pg_seq hc (pgs_cons (pg_name hN hi hx hf) (pgs_cons (pg_name hN hj hy hf2) (pgs_cons (pg_name hN hl hz hf3) pgs_nil hs3) hs2) hs) hn hst) fun v σ H Q ⟨G, δ, d, g, s, r, q⟩ => by
    cases r with
    | tup h r =>
      cases r with
      | nil => exact False.elim q
      | cons r1 r =>
        cases r with
        | nil => exact False.elim q
        | cons r2 r =>
          cases r with
          | nil => exact False.elim q
          | cons r3 r =>
            cases r with
            | nil => exact ⟨_, _, rfl, .inl (Same.tupS g h), rfl, _, _, rfl, _, _, rfl, _, _, rfl, rfl, three_c s r1 r2 r3 q⟩
            | cons _ _ => exact False.elim q
    | lst h r =>
      cases r with
      | nil => exact False.elim q
      | cons r1 r =>
        cases r with
        | nil => exact False.elim q
        | cons r2 r =>
          cases r with
          | nil => exact False.elim q
          | cons r3 r =>
            cases r with
            | nil => exact ⟨_, _, rfl, .inr (g.seq h), rfl, _, _, rfl, _, _, rfl, _, _, rfl, rfl, three_c s r1 r2 r3 q⟩
            | cons _ _ => exact False.elim q
    | _ => exact False.elim q
theorem gc_two {i j k : Nat} {x y : Str} {p1 p2 : Pos} (hc : X.calm = true) (hN : X.N.Nodup) (hi : X.N[i]? = some x := by rfl) (hj : X.N[j]? = some y := by rfl) (hx : Loc X.env.scope x := by first | exact Or.inl rfl | exact Or.inr rfl) (hy : Loc X.env.scope y := by first | exact Or.inl rfl | exact Or.inr rfl)
    (hf : X.fn x = true ∨ X.env.scope.names.lookup x = some .local := by first | exact .inl rfl | exact .inr rfl | assumption) (hf2 : X.fn y = true ∨ X.env.scope.names.lookup y = some .local := by first | exact .inl rfl | exact .inr rfl | assumption)
    (hn : (assignEach [.Name x p1, .Name y p2] X.env).length = 2 := by rfl) (hst : (assignEach [.Name x p1, .Name y p2] X.env).findIdx? (·.1) = none := by rfl)
    (hs : (assignEach [.Name x p1, .Name y p2] X.env).map (·.2) = assign (.Name x p1) X.env :: (assignEach [.Name y p2] X.env).map (·.2) := by rfl) (hs2 : (assignEach [.Name y p2] X.env).map (·.2) = assign (.Name y p2) X.env :: (assignEach [] X.env).map (·.2) := by rfl) :
    GC X EX (.Tuple [.Name x p1, .Name y p2] k pos) (gC2 i j) :=
  PG.imp (pg_seq hc (pgs_cons (pg_name hN hi hx hf) (pgs_cons (pg_name hN hj hy hf2) pgs_nil hs2) hs) hn hst) fun v σ H Q ⟨G, δ, d, g, s, r, q⟩ => by
    cases r with
    | tup h r =>
      cases r with
      | nil => exact False.elim q
      | cons r1 r =>
        cases r with
        | nil => exact False.elim q
        | cons r2 r =>
          cases r with
          | nil => exact ⟨_, _, rfl, .inl (Same.tupS g h), rfl, _, _, rfl, _, _, rfl, rfl, two_c s r1 r2 q⟩
          | cons _ _ => exact False.elim q
    | lst h r =>
      cases r with
      | nil => exact False.elim q
      | cons r1 r =>
        cases r with
        | nil => exact False.elim q
        | cons r2 r =>
          cases r with
          | nil => exact ⟨_, _, rfl, .inr (g.seq h), rfl, _, _, rfl, _, _, rfl, rfl, two_c s r1 r2 q⟩
          | cons _ _ => exact False.elim q
    | _ => exact False.elim q
end
end L3

namespace L3
open PySem L2 Builtin Builtin.Str
/-! ### texts as lists of codes -/
theorem str_ext {x y : Str} (h : x.cps.toList = y.cps.toList) : x = y := by
  obtain ⟨a⟩ := x
  obtain ⟨b⟩ := y
  simp only at h
  have : a = b := by
    have := congrArg List.toArray h
    simpa using this
  rw [this]
theorem str_len (x : Str) : x.length = x.cps.toList.length := by simp [Str.length]
theorem str_app (x y : Str) : (x ++ y).cps.toList = x.cps.toList ++ y.cps.toList := by
  show (Str.append x y).cps.toList = _
  simp [Str.append]
theorem str_app_len (x y : Str) : (x ++ y).length = x.length + y.length := by
  rw [str_len, str_len, str_len, str_app, List.length_append]
def clipS (n : Nat) (d : Int) : Option Int → Int
  | none => d
  | some i => max 0 (min (if i < 0 then i + (n : Int) else i) (n : Int))
theorem clipS_eq (n d : Nat) (o : Option Int) : clipS n (d : Int) o = ((HT.sIx n d o : Nat) : Int) := by
  cases o with
  | none => rfl
  | some v =>
    show max 0 (min (if v < 0 then v + (n : Int) else v) (n : Int)) = (((if v < 0 then (v + (n : Int)).toNat else min v.toNat n) : Nat) : Int)
    by_cases hv : v < 0
    · simp only [if_pos hv]; omega
    · simp only [if_neg hv]; omega
theorem indices_eq (lo hi : Option Int) (n : Nat) : strSliceIndices lo hi 1 n = (List.range (HT.sIx n n hi - HT.sIx n 0 lo)).map (HT.sIx n 0 lo + ·) := by
  have e : strSliceIndices lo hi 1 n = sliceRange (clipS n ((0 : Nat) : Int) lo) (clipS n (n : Int) hi) 1 := by
    unfold strSliceIndices
    simp only [show ((1 : Int) > 0) = True from by simp, if_true]
    cases lo <;> cases hi <;> rfl
  rw [e, clipS_eq, clipS_eq, sliceRange_one]
theorem slice_list (x : Str) (lo hi : Option Int) : (Txt.slice x lo hi).cps.toList = cutL x.cps.toList lo hi := by
  unfold Txt.slice cutL
  rw [indices_eq]
  have hl : x.cps.toList.length = x.length := (str_len x).symm
  rw [hl]
  have p := pick_run x.cps (HT.sIx x.length 0 lo) (HT.sIx x.length x.length hi - HT.sIx x.length 0 lo)
  split
  · rename_i h
    have h' : ((List.range (HT.sIx x.length x.length hi - HT.sIx x.length 0 lo)).map (HT.sIx x.length 0 lo + ·)).length = x.length := by
      simpa using h
    rw [List.length_map, List.length_range] at h'
    have h3 := HT.sIx_le x.length x.length (Nat.le_refl _) hi
    have h4 := HT.sIx_le x.length 0 (Nat.zero_le _) lo
    have e0 : HT.sIx x.length 0 lo = 0 := by omega
    rw [h', e0, List.drop_zero, List.take_of_length_le (by omega)]
  · rw [p]
theorem count_one (x : Str) (c : Nat) : Txt.count x ⟨#[c]⟩ = ((x.cps.toList.count c : Nat) : Int) := by
  unfold Txt.count
  rw [StrLaws.occ_eq]
  have one : ∀ i, i < x.length → (subAt x ⟨#[c]⟩ i = true ↔ x.cps.toList[i]? = some c) := by
    intro i hi
    unfold subAt
    have hi' : i < x.cps.size := hi
    have e : x.cps.extract i (i + Str.length ⟨#[c]⟩) = #[x.cps[i]] := by
      apply Array.ext
      · simp [Str.length]; omega
      · intro j h1 h2
        simp [Str.length] at h1 h2 ⊢
        have : j = 0 := by omega
        subst this
        rfl
    rw [e]
    simp [hi']
  have all : ∀ (m k : Nat) (st : Array Nat × Nat), k + m = x.length + 1 → st.2 ≤ k → st.1.size ≤ k →
      (forIn (List.range' k m) st (StrLaws.occBody x ⟨#[c]⟩ x.length (x.length + 1))).run.fst.size = st.1.size + (x.cps.toList.drop k).count c := by
    intro m
    induction m with
    | zero =>
      intro k st e h1 h2
      have : x.cps.toList.drop k = [] := List.drop_eq_nil_of_le (by rw [← str_len]; omega)
      rw [this]
      simp
    | succ m ih =>
      intro k st e h1 h2
      rw [List.range'_succ, List.forIn_cons]
      unfold StrLaws.occBody
      by_cases hk : k < x.length
      · obtain ⟨d, d1, d2⟩ := drop_one (l := x.cps.toList) (i := k) (by rw [← str_len]; exact hk)
        rw [d2, List.count_cons]
        by_cases hc : d = c
        · subst hc
          have hs : subAt x ⟨#[d]⟩ k = true := (one k hk).mpr d1
          rw [if_pos ⟨⟨⟨by omega, h1⟩, by show k + 1 ≤ x.length; omega⟩, hs⟩]
          refine (ih (k + 1) (st.1.push k, k + 1) (by omega) (Nat.le_refl _) (by simp; omega)).trans ?_
          simp
          omega
        · have hs : ¬ subAt x ⟨#[c]⟩ k = true := fun z => by
            have := (one k hk).mp z
            rw [d1] at this
            exact hc (Option.some.inj this)
          rw [if_neg fun z => hs z.2]
          refine (ih (k + 1) (st.1, st.2) (by omega) (by show st.2 ≤ k + 1; omega) (by show st.1.size ≤ k + 1; omega)).trans ?_
          simp [hc]
      · rw [if_neg fun z => by have := z.1.2; have e2 : (Str.length ⟨#[c]⟩ : Nat) = 1 := rfl; omega]
        refine (ih (k + 1) (st.1, st.2) (by omega) (by show st.2 ≤ k + 1; omega) (by show st.1.size ≤ k + 1; omega)).trans ?_
        rw [List.drop_eq_nil_of_le (by rw [← str_len]; omega), List.drop_eq_nil_of_le (by rw [← str_len]; omega)]
  have := all (x.length + 1) 0 (#[], 0) (by omega) (Nat.le_refl _) (Nat.le_refl _)
  rw [Array.length_toList]
  refine congrArg (fun n : Nat => (n : Int)) ?_
  simpa using this
end L3

namespace L3
open PySem L2
/-! ### reckoning with data -/
theorem eqD_int (i j : Int) : eqD (.int i) (.int j) = .ok (.sh (.bl (decide (i = j)))) := by
  have h : eqvD (.int i) (.int j) = decide (i = j) := by
    show (i == j) = decide (i = j)
    rw [Bool.beq_eq_decide_eq]
  show (if eqC (.int i) (.int j) = true then R.ok (W.sh (D.bl (eqvD (.int i) (.int j)))) else .no) = _
  rw [if_pos (by rfl), h]
theorem neD_int (i j : Int) : neD (.int i) (.int j) = .ok (.sh (.bl (!decide (i = j)))) := by
  have h : eqvD (.int i) (.int j) = decide (i = j) := by
    show (i == j) = decide (i = j)
    rw [Bool.beq_eq_decide_eq]
  show (if eqC (.int i) (.int j) = true then R.ok (W.sh (D.bl (!eqvD (.int i) (.int j)))) else .no) = _
  rw [if_pos (by rfl), h]
theorem eqD_str (x y : Str) : eqD (.str x) (.str y) = .ok (.sh (.bl (decide (x = y)))) := rfl
theorem neD_str (x y : Str) : neD (.str x) (.str y) = .ok (.sh (.bl (!decide (x = y)))) := rfl
theorem mulC_l {i j : Int} (h1 : -18446744073709551616 < i) (h2 : i < 18446744073709551616) : mulC i j = true := decide_eq_true (.inl (by omega))
theorem mulC_r {i j : Int} (h1 : -18446744073709551616 < j) (h2 : j < 18446744073709551616) : mulC i j = true := decide_eq_true (.inr (by omega))
theorem mul_ok {i j : Int} (h : mulC i j = true) : mulI (.int i) (.int j) = .ok (.sh (.int (i * j))) := by unfold mulI intD; simp only [h, if_true]
theorem add_ok (i j : Int) : addD (.int i) (.int j) = .ok (.sh (.int (i + j))) := rfl
theorem sub_ok (i j : Int) : subD (.int i) (.int j) = .ok (.sh (.int (i - j))) := rfl
theorem div_ok {i j : Int} (h1 : 0 < j) (h2 : j < 1361129467683753853853498429727072845824) : divD (.int i) (.int j) = .ok (.sh (.int (i / j))) := by
  exact if_pos (show divC i j = true from decide_eq_true ⟨h1, by omega⟩)
theorem mod_ok {i j : Int} (h1 : 0 < j) : modD (.int i) (.int j) = .ok (.sh (.int (i % j))) := by
  exact if_pos (show modC i j = true from decide_eq_true h1)
theorem lt_ok (i j : Int) : ltD (.int i) (.int j) = .ok (.sh (.bl (decide (i < j)))) := rfl
theorem le_ok (i j : Int) : leD (.int i) (.int j) = .ok (.sh (.bl (decide (i ≤ j)))) := rfl
theorem gt_ok (i j : Int) : gtD (.int i) (.int j) = .ok (.sh (.bl (decide (j < i)))) := rfl
theorem ge_ok (i j : Int) : geD (.int i) (.int j) = .ok (.sh (.bl (decide (j ≤ i)))) := rfl
theorem cat_ok {x y : Str} (h : x.length + y.length ≤ 16777216) : addD (.str x) (.str y) = .ok (.sh (.str (x ++ y))) := if_pos h
theorem catL_ok {x y : List D} (h : x.length + y.length ≤ 16777216) : addD (.lst x) (.lst y) = .ok (.ow (.lst (x ++ y))) := if_pos h
theorem shl_ok {i j : Int} (h : powC i j = true) : shlD (.int i) (.int j) = .ok (.sh (.int (i * 2 ^ j.toNat))) := by unfold shlD intD; simp only [h, if_true]
theorem pow_ok {i j : Int} (h : powC i j = true) : powD (.int i) (.int j) = .ok (.sh (.int (i ^ j.toNat))) := by unfold powD intD; simp only [h, if_true]
theorem powC_ok1 {i j : Int} (h1 : 0 ≤ j) (h2 : j ≤ 1000000) (h3 : -18446744073709551616 < i) (h4 : i < 18446744073709551616) : powC i j = true := decide_eq_true ⟨h1, by omega, by omega⟩
theorem len_lst (ds : List D) : lenD [.lst ds] = .ok (.sh (.int ds.length)) := rfl
theorem len_tup (ds : List D) : lenD [.tup ds] = .ok (.sh (.int ds.length)) := rfl
theorem len_str3 {x : Str} (h : x.length ≤ 16777216) : lenD [.str x] = .ok (.sh (.int x.length)) := if_pos h
theorem max_ok (i j : Int) : maxD [.int i, .int j] = .ok (.sh (.int (max i j))) := by
  show R.ok (W.sh (D.int (if j > i then j else i))) = _
  rw [show (if j > i then j else i) = max i j by rw [Int.max_def]; split <;> split <;> omega]
theorem min_ok (i j : Int) : minD [.int i, .int j] = .ok (.sh (.int (min i j))) := by
  show R.ok (W.sh (D.int (if j < i then j else i))) = _
  rw [show (if j < i then j else i) = min i j by rw [Int.min_def]; split <;> split <;> omega]
theorem ix_lst {ds : List D} {i : Int} {d : D} (h : atI ds i = some d) : ixD (.lst ds) (.int i) = .ok (.sh d) := by unfold ixD; simp only [h]
theorem ix_tup3 {ds : List D} {i : Int} {d : D} (h : atI ds i = some d) : ixD (.tup ds) (.int i) = .ok (.sh d) := by unfold ixD; simp only [h]
theorem ix_str3 {x : Str} {i : Int} {c : Nat} (hz : x.length ≤ 16777216) (h : atI x.cps.toList i = some c) : ixD (.str x) (.int i) = .ok (.sh (.str ⟨#[c]⟩)) := by
  unfold ixD
  simp only [h, if_pos hz]
theorem atI_at {α : Type} {xs : List α} {i : Int} {x : α} (h0 : 0 ≤ i) (h : xs[i.toNat]? = some x) : atI xs i = some x := by
  have hl : i.toNat < xs.length := (List.getElem?_eq_some_iff.mp h).1
  unfold atI ixN
  rw [if_pos h0, if_pos (by omega)]
  exact h
/-- a loop over zints from lo on, by what holds ahead of each turn -/
theorem loop_ints (fg : FG) (g : FS) (I : Nat → SE → Prop) {n : Nat} {lo : Int} {Δ : SE} (h0 : I 0 Δ)
    (step : ∀ k Δ, k < n → I k Δ → ∃ Δ1, fg (.int (lo + (k : Int))) Δ = .ok Δ1 ∧ ∃ Δ2, (g Δ1 = .nx Δ2 ∨ g Δ1 = .ct Δ2) ∧ I (k + 1) Δ2) : ∃ Δ', sLoop fg g (zints lo n) Δ = .nx Δ' ∧ I n Δ' := by
  have all : ∀ (m k : Nat) (Δ : SE), k + m = n → I k Δ → ∃ Δ', sLoop fg g ((List.range' k m).map fun (j : Nat) => D.int (lo + (j : Int))) Δ = .nx Δ' ∧ I n Δ' := by
    intro m
    induction m with
    | zero => intro k Δ e h; exact ⟨Δ, rfl, by rw [← e]; exact h⟩
    | succ m ih =>
      intro k Δ e h
      obtain ⟨Δ1, e1, Δ2, e2, h2⟩ := step k Δ (by omega) h
      obtain ⟨Δ', e3, h3⟩ := ih (k + 1) Δ2 (by omega) h2
      refine ⟨Δ', ?_, h3⟩
      rw [List.range'_succ, List.map_cons]
      show (match fg (.int (lo + (k : Int))) Δ with
        | .ok Δ1 => (match g Δ1 with
          | .nx Δ2 => sLoop fg g _ Δ2
          | .ct Δ2 => sLoop fg g _ Δ2
          | .bk Δ2 => .nx Δ2
          | r => r)
        | .ex x => .ex x
        | .no => .no) = _
      rw [e1]
      rcases e2 with e2 | e2
      · simp only [e2]; exact e3
      · simp only [e2]; exact e3
  obtain ⟨Δ', e, h⟩ := all n 0 Δ (by omega) h0
  refine ⟨Δ', ?_, h⟩
  unfold zints
  rw [List.range_eq_range']
  exact e
/-- a loop over a list -/
theorem loop_list (fg : FG) (g : FS) (I : Nat → SE → Prop) {ds : List D} {Δ : SE} (h0 : I 0 Δ)
    (step : ∀ k d Δ, ds[k]? = some d → I k Δ → ∃ Δ1, fg d Δ = .ok Δ1 ∧ ∃ Δ2, (g Δ1 = .nx Δ2 ∨ g Δ1 = .ct Δ2) ∧ I (k + 1) Δ2) : ∃ Δ', sLoop fg g ds Δ = .nx Δ' ∧ I ds.length Δ' := by
  have all : ∀ (m k : Nat) (Δ : SE), k + m = ds.length → I k Δ → ∃ Δ', sLoop fg g (ds.drop k) Δ = .nx Δ' ∧ I ds.length Δ' := by
    intro m
    induction m with
    | zero =>
      intro k Δ e h
      rw [List.drop_eq_nil_of_le (by omega)]
      exact ⟨Δ, rfl, by rw [← e]; exact h⟩
    | succ m ih =>
      intro k Δ e h
      obtain ⟨d, d1, d2⟩ := drop_one (l := ds) (i := k) (by omega)
      obtain ⟨Δ1, e1, Δ2, e2, h2⟩ := step k d Δ d1 h
      obtain ⟨Δ', e3, h3⟩ := ih (k + 1) Δ2 (by omega) h2
      refine ⟨Δ', ?_, h3⟩
      rw [d2]
      show (match fg d Δ with
        | .ok Δ1 => (match g Δ1 with
          | .nx Δ2 => sLoop fg g (ds.drop (k + 1)) Δ2
          | .ct Δ2 => sLoop fg g (ds.drop (k + 1)) Δ2
          | .bk Δ2 => .nx Δ2
          | r => r)
        | .ex x => .ex x
        | .no => .no) = _
      rw [e1]
      rcases e2 with e2 | e2
      · simp only [e2]; exact e3
      · simp only [e2]; exact e3
  have := all ds.length 0 Δ (by omega) h0
  rwa [List.drop_zero] at this
/-- a comprehension over zints whose element is known -/
theorem comp_ints {fg : FGc} {p : FT} {f : FE} {δ : DE} {F : Int → D} : ∀ (n : Nat) (lo : Int), (∀ k : Nat, k < n → ∃ δ1 w, fg (.int (lo + (k : Int))) δ = .ok δ1 ∧ p δ1 = .ok true ∧ f δ1 = .ok w ∧ w.d = F (lo + (k : Int))) →
    compD fg p f δ (zints lo n) = .ok ((List.range n).map fun (k : Nat) => F (lo + (k : Int))) := by
  have all : ∀ (es : List Nat) (lo : Int), (∀ k ∈ es, ∃ δ1 w, fg (.int (lo + ((k : Nat) : Int))) δ = .ok δ1 ∧ p δ1 = .ok true ∧ f δ1 = .ok w ∧ w.d = F (lo + (k : Int))) →
      compD fg p f δ (es.map fun (k : Nat) => D.int (lo + (k : Int))) = .ok (es.map fun (k : Nat) => F (lo + (k : Int))) := by
    intro es lo
    induction es with
    | nil => intro _; rfl
    | cons k es ih =>
      intro h
      obtain ⟨δ1, w, e1, e2, e3, e4⟩ := h k List.mem_cons_self
      have e5 := ih fun j hj => h j (List.mem_cons_of_mem _ hj)
      rw [List.map_cons, List.map_cons]
      show ((fg (.int (lo + (k : Int))) δ).bind fun δ1 => (p δ1).bind fun b => if b = true then (f δ1).bind fun w => (compD fg p f δ _).bind fun rs => .ok (w.d :: rs) else compD fg p f δ _) = _
      rw [e1]
      simp only [R.bind_ok, e2, if_true, e3]
      rw [e5]
      simp only [R.bind_ok, e4]
  intro n lo h
  exact all (List.range n) lo fun k hk => h k (List.mem_range.mp hk)
end L3
namespace L3
open PySem L2
theorem rng1_ok {j : Int} (h1 : -4611686018427387903 ≤ j) (h2 : j < 4611686018427387904) : rng1 [.int j] = .ok (zints 0 j.toNat) := by
  have h : j.natAbs < 4611686018427387904 := by omega
  exact if_pos h
theorem rng2_ok {i j : Int} (h1 : -4611686018427387903 ≤ i) (h2 : i < 4611686018427387904) (h3 : -4611686018427387903 ≤ j) (h4 : j < 4611686018427387904) : rng2 [.int i, .int j] = .ok (zints i (j - i).toNat) := by
  have h : i.natAbs < 4611686018427387904 ∧ j.natAbs < 4611686018427387904 := ⟨by omega, by omega⟩
  exact if_pos h
theorem eComp_ok {m : Nat} {fi : FI} {fg : FGc} {p : FT} {f : FE} {δ : DE} {ds rs : List D} (h : fi δ = .ok ds) (hl : ds.length ≤ 16777216) (hc : compD fg p f (δ ++ List.replicate m none) ds = .ok rs) : eComp m fi fg p f δ = .ok (.ow (.lst rs)) := by
  unfold eComp
  rw [h]
  simp only [R.bind_ok]
  rw [if_pos hl, hc]
  rfl
/-- some ints come of it -/
theorem compZ {fg : FGc} {p : FT} {f : FE} {δ : DE} : ∀ (n : Nat) (lo : Int), (∀ k : Nat, k < n → ∃ δ1 z, fg (.int (lo + (k : Int))) δ = .ok δ1 ∧ p δ1 = .ok true ∧ f δ1 = .ok (.sh (.int z))) →
    ∃ cs : List Int, cs.length = n ∧ compD fg p f δ (zints lo n) = .ok (cs.map D.int) := by
  have all : ∀ (es : List Nat) (lo : Int), (∀ k ∈ es, ∃ δ1 z, fg (.int (lo + ((k : Nat) : Int))) δ = .ok δ1 ∧ p δ1 = .ok true ∧ f δ1 = .ok (.sh (.int z))) →
      ∃ cs : List Int, cs.length = es.length ∧ compD fg p f δ (es.map fun (k : Nat) => D.int (lo + (k : Int))) = .ok (cs.map D.int) := by
    intro es lo
    induction es with
    | nil => intro _; exact ⟨[], rfl, rfl⟩
    | cons k es ih =>
      intro h
      obtain ⟨δ1, z, e1, e2, e3⟩ := h k List.mem_cons_self
      obtain ⟨cs, l5, e5⟩ := ih fun j hj => h j (List.mem_cons_of_mem _ hj)
      refine ⟨z :: cs, by simp [l5], ?_⟩
      rw [List.map_cons, List.map_cons]
      show ((fg (.int (lo + (k : Int))) δ).bind fun δ1 => (p δ1).bind fun b => if b = true then (f δ1).bind fun w => (compD fg p f δ _).bind fun rs => .ok (w.d :: rs) else compD fg p f δ _) = _
      rw [e1]
      simp only [R.bind_ok, e2, if_true, e3]
      rw [e5]
      rfl
  intro n lo h
  obtain ⟨cs, l, e⟩ := all (List.range n) lo fun k hk => h k (List.mem_range.mp hk)
  exact ⟨cs, by rw [l, List.length_range], e⟩
end L3
namespace L3
open PySem L2
theorem while_go {p : FT} {g : FS} {n : Nat} {Δ Δ' : SE} (h1 : p (vall Δ) = .ok true) (h2 : g Δ = .nx Δ') : sWhile p g (n + 1) Δ = sWhile p g n Δ' := by
  show (match p (vall Δ) with
    | .ok b => if b = true then (match g Δ with
        | .nx Δ' => sWhile p g n Δ'
        | .ct Δ' => sWhile p g n Δ'
        | .bk Δ' => .nx Δ'
        | r => r) else .nx Δ
    | .ex x => .ex x
    | .no => .no) = _
  rw [h1]
  simp only [if_true, h2]
theorem while_end {p : FT} {g : FS} {n : Nat} {Δ : SE} (h1 : p (vall Δ) = .ok false) : sWhile p g (n + 1) Δ = .nx Δ := by
  show (match p (vall Δ) with
    | .ok b => if b = true then (match g Δ with
        | .nx Δ' => sWhile p g n Δ'
        | .ct Δ' => sWhile p g n Δ'
        | .bk Δ' => .nx Δ'
        | r => r) else .nx Δ
    | .ex x => .ex x
    | .no => .no) = _
  rw [h1]
  simp only [Bool.false_eq_true, if_false]
end L3
namespace L3
open PySem L2
theorem pub_sh (d : D) : Sl.pub (.sh d) = some d := rfl
theorem pub_ow (d : D) : Sl.pub (.ow d) = none := rfl
theorem pub_no : Sl.pub .no = none := rfl
theorem any_sh (d : D) : Sl.any (.sh d) = some d := rfl
theorem any_ow (d : D) : Sl.any (.ow d) = some d := rfl
theorem any_no : Sl.any .no = none := rfl
theorem give_sh (d : D) : Sl.give (.sh d) = .sh d := rfl
theorem give_ow (d : D) : Sl.give (.ow d) = .sh d := rfl
theorem give_no : Sl.give .no = .no := rfl
end L3

namespace L3
open PySem L2
theorem seq_nx {g h : FS} {Δ Δ' : SE} (e : g Δ = .nx Δ') : sSeq g h Δ = h Δ' := by unfold sSeq; rw [e]
theorem body_rt {n : Nat} {g : FS} {ds : List D} {w : W} (e : g (start3 n ds) = .rt w) : bodyD n g ds = .ok w := by unfold bodyD; rw [e]
/-- a comprehension, element by element; some left out -/
theorem comp_list {fg : FGc} {p : FT} {f : FE} {δ : DE} (P : D → Bool) (F : D → D) : ∀ (ds : List D), (∀ d ∈ ds, ∃ δ1, fg d δ = .ok δ1 ∧ p δ1 = .ok (P d) ∧ (P d = true → ∃ w, f δ1 = .ok w ∧ w.d = F d)) →
    compD fg p f δ ds = .ok ((ds.filter P).map F)
  | [], _ => rfl
  | d :: ds, h => by
    obtain ⟨δ1, e1, e2, e3⟩ := h d List.mem_cons_self
    have ih := comp_list P F ds fun x hx => h x (List.mem_cons_of_mem _ hx)
    show ((fg d δ).bind fun δ1 => (p δ1).bind fun b => if b = true then (f δ1).bind fun w => (compD fg p f δ ds).bind fun rs => .ok (w.d :: rs) else compD fg p f δ ds) = _
    rw [e1]
    simp only [R.bind_ok, e2]
    cases hP : P d with
    | true =>
      obtain ⟨w, e4, e5⟩ := e3 hP
      rw [if_pos rfl, e4, ih]
      simp only [R.bind_ok, e5, List.filter_cons_of_pos hP, List.map_cons]
    | false =>
      rw [if_neg Bool.false_ne_true, ih, List.filter_cons_of_neg (by rw [hP]; exact Bool.false_ne_true)]
theorem comp_map {fg : FGc} {f : FE} {δ : DE} (F : D → D) (ds : List D) (h : ∀ d ∈ ds, ∃ δ1 w, fg d δ = .ok δ1 ∧ f δ1 = .ok w ∧ w.d = F d) :
    compD fg (fun _ => .ok true) f δ ds = .ok (ds.map F) := by
  have := comp_list (fg := fg) (p := fun _ => .ok true) (f := f) (δ := δ) (fun _ => true) F ds fun d hd => by
    obtain ⟨δ1, w, e1, e2, e3⟩ := h d hd
    exact ⟨δ1, e1, rfl, fun _ => ⟨w, e2, e3⟩⟩
  rw [this, List.filter_eq_self.mpr fun _ _ => rfl]
theorem canInts : ∀ (ns : List Int), PyData.canLayAll0 (toPys (ns.map .int)) = true
  | [] => rfl
  | n :: ns => by
    show (PyData.canLay0 (.int n) && PyData.canLayAll0 (toPys (ns.map .int))) = true
    rw [canInts ns]; rfl
theorem depthInts : ∀ (ns : List Int), PyData.depthAll (toPys (ns.map .int)) ≤ 0
  | [] => Nat.le_refl _
  | n :: ns => by
    show max (PyData.depth (.int n)) (PyData.depthAll (toPys (ns.map .int))) ≤ 0
    exact Nat.max_le.mpr ⟨Nat.le_refl _, depthInts ns⟩
theorem eqC_ints (ns ms : List Int) : eqC (.lst (ns.map .int)) (.lst (ms.map .int)) = true := by
  unfold eqC
  rw [Bool.and_eq_true, Bool.and_eq_true]
  refine ⟨⟨canInts ns, canInts ms⟩, decide_eq_true ?_⟩
  show PyData.depthAll (toPys (ns.map .int)) + 1 ≤ 60
  have := depthInts ns
  omega
theorem eqvs_self : ∀ (ns : List Int), PyData.eqvAll (toPys (ns.map .int)) (toPys (ns.map .int)) = true
  | [] => rfl
  | n :: ns => by
    show (PyData.eqv (.int n) (.int n) && PyData.eqvAll (toPys (ns.map .int)) (toPys (ns.map .int))) = true
    rw [eqvs_self ns]
    simp [PyData.eqv]
end L3
namespace L3
open PySem L2
theorem slice_mid (x : Str) (a b : Nat) (h1 : a ≤ b) (h2 : b ≤ x.length) : (Txt.slice x (some (a : Int)) (some (b : Int))).cps.toList = (x.cps.toList.drop a).take (b - a) := by
  rw [slice_list]
  unfold cutL
  rw [← str_len]
  have e1 : HT.sIx x.length 0 (some (a : Int)) = a := by
    show (if (a : Int) < 0 then ((a : Int) + (x.length : Int)).toNat else min (a : Int).toNat x.length) = a
    rw [if_neg (by omega)]
    omega
  have e2 : HT.sIx x.length x.length (some (b : Int)) = b := by
    show (if (b : Int) < 0 then ((b : Int) + (x.length : Int)).toNat else min (b : Int).toNat x.length) = b
    rw [if_neg (by omega)]
    omega
  rw [e1, e2]
theorem loop_while {p : FT} {g : FS} (st : Nat → SE) {m fuel : Nat} (hf : m < fuel) (go : ∀ i, i < m → p (vall (st i)) = .ok true ∧ g (st i) = .nx (st (i + 1))) (stop : p (vall (st m)) = .ok false) : sWhile p g fuel (st 0) = .nx (st m) := by
  have all : ∀ (k i fuel : Nat), i + k = m → k < fuel → sWhile p g fuel (st i) = .nx (st m) := by
    intro k
    induction k with
    | zero =>
      intro i fuel e hf
      obtain ⟨f, rfl⟩ : ∃ f, fuel = f + 1 := ⟨fuel - 1, by omega⟩
      have : i = m := by omega
      subst this
      exact while_end stop
    | succ k ih =>
      intro i fuel e hf
      obtain ⟨f, rfl⟩ : ∃ f, fuel = f + 1 := ⟨fuel - 1, by omega⟩
      obtain ⟨h1, h2⟩ := go i (by omega)
      rw [while_go h1 h2]
      exact ih (i + 1) f (by omega) (by omega)
  exact all m 0 fuel (by omega) hf
theorem strsD_map {α : Type} (f : α → Str) : ∀ l : List α, strsD (l.map fun a => .str (f a)) = some (l.map f)
  | [] => rfl
  | a :: l => by
    show (strsD (l.map fun a => .str (f a))).map (f a :: ·) = _
    rw [strsD_map f l]
    rfl
theorem glue_fold : ∀ (l : List Str) (acc : Array Nat), (l.foldl (fun acc p => acc ++ (Str.ofString "").cps ++ p.cps) acc).toList = acc.toList ++ (l.map fun x => x.cps.toList).flatten
  | [], acc => by simp
  | x :: l, acc => by
    rw [List.foldl_cons, glue_fold l]
    have e : (Str.ofString "").cps = #[] := rfl
    simp [e]
/-- joined without anything between -/
theorem join_nil (l : List Str) : (Txt.join (Str.ofString "") l).cps.toList = (l.map fun x => x.cps.toList).flatten := by
  unfold Txt.join Builtin.Str.glued
  cases l with
  | nil => rfl
  | cons x l =>
    show (l.foldl (fun acc p => acc ++ (Str.ofString "").cps ++ p.cps) x.cps).toList = _
    rw [glue_fold]
    simp
theorem joinS_ok {α : Type} (f : α → Str) (l : List α) (h : ((l.map f).map (·.length)).sum ≤ 16777216) : joinS (.str "") [.lst (l.map fun a => .str (f a))] = .ok (.sh (.str (Txt.join (Str.ofString "") (l.map f)))) := by
  unfold joinS
  simp only [strsD_map]
  have e : Str.length (Str.ofString "") = 0 := rfl
  exact if_pos (by rw [e]; omega)
end L3
namespace L3
open PySem L2
theorem isT_int_non : isT "int" .non = some false := rfl
theorem isT_int_bl (b : Bool) : isT "int" (.bl b) = some true := rfl
theorem isT_int_int (i : Int) : isT "int" (.int i) = some true := rfl
theorem isT_int_str (x : Str) : isT "int" (.str x) = some false := rfl
theorem isT_int_lst (l : List D) : isT "int" (.lst l) = some false := rfl
theorem isT_int_tup (l : List D) : isT "int" (.tup l) = some false := rfl
theorem isT_bool_non : isT "bool" .non = some false := rfl
theorem isT_bool_bl (b : Bool) : isT "bool" (.bl b) = some true := rfl
theorem isT_bool_int (i : Int) : isT "bool" (.int i) = some false := rfl
theorem isT_bool_str (x : Str) : isT "bool" (.str x) = some false := rfl
theorem isT_bool_lst (l : List D) : isT "bool" (.lst l) = some false := rfl
theorem isT_bool_tup (l : List D) : isT "bool" (.tup l) = some false := rfl
theorem isT_str_non : isT "str" .non = some false := rfl
theorem isT_str_bl (b : Bool) : isT "str" (.bl b) = some false := rfl
theorem isT_str_int (i : Int) : isT "str" (.int i) = some false := rfl
theorem isT_str_str (x : Str) : isT "str" (.str x) = some true := rfl
theorem isT_str_lst (l : List D) : isT "str" (.lst l) = some false := rfl
theorem isT_str_tup (l : List D) : isT "str" (.tup l) = some false := rfl
theorem isT_list_non : isT "list" .non = some false := rfl
theorem isT_list_bl (b : Bool) : isT "list" (.bl b) = some false := rfl
theorem isT_list_int (i : Int) : isT "list" (.int i) = some false := rfl
theorem isT_list_str (x : Str) : isT "list" (.str x) = some false := rfl
theorem isT_list_lst (l : List D) : isT "list" (.lst l) = some true := rfl
theorem isT_list_tup (l : List D) : isT "list" (.tup l) = some false := rfl
theorem isT_tuple_non : isT "tuple" .non = some false := rfl
theorem isT_tuple_bl (b : Bool) : isT "tuple" (.bl b) = some false := rfl
theorem isT_tuple_int (i : Int) : isT "tuple" (.int i) = some false := rfl
theorem isT_tuple_str (x : Str) : isT "tuple" (.str x) = some false := rfl
theorem isT_tuple_lst (l : List D) : isT "tuple" (.lst l) = some false := rfl
theorem isT_tuple_tup (l : List D) : isT "tuple" (.tup l) = some true := rfl
end L3

namespace My
open PySem L2 L3
def g_law_raw : FS :=
    (sSeq (sIf (eTest (eOp ltD (eVar 1) (eCall lenD (aCons (eVar 0) aNil))))
      (sRet (eOp ixD (eVar 0) (eVar 1)))
      sNil)
    (sRet (eC (.int 0))))
def F_law_raw : List D → R W := bodyD 2 g_law_raw
def g_law_mix : FS :=
    (sSeq (sSet 2 [0, 1] (eOp modD (eOp mulI (eOp addD (eVar 0) (eC (.int 1))) (eOp addD (eC (.int 48271)) (eOp mulI (eC (.int 118)) (eVar 1)))) (eC (.int 2147483629))))
    (sRet (eOp modD (eOp addD (eOp addD (eOp mulI (eOp divD (eVar 2) (eC (.int 977))) (eC (.int 16807))) (eOp mulI (eVar 2) (eOp addD (eOp mulI (eVar 1) (eVar 1)) (eC (.int 7))))) (eVar 1)) (eC (.int 2147483587)))))
def F_law_mix : List D → R W := bodyD 3 g_law_mix
def g_law_cell : FS :=
    (sRet (eFn 2 F_law_mix (aCons (eOp modD (eFn 2 F_law_raw (aCons (eVar 0) (aCons (eVar 1) aNil))) (eC (.int 2147483647))) (aCons (eOp addD (eVar 1) (eC (.int 101))) aNil))))
def F_law_cell : List D → R W := bodyD 2 g_law_cell
def g_law_great : FS :=
    (sRet (eOp addD (eOp mulI (eOp addD (eOp mulI (eFn 2 F_law_mix (aCons (eVar 0) (aCons (eC (.int 1)) aNil))) (eC (.int 2147483587))) (eFn 2 F_law_mix (aCons (eVar 0) (aCons (eC (.int 2)) aNil)))) (eC (.int 2147483587))) (eFn 2 F_law_mix (aCons (eVar 0) (aCons (eC (.int 3)) aNil)))))
def F_law_great : List D → R W := bodyD 1 g_law_great
def e_law_cells_1 : FE :=
    (eFn 2 F_law_raw (aCons (eVar 0) (aCons (eOp addD (eVar 1) (eVar 5)) aNil)))
def e_law_cells_2 : FE :=
    (eFn 1 F_law_great (aCons (eFn 2 F_law_mix (aCons (eFn 2 F_law_cell (aCons (eVar 0) (aCons (eOp addD (eVar 1) (eOp modD (eVar 5) (eCall maxD (aCons (eC (.int 1)) (aCons (eVar 3) aNil))))) aNil))) (aCons (eVar 5) aNil))) aNil))
def g_law_cells : FS :=
    (sSeq (sSet 3 [0, 1] (eCall maxD (aCons (eC (.int 0)) (aCons (eOp subD (eCall lenD (aCons (eVar 0) aNil)) (eVar 1)) aNil))))
    (sSeq (sIf (eTest (eOp eqD (eOp modD (eFn 2 F_law_raw (aCons (eVar 0) (aCons (eC (.int 0)) aNil))) (eC (.int 2))) (eC (.int 0))))
      (sRet (eComp 1 (iArgs rng1 (aCons (eCall minD (aCons (eVar 2) (aCons (eVar 3) aNil))) aNil)) (gC 5) (fun _ => .ok true) e_law_cells_1))
      sNil)
    (sSeq (sSet 4 [0, 2, 3] (eCall minD (aCons (eVar 2) (aCons (eCall maxD (aCons (eVar 3) (aCons (eOp addD (eC (.int 1)) (eOp modD (eFn 2 F_law_cell (aCons (eVar 0) (aCons (eC (.int 0)) aNil))) (eVar 2))) aNil))) aNil))))
    (sRet (eComp 1 (iArgs rng1 (aCons (eVar 4) aNil)) (gC 5) (fun _ => .ok true) e_law_cells_2)))))
def F_law_cells : List D → R W := bodyD 5 g_law_cells
def g_law_three : FS :=
    (sSeq (sSet 2 [0, 1] (eOp modD (eOp ixD (eVar 0) (eOp mulI (eC (.int 3)) (eVar 1))) (eC (.int 2305843009213693951))))
    (sSeq (sSet 3 [0, 1] (eOp ixD (eVar 0) (eOp addD (eOp mulI (eC (.int 3)) (eVar 1)) (eC (.int 1)))))
    (sSeq (sSet 4 [0, 1] (eOp ixD (eVar 0) (eOp addD (eOp mulI (eC (.int 3)) (eVar 1)) (eC (.int 2)))))
    (sSeq (sSet 3 [3] (eOp modD (eOp divD (eVar 3) (eC (.int 4))) (eOp ixD (eLst (aCons (eC (.int 10)) (aCons (eC (.int 1000)) (aCons (eOp powD (eC (.int 10)) (eC (.int 9))) (aCons (eOp powD (eC (.int 10)) (eC (.int 18))) aNil))))) (eOp modD (eVar 3) (eC (.int 4))))))
    (sRet (eLst (aCons (eVar 2) (aCons (eVar 3) (aCons (eOp addD (eC (.int 1)) (eOp modD (eOp divD (eVar 4) (eC (.int 4))) (eOp ixD (eLst (aCons (eC (.int 10)) (aCons (eC (.int 1000)) (aCons (eOp powD (eC (.int 2)) (eC (.int 32))) (aCons (eOp powD (eC (.int 2)) (eC (.int 40))) aNil))))) (eOp modD (eVar 4) (eC (.int 4)))))) aNil)))))))))
def F_law_three : List D → R W := bodyD 5 g_law_three
def g_mixed : FS :=
    (sSeq (sIf (eTest (eOp eqD (eVar 2) (eC (.int 0))))
      (sRet (eC (.int 0)))
      sNil)
    (sSeq (sSet 3 [1] (eOp addD (eC (.int 1)) (eOp modD (eOp addD (eOp mulI (eC (.int 1103515245)) (eVar 1)) (eC (.int 12345))) (eOp subD (eC (.int 2305843009213693951)) (eC (.int 1))))))
    (sSeq (sSet 4 [1] (eOp modD (eOp addD (eOp mulI (eOp mulI (eC (.int 69069)) (eVar 1)) (eVar 1)) (eOp mulI (eC (.int 7)) (eVar 1))) (eC (.int 2305843009213693951))))
    (sSeq (sSet 5 [0, 3, 4] (eOp modD (eOp addD (eOp mulI (eVar 3) (eVar 0)) (eVar 4)) (eC (.int 2305843009213693951))))
    (sRet (eOp modD (eOp addD (eVar 5) (eOp divD (eVar 5) (eC (.int 2147483648)))) (eVar 2)))))))
def F_mixed : List D → R W := bodyD 6 g_mixed
def g_law_whole : FS :=
    (sRet (eAnd (eIs "int" (eVar 0)) (eNot (eIs "bool" (eVar 0)))))
def F_law_whole : List D → R W := bodyD 1 g_law_whole
def g_law_mixed : FS :=
    (sSeq (sSet 3 [] (eC (.int 2305843009213693951)))
    (sSeq (sSet 4 [1, 3] (eOp addD (eC (.int 1)) (eOp modD (eOp addD (eOp mulI (eC (.int 1103515245)) (eVar 1)) (eC (.int 12345))) (eOp subD (eVar 3) (eC (.int 1))))))
    (sSeq (sSet 5 [1, 3] (eOp modD (eOp addD (eOp mulI (eOp mulI (eC (.int 69069)) (eVar 1)) (eVar 1)) (eOp mulI (eC (.int 7)) (eVar 1))) (eVar 3)))
    (sSeq (sSet 6 [0, 3, 4, 5] (eOp modD (eOp addD (eOp mulI (eVar 4) (eVar 0)) (eVar 5)) (eVar 3)))
    (sRet (eOp modD (eOp addD (eVar 6) (eOp divD (eVar 6) (eC (.int 2147483648)))) (eVar 2)))))))
def F_law_mixed : List D → R W := bodyD 7 g_law_mixed
def b_law_key_1 : FS :=
    (sSeq (sSet 2 [2, 5] (eOp divD (eVar 2) (eOp ixD (eLst (aCons (eC (.int 12)) (aCons (eC (.int 39)) aNil))) (eCall intOf (aCons (eOp gtD (eVar 5) (eC (.int 0))) aNil)))))
    (sSet 3 [1, 2, 3] (eOp addD (eVar 3) (eOp ixD (eVar 1) (eOp modD (eVar 2) (eC (.int 39)))))))
def g_law_key : FS :=
    (sSeq (sSet 1 [] (eC (.str "abcdefghijklmnopqrstuvwxyz0123456789-_ ")))
    (sSeq (sSet 2 [0] (eOp divD (eVar 0) (eC (.int 3))))
    (sSeq (sIf (eTest (eOp eqD (eOp modD (eVar 0) (eC (.int 3))) (eC (.int 0))))
      (sRet (eOp modD (eVar 2) (eOp powD (eC (.int 10)) (eC (.int 18)))))
      sNil)
    (sSeq (sIf (eTest (eOp eqD (eOp modD (eVar 0) (eC (.int 3))) (eC (.int 2))))
      (sRet (eOp modD (eVar 2) (eC (.int 50))))
      sNil)
    (sSeq (sSet 3 [] (eC (.str "")))
    (sSeq (sSet 4 [2] (eOp modD (eVar 2) (eC (.int 12))))
    (sSeq (sFor [4] (iArgs rng1 (aCons (eVar 4) aNil)) (gV 5) b_law_key_1)
    (sRetV 3))))))))
def F_law_key : List D → R W := bodyD 6 g_law_key
def b_law_keys_1 : FS :=
    (sSeq (sSet 5 [4] (eFn 1 F_law_key (aCons (eVar 4) aNil)))
    (sIf (eTest (eOp (inD true) (eVar 5) (eVar 3)))
      (sApp 3 (eVar 5))
      sNil))
def g_law_keys : FS :=
    (sSeq (sSet 3 [] (eLst aNil))
    (sSeq (sFor [0, 1, 2] (iOf (eFn 3 F_law_cells (aCons (eVar 0) (aCons (eVar 1) (aCons (eVar 2) aNil))))) (gV 4) b_law_keys_1)
    (sSeq (sIf (eTest (eOp eqD (eVar 3) (eLst aNil)))
      (sSet 3 [0] (eLst (aCons (eFn 1 F_law_key (aCons (eOp divD (eFn 2 F_law_raw (aCons (eVar 0) (aCons (eC (.int 0)) aNil))) (eC (.int 2))) aNil)) aNil)))
      sNil)
    (sRetV 3))))
def F_law_keys : List D → R W := bodyD 6 g_law_keys
def b_two_to_1 : FS :=
    (sSet 1 [1] (eOp mulI (eVar 1) (eC (.int 2))))
def g_two_to : FS :=
    (sSeq (sSet 1 [] (eC (.int 1)))
    (sSeq (sFor [0] (iArgs rng1 (aCons (eVar 0) aNil)) (gV 2) b_two_to_1)
    (sRetV 1)))
def F_two_to : List D → R W := bodyD 3 g_two_to
def e_is_key_text_1 : FE :=
    (eOp (inD false) (eVar 1) (eC (.str "abcdefghijklmnopqrstuvwxyz0123456789-_ ")))
def g_is_key_text : FS :=
    (sRet (eAnd (eOp leD (eCall lenD (aCons (eVar 0) aNil)) (eC (.int 11))) (eCall allD (aCons (eComp 1 (iOf (eVar 0)) (gC 1) (fun _ => .ok true) e_is_key_text_1) aNil))))
def F_is_key_text : List D → R W := bodyD 1 g_is_key_text
def g_is_key : FS :=
    (sSeq (sIf (eTruth (eIs "bool" (eVar 0)))
      (sRet (eC (.bl false)))
      sNil)
    (sSeq (sIf (eTruth (eIs "int" (eVar 0)))
      (sRet (eChain leD leD (eC (.int 0)) (eVar 0) (eC (.int 999999999999999999))))
      sNil)
    (sRet (eAnd (eIs "str" (eVar 0)) (eFn 1 F_is_key_text (aCons (eVar 0) aNil))))))
def F_is_key : List D → R W := bodyD 1 g_is_key
def b_worth_1 : FS :=
    (sSet 1 [1, 2] (eOp addD (eOp addD (eOp mulI (eC (.int 40)) (eVar 1)) (eMeth "str" findS (eC (.str "abcdefghijklmnopqrstuvwxyz0123456789-_ ")) (aCons (eVar 2) aNil))) (eC (.int 1))))
def g_worth : FS :=
    (sSeq (sSet 1 [] (eC (.int 0)))
    (sSeq (sFor [0] (iOf (eVar 0)) (gV 2) b_worth_1)
    (sRetV 1)))
def F_worth : List D → R W := bodyD 3 g_worth
def g_stamp : FS :=
    (sSeq (sIf (tNotF (eTruth (eFn 1 F_is_key (aCons (eVar 0) aNil))))
      sNever
      sNil)
    (sSeq (sIf (eTruth (eIs "str" (eVar 0)))
      (sRet (eOp addD (eOp mulI (eC (.int 2)) (eFn 1 F_worth (aCons (eVar 0) aNil))) (eC (.int 1))))
      sNil)
    (sRet (eOp mulI (eC (.int 2)) (eVar 0)))))
def F_stamp : List D → R W := bodyD 1 g_stamp
def g_mark : FS :=
    (sRet (eFn 3 F_mixed (aCons (eFn 1 F_stamp (aCons (eVar 0) aNil)) (aCons (eC (.int 3)) (aCons (eFn 1 F_two_to (aCons (eVar 1) aNil)) aNil)))))
def F_mark : List D → R W := bodyD 2 g_mark
def b_law_stamp_1 : FS :=
    (sSet 1 [1, 2] (eOp addD (eOp addD (eOp mulI (eVar 1) (eC (.int 40))) (eMeth "str" indexS (eC (.str "abcdefghijklmnopqrstuvwxyz0123456789-_ ")) (aCons (eVar 2) aNil))) (eC (.int 1))))
def g_law_stamp : FS :=
    (sSeq (sIf (eTruth (eIs "int" (eVar 0)))
      (sRet (eOp mulI (eC (.int 2)) (eVar 0)))
      sNil)
    (sSeq (sSet 1 [] (eC (.int 0)))
    (sSeq (sFor [0] (iOf (eVar 0)) (gV 2) b_law_stamp_1)
    (sRet (eOp addD (eOp mulI (eC (.int 2)) (eVar 1)) (eC (.int 1)))))))
def F_law_stamp : List D → R W := bodyD 3 g_law_stamp
def b_law_width_1 : FS :=
    (sSet 2 [2] (eOp mulI (eC (.int 2)) (eVar 2)))
def g_law_width : FS :=
    (sSeq (sSet 2 [] (eC (.int 1)))
    (sSeq (sFor [1] (iArgs rng1 (aCons (eVar 1) aNil)) (gV 3) b_law_width_1)
    (sSeq (sSet 4 [0, 1] (eFn 2 F_mark (aCons (eVar 0) (aCons (eVar 1) aNil))))
    (sRet (eAnd (eFn 1 F_law_whole (aCons (eVar 4) aNil)) (eOp eqD (eVar 4) (eFn 3 F_law_mixed (aCons (eFn 1 F_law_stamp (aCons (eVar 0) aNil)) (aCons (eC (.int 3)) (aCons (eVar 2) aNil))))))))))
def F_law_width : List D → R W := bodyD 5 g_law_width
def e_law_1 : FE :=
    (eFn 2 F_law_three (aCons (eVar 1) (aCons (eVar 11) aNil)))
def b_law_1 : FS :=
    (sSeq (sSet 8 [5, 6, 7] (eFn 3 F_mixed (aCons (eVar 5) (aCons (eVar 6) (aCons (eVar 7) aNil)))))
    (sSeq (sIf (tOrF (tNotF (eTruth (eFn 1 F_law_whole (aCons (eVar 8) aNil)))) (eTest (eOp neD (eVar 8) (eFn 3 F_law_mixed (aCons (eVar 5) (aCons (eVar 6) (aCons (eVar 7) aNil)))))))
      (sRet (eC (.bl false)))
      sNil)
    (sApp 3 (eVar 8))))
def b_law_2 : FS :=
    (sIf (tNotF (eTruth (eFn 2 F_law_width (aCons (eVar 10) (aCons (eOp addD (eC (.int 1)) (eOp modD (eOp addD (eVar 9) (eFn 2 F_law_cell (aCons (eVar 0) (aCons (eC (.int 0)) aNil)))) (eC (.int 32)))) aNil)))))
      (sRet (eC (.bl false)))
      sNil)
def e_law_2 : FE :=
    (eFn 3 F_mixed (aCons (eVar 11) (aCons (eVar 12) (aCons (eVar 13) aNil))))
def q_law_1 : FS :=
    (sSet 1 [0] (eFn 3 F_law_cells (aCons (eVar 0) (aCons (eC (.int 1)) (aCons (eC (.int 60)) aNil)))))
def q_law_2 : FS :=
    (sSet 2 [1] (eComp 1 (iArgs rng1 (aCons (eOp divD (eCall lenD (aCons (eVar 1) aNil)) (eC (.int 3))) aNil)) (gC 11) (fun _ => .ok true) e_law_1))
def q_law_3 : FS :=
    (sApp 2 (eLst (aCons (eFn 2 F_law_cell (aCons (eVar 0) (aCons (eC (.int 1)) aNil))) (aCons (eOp modD (eFn 2 F_law_cell (aCons (eVar 0) (aCons (eC (.int 2)) aNil))) (eC (.int 300))) (aCons (eOp addD (eC (.int 1)) (eOp modD (eFn 2 F_law_cell (aCons (eVar 0) (aCons (eC (.int 3)) aNil))) (eC (.int 70)))) aNil)))))
def q_law_4 : FS :=
    (sSet 3 [] (eLst aNil))
def q_law_5 : FS :=
    (sFor [2] (iOf (eVar 2)) (gV3 5 6 7) b_law_1)
def q_law_6 : FS :=
    (sSet 4 [0] (eFn 3 F_law_keys (aCons (eVar 0) (aCons (eC (.int 1)) (aCons (eC (.int 60)) aNil)))))
def q_law_7 : FS :=
    (sFor [4] (iEnum (eVar 4)) (gV2 9 10) b_law_2)
def q_law_8 : FS :=
    (sRet (eOp eqD (eComp 3 (iOf (eVar 2)) (gC3 11 12 13) (fun _ => .ok true) e_law_2) (eVar 3)))
def g_law : FS :=
    (sSeq q_law_1
    (sSeq q_law_2
    (sSeq q_law_3
    (sSeq q_law_4
    (sSeq q_law_5
    (sSeq q_law_6
    (sSeq q_law_7
    q_law_8)))))))
def F_law : List D → R W := bodyD 11 g_law
end My

namespace My
open PySem L2 L3
/-! ### the draws -/
def mixZ (c k : Int) : Int := ((c + 1) * (48271 + 118 * k) % 2147483629 / 977 * 16807 + (c + 1) * (48271 + 118 * k) % 2147483629 * (k * k + 7) + k) % 2147483587
theorem mix_eq (c k : Int) (h1 : -1000 ≤ k) (h2 : k ≤ 1000) : F_law_mix [.int c, .int k] = .ok (.sh (.int (mixZ c k))) := by
  have hk : -18446744073709551616 < k * k + 7 ∧ k * k + 7 < 18446744073709551616 := by
    have : k * k ≤ 1000 * 1000 := by
      rcases Int.le_total 0 k with h | h
      · exact Int.mul_le_mul h2 h2 h (by decide)
      · have : (-k) * (-k) ≤ 1000 * 1000 := Int.mul_le_mul (by omega) (by omega) (by omega) (by decide)
        rwa [Int.neg_mul_neg] at this
    have : 0 ≤ k * k := by
      rcases Int.le_total 0 k with h | h
      · exact Int.mul_nonneg h h
      · have := Int.mul_nonneg (a := -k) (b := -k) (by omega) (by omega)
        rwa [Int.neg_mul_neg] at this
    omega
  have m1 : mulC 118 k = true := mulC_l (by decide) (by decide)
  have m2 : mulC (c + 1) (48271 + 118 * k) = true := mulC_r (by omega) (by omega)
  have m3 : ∀ z : Int, mulC z 16807 = true := fun z => mulC_r (by decide) (by decide)
  have m4 : mulC k k = true := mulC_l (by omega) (by omega)
  have m5 : ∀ z : Int, mulC z (k * k + 7) = true := fun z => mulC_r hk.1 hk.2
  simp only [F_law_mix, g_law_mix, bodyD, start3, sSeq, sSet, gsome, give1, List.foldl_cons, List.foldl_nil, sRet, sRetV, sIf, sExpr, sNil, R.toRt, vsh, vall, L3.gall, pub_sh, pub_ow, pub_no, any_sh, any_ow, any_no, give_sh, give_ow, give_no, eOp, eVar, eC, eTest, eTruth, truthD, boolD, eCall, eFn, R.calm, aNil, aCons, eTup, eLst, eIf, eAnd, eOr, eNot, tAndF, tOrF, tNotF, eIs, isT_int_non, isT_int_bl, isT_int_int, isT_int_str, isT_int_lst, isT_int_tup, isT_bool_non, isT_bool_bl, isT_bool_int, isT_bool_str, isT_bool_lst, isT_bool_tup, isT_str_non, isT_str_bl, isT_str_int, isT_str_str, isT_str_lst, isT_str_tup, isT_list_non, isT_list_bl, isT_list_int, isT_list_str, isT_list_lst, isT_list_tup, isT_tuple_non, isT_tuple_bl, isT_tuple_int, isT_tuple_str, isT_tuple_lst, isT_tuple_tup, eSlice, oNone, oSome, intPart, eMeth, eMeth0, tyD, iArgs, iOf, itemsD, R.bind_ok, R.bind_no, R.bind_ex, W.d_sh, W.d_ow, List.map_cons, List.map_nil, List.cons_append, List.nil_append, List.append_nil, List.replicate_succ, List.replicate_zero, List.length_cons, List.length_nil, List.set_cons_zero, List.set_cons_succ, List.getElem?_cons_zero, List.getElem?_cons_succ, Nat.reduceAdd, Nat.reduceSub, Nat.reduceLeDiff, if_true, if_false, flatD, ↓reduceIte, Bool.false_eq_true, Bool.not_true, Bool.not_false, Bool.true_and, Bool.false_and, Nat.zero_add, decide_true, decide_false, reduceCtorEq, gC, gV, mul_ok m1, mul_ok m2, mul_ok (m3 _), mul_ok m4, mul_ok (m5 _), add_ok, div_ok (show (0 : Int) < 977 by decide) (by decide), mod_ok (show (0 : Int) < 2147483629 by decide), mod_ok (show (0 : Int) < 2147483587 by decide)]
  rfl
theorem raw_eq (ns : List Int) (k : Int) (h : 0 ≤ k) : F_law_raw [.lst (ns.map .int), .int k] = .ok (.sh (.int (ns.getD k.toNat 0))) := by
  simp only [F_law_raw, g_law_raw, bodyD, start3, sSeq, sSet, gsome, give1, List.foldl_cons, List.foldl_nil, sRet, sRetV, sIf, sExpr, sNil, R.toRt, vsh, vall, L3.gall, pub_sh, pub_ow, pub_no, any_sh, any_ow, any_no, give_sh, give_ow, give_no, eOp, eVar, eC, eTest, eTruth, truthD, boolD, eCall, eFn, R.calm, aNil, aCons, eTup, eLst, eIf, eAnd, eOr, eNot, tAndF, tOrF, tNotF, eIs, isT_int_non, isT_int_bl, isT_int_int, isT_int_str, isT_int_lst, isT_int_tup, isT_bool_non, isT_bool_bl, isT_bool_int, isT_bool_str, isT_bool_lst, isT_bool_tup, isT_str_non, isT_str_bl, isT_str_int, isT_str_str, isT_str_lst, isT_str_tup, isT_list_non, isT_list_bl, isT_list_int, isT_list_str, isT_list_lst, isT_list_tup, isT_tuple_non, isT_tuple_bl, isT_tuple_int, isT_tuple_str, isT_tuple_lst, isT_tuple_tup, eSlice, oNone, oSome, intPart, eMeth, eMeth0, tyD, iArgs, iOf, itemsD, R.bind_ok, R.bind_no, R.bind_ex, W.d_sh, W.d_ow, List.map_cons, List.map_nil, List.cons_append, List.nil_append, List.append_nil, List.replicate_succ, List.replicate_zero, List.length_cons, List.length_nil, List.set_cons_zero, List.set_cons_succ, List.getElem?_cons_zero, List.getElem?_cons_succ, Nat.reduceAdd, Nat.reduceSub, Nat.reduceLeDiff, if_true, if_false, flatD, ↓reduceIte, Bool.false_eq_true, Bool.not_true, Bool.not_false, Bool.true_and, Bool.false_and, Nat.zero_add, decide_true, decide_false, reduceCtorEq, gC, gV, len_lst, lt_ok, List.length_map]
  by_cases hk : k < (ns.length : Int)
  · have e : atI (ns.map D.int) k = some (.int (ns.getD k.toNat 0)) := by
      apply atI_at h
      rw [List.getElem?_map]
      have : k.toNat < ns.length := by omega
      simp [List.getD, this]
    simp only [hk, decide_true, if_true, ix_lst e, bodyD, start3, sSeq, sSet, gsome, give1, List.foldl_cons, List.foldl_nil, sRet, sRetV, sIf, sExpr, sNil, R.toRt, vsh, vall, L3.gall, pub_sh, pub_ow, pub_no, any_sh, any_ow, any_no, give_sh, give_ow, give_no, eOp, eVar, eC, eTest, eTruth, truthD, boolD, eCall, eFn, R.calm, aNil, aCons, eTup, eLst, eIf, eAnd, eOr, eNot, tAndF, tOrF, tNotF, eIs, isT_int_non, isT_int_bl, isT_int_int, isT_int_str, isT_int_lst, isT_int_tup, isT_bool_non, isT_bool_bl, isT_bool_int, isT_bool_str, isT_bool_lst, isT_bool_tup, isT_str_non, isT_str_bl, isT_str_int, isT_str_str, isT_str_lst, isT_str_tup, isT_list_non, isT_list_bl, isT_list_int, isT_list_str, isT_list_lst, isT_list_tup, isT_tuple_non, isT_tuple_bl, isT_tuple_int, isT_tuple_str, isT_tuple_lst, isT_tuple_tup, eSlice, oNone, oSome, intPart, eMeth, eMeth0, tyD, iArgs, iOf, itemsD, R.bind_ok, R.bind_no, R.bind_ex, W.d_sh, W.d_ow, List.map_cons, List.map_nil, List.cons_append, List.nil_append, List.append_nil, List.replicate_succ, List.replicate_zero, List.length_cons, List.length_nil, List.set_cons_zero, List.set_cons_succ, List.getElem?_cons_zero, List.getElem?_cons_succ, Nat.reduceAdd, Nat.reduceSub, Nat.reduceLeDiff, if_true, if_false, flatD, ↓reduceIte, Bool.false_eq_true, Bool.not_true, Bool.not_false, Bool.true_and, Bool.false_and, Nat.zero_add, decide_true, decide_false, reduceCtorEq, gC, gV]
  · simp only [hk, decide_false, bodyD, start3, sSeq, sSet, gsome, give1, List.foldl_cons, List.foldl_nil, sRet, sRetV, sIf, sExpr, sNil, R.toRt, vsh, vall, L3.gall, pub_sh, pub_ow, pub_no, any_sh, any_ow, any_no, give_sh, give_ow, give_no, eOp, eVar, eC, eTest, eTruth, truthD, boolD, eCall, eFn, R.calm, aNil, aCons, eTup, eLst, eIf, eAnd, eOr, eNot, tAndF, tOrF, tNotF, eIs, isT_int_non, isT_int_bl, isT_int_int, isT_int_str, isT_int_lst, isT_int_tup, isT_bool_non, isT_bool_bl, isT_bool_int, isT_bool_str, isT_bool_lst, isT_bool_tup, isT_str_non, isT_str_bl, isT_str_int, isT_str_str, isT_str_lst, isT_str_tup, isT_list_non, isT_list_bl, isT_list_int, isT_list_str, isT_list_lst, isT_list_tup, isT_tuple_non, isT_tuple_bl, isT_tuple_int, isT_tuple_str, isT_tuple_lst, isT_tuple_tup, eSlice, oNone, oSome, intPart, eMeth, eMeth0, tyD, iArgs, iOf, itemsD, R.bind_ok, R.bind_no, R.bind_ex, W.d_sh, W.d_ow, List.map_cons, List.map_nil, List.cons_append, List.nil_append, List.append_nil, List.replicate_succ, List.replicate_zero, List.length_cons, List.length_nil, List.set_cons_zero, List.set_cons_succ, List.getElem?_cons_zero, List.getElem?_cons_succ, Nat.reduceAdd, Nat.reduceSub, Nat.reduceLeDiff, if_true, if_false, flatD, ↓reduceIte, Bool.false_eq_true, Bool.not_true, Bool.not_false, Bool.true_and, Bool.false_and, Nat.zero_add, decide_true, decide_false, reduceCtorEq, gC, gV]
    have : ns.length ≤ k.toNat := by omega
    simp [List.getD, this]
theorem cell_eq (ns : List Int) (k : Int) (h : 0 ≤ k) (h2 : k ≤ 500) : ∃ z, F_law_cell [.lst (ns.map .int), .int k] = .ok (.sh (.int z)) := by
  refine ⟨mixZ (ns.getD k.toNat 0 % 2147483647) (k + 101), ?_⟩
  simp only [F_law_cell, g_law_cell, bodyD, start3, sSeq, sSet, gsome, give1, List.foldl_cons, List.foldl_nil, sRet, sRetV, sIf, sExpr, sNil, R.toRt, vsh, vall, L3.gall, pub_sh, pub_ow, pub_no, any_sh, any_ow, any_no, give_sh, give_ow, give_no, eOp, eVar, eC, eTest, eTruth, truthD, boolD, eCall, eFn, R.calm, aNil, aCons, eTup, eLst, eIf, eAnd, eOr, eNot, tAndF, tOrF, tNotF, eIs, isT_int_non, isT_int_bl, isT_int_int, isT_int_str, isT_int_lst, isT_int_tup, isT_bool_non, isT_bool_bl, isT_bool_int, isT_bool_str, isT_bool_lst, isT_bool_tup, isT_str_non, isT_str_bl, isT_str_int, isT_str_str, isT_str_lst, isT_str_tup, isT_list_non, isT_list_bl, isT_list_int, isT_list_str, isT_list_lst, isT_list_tup, isT_tuple_non, isT_tuple_bl, isT_tuple_int, isT_tuple_str, isT_tuple_lst, isT_tuple_tup, eSlice, oNone, oSome, intPart, eMeth, eMeth0, tyD, iArgs, iOf, itemsD, R.bind_ok, R.bind_no, R.bind_ex, W.d_sh, W.d_ow, List.map_cons, List.map_nil, List.cons_append, List.nil_append, List.append_nil, List.replicate_succ, List.replicate_zero, List.length_cons, List.length_nil, List.set_cons_zero, List.set_cons_succ, List.getElem?_cons_zero, List.getElem?_cons_succ, Nat.reduceAdd, Nat.reduceSub, Nat.reduceLeDiff, if_true, if_false, flatD, ↓reduceIte, Bool.false_eq_true, Bool.not_true, Bool.not_false, Bool.true_and, Bool.false_and, Nat.zero_add, decide_true, decide_false, reduceCtorEq, gC, gV, raw_eq ns k h, mod_ok (show (0 : Int) < 2147483647 by decide), add_ok, mix_eq _ (k + 101) (by omega) (by omega)]
theorem great_eq (c : Int) : ∃ z, F_law_great [.int c] = .ok (.sh (.int z)) := by
  have m : ∀ z : Int, mulC z 2147483587 = true := fun z => mulC_r (by decide) (by decide)
  refine ⟨(mixZ c 1 * 2147483587 + mixZ c 2) * 2147483587 + mixZ c 3, ?_⟩
  simp only [F_law_great, g_law_great, bodyD, start3, sSeq, sSet, gsome, give1, List.foldl_cons, List.foldl_nil, sRet, sRetV, sIf, sExpr, sNil, R.toRt, vsh, vall, L3.gall, pub_sh, pub_ow, pub_no, any_sh, any_ow, any_no, give_sh, give_ow, give_no, eOp, eVar, eC, eTest, eTruth, truthD, boolD, eCall, eFn, R.calm, aNil, aCons, eTup, eLst, eIf, eAnd, eOr, eNot, tAndF, tOrF, tNotF, eIs, isT_int_non, isT_int_bl, isT_int_int, isT_int_str, isT_int_lst, isT_int_tup, isT_bool_non, isT_bool_bl, isT_bool_int, isT_bool_str, isT_bool_lst, isT_bool_tup, isT_str_non, isT_str_bl, isT_str_int, isT_str_str, isT_str_lst, isT_str_tup, isT_list_non, isT_list_bl, isT_list_int, isT_list_str, isT_list_lst, isT_list_tup, isT_tuple_non, isT_tuple_bl, isT_tuple_int, isT_tuple_str, isT_tuple_lst, isT_tuple_tup, eSlice, oNone, oSome, intPart, eMeth, eMeth0, tyD, iArgs, iOf, itemsD, R.bind_ok, R.bind_no, R.bind_ex, W.d_sh, W.d_ow, List.map_cons, List.map_nil, List.cons_append, List.nil_append, List.append_nil, List.replicate_succ, List.replicate_zero, List.length_cons, List.length_nil, List.set_cons_zero, List.set_cons_succ, List.getElem?_cons_zero, List.getElem?_cons_succ, Nat.reduceAdd, Nat.reduceSub, Nat.reduceLeDiff, if_true, if_false, flatD, ↓reduceIte, Bool.false_eq_true, Bool.not_true, Bool.not_false, Bool.true_and, Bool.false_and, Nat.zero_add, decide_true, decide_false, reduceCtorEq, gC, gV, mix_eq c 1 (by decide) (by decide), mix_eq c 2 (by decide) (by decide), mix_eq c 3 (by decide) (by decide), mul_ok (m _), add_ok]
/-- the cells: some ints, at most m of them -/
theorem cells_eq (ns : List Int) (s m : Int) (hn : ns.length ≤ 63) (h0 : 0 ≤ s) (h1 : s ≤ 60) (h2 : 1 ≤ m) (h3 : m ≤ 200) :
    ∃ cs : List Int, (cs.length : Int) ≤ m ∧ F_law_cells [.lst (ns.map .int), .int s, .int m] = .ok (.ow (.lst (cs.map .int))) := by
  obtain ⟨z0, hz0⟩ := cell_eq ns 0 (by decide) (by decide)
  by_cases hp : ns.getD (0 : Int).toNat 0 % 2 = 0
  · obtain ⟨cs, hl, hc⟩ := compZ (fg := gC 5) (p := fun _ => .ok true) (f := eFn 2 F_law_raw (aCons (eVar 0) (aCons (eOp addD (eVar 1) (eVar 5)) aNil)))
      (δ := [some (.lst (ns.map .int)), some (.int s), some (.int m), some (.int (max 0 ((ns.length : Int) - s))), none, none]) (min m (max 0 ((ns.length : Int) - s))).toNat 0 (fun k hk =>
        ⟨[some (.lst (ns.map .int)), some (.int s), some (.int m), some (.int (max 0 ((ns.length : Int) - s))), none, some (.int (0 + (k : Int)))], _, rfl, rfl, by
          simp only [bodyD, start3, sSeq, sSet, gsome, give1, List.foldl_cons, List.foldl_nil, sRet, sRetV, sIf, sExpr, sNil, R.toRt, vsh, vall, L3.gall, pub_sh, pub_ow, pub_no, any_sh, any_ow, any_no, give_sh, give_ow, give_no, eOp, eVar, eC, eTest, eTruth, truthD, boolD, eCall, eFn, R.calm, aNil, aCons, eTup, eLst, eIf, eAnd, eOr, eNot, tAndF, tOrF, tNotF, eIs, isT_int_non, isT_int_bl, isT_int_int, isT_int_str, isT_int_lst, isT_int_tup, isT_bool_non, isT_bool_bl, isT_bool_int, isT_bool_str, isT_bool_lst, isT_bool_tup, isT_str_non, isT_str_bl, isT_str_int, isT_str_str, isT_str_lst, isT_str_tup, isT_list_non, isT_list_bl, isT_list_int, isT_list_str, isT_list_lst, isT_list_tup, isT_tuple_non, isT_tuple_bl, isT_tuple_int, isT_tuple_str, isT_tuple_lst, isT_tuple_tup, eSlice, oNone, oSome, intPart, eMeth, eMeth0, tyD, iArgs, iOf, itemsD, R.bind_ok, R.bind_no, R.bind_ex, W.d_sh, W.d_ow, List.map_cons, List.map_nil, List.cons_append, List.nil_append, List.append_nil, List.replicate_succ, List.replicate_zero, List.length_cons, List.length_nil, List.set_cons_zero, List.set_cons_succ, List.getElem?_cons_zero, List.getElem?_cons_succ, Nat.reduceAdd, Nat.reduceSub, Nat.reduceLeDiff, if_true, if_false, flatD, ↓reduceIte, Bool.false_eq_true, Bool.not_true, Bool.not_false, Bool.true_and, Bool.false_and, Nat.zero_add, decide_true, decide_false, reduceCtorEq, gC, gV, add_ok, raw_eq ns (s + (0 + (k : Int))) (by omega)]
          rfl⟩)
    refine ⟨cs, by rw [hl]; omega, ?_⟩
    have e1 := eComp_ok (m := 1) (fi := iArgs rng1 (aCons (eCall minD (aCons (eVar 2) (aCons (eVar 3) aNil))) aNil)) (fg := gC 5) (p := fun _ => .ok true) (f := eFn 2 F_law_raw (aCons (eVar 0) (aCons (eOp addD (eVar 1) (eVar 5)) aNil)))
      (δ := [some (.lst (ns.map .int)), some (.int s), some (.int m), some (.int (max 0 ((ns.length : Int) - s))), none]) (ds := zints 0 (min m (max 0 ((ns.length : Int) - s))).toNat) (rs := cs.map .int) (by
        simp only [bodyD, start3, sSeq, sSet, gsome, give1, List.foldl_cons, List.foldl_nil, sRet, sRetV, sIf, sExpr, sNil, R.toRt, vsh, vall, L3.gall, pub_sh, pub_ow, pub_no, any_sh, any_ow, any_no, give_sh, give_ow, give_no, eOp, eVar, eC, eTest, eTruth, truthD, boolD, eCall, eFn, R.calm, aNil, aCons, eTup, eLst, eIf, eAnd, eOr, eNot, tAndF, tOrF, tNotF, eIs, isT_int_non, isT_int_bl, isT_int_int, isT_int_str, isT_int_lst, isT_int_tup, isT_bool_non, isT_bool_bl, isT_bool_int, isT_bool_str, isT_bool_lst, isT_bool_tup, isT_str_non, isT_str_bl, isT_str_int, isT_str_str, isT_str_lst, isT_str_tup, isT_list_non, isT_list_bl, isT_list_int, isT_list_str, isT_list_lst, isT_list_tup, isT_tuple_non, isT_tuple_bl, isT_tuple_int, isT_tuple_str, isT_tuple_lst, isT_tuple_tup, eSlice, oNone, oSome, intPart, eMeth, eMeth0, tyD, iArgs, iOf, itemsD, R.bind_ok, R.bind_no, R.bind_ex, W.d_sh, W.d_ow, List.map_cons, List.map_nil, List.cons_append, List.nil_append, List.append_nil, List.replicate_succ, List.replicate_zero, List.length_cons, List.length_nil, List.set_cons_zero, List.set_cons_succ, List.getElem?_cons_zero, List.getElem?_cons_succ, Nat.reduceAdd, Nat.reduceSub, Nat.reduceLeDiff, if_true, if_false, flatD, ↓reduceIte, Bool.false_eq_true, Bool.not_true, Bool.not_false, Bool.true_and, Bool.false_and, Nat.zero_add, decide_true, decide_false, reduceCtorEq, gC, gV, min_ok, rng1_ok (show -4611686018427387903 ≤ min m (max 0 ((ns.length : Int) - s)) by omega) (by omega)]) (by rw [zints_len]; omega) hc
    simp only [F_law_cells, g_law_cells, e_law_cells_1, e_law_cells_2, bodyD, start3, sSeq, sSet, gsome, give1, List.foldl_cons, List.foldl_nil, sRet, sRetV, sIf, sExpr, sNil, R.toRt, vsh, vall, L3.gall, pub_sh, pub_ow, pub_no, any_sh, any_ow, any_no, give_sh, give_ow, give_no, eOp, eVar, eC, eTest, eTruth, truthD, boolD, eCall, eFn, R.calm, aNil, aCons, eTup, eLst, eIf, eAnd, eOr, eNot, tAndF, tOrF, tNotF, eIs, isT_int_non, isT_int_bl, isT_int_int, isT_int_str, isT_int_lst, isT_int_tup, isT_bool_non, isT_bool_bl, isT_bool_int, isT_bool_str, isT_bool_lst, isT_bool_tup, isT_str_non, isT_str_bl, isT_str_int, isT_str_str, isT_str_lst, isT_str_tup, isT_list_non, isT_list_bl, isT_list_int, isT_list_str, isT_list_lst, isT_list_tup, isT_tuple_non, isT_tuple_bl, isT_tuple_int, isT_tuple_str, isT_tuple_lst, isT_tuple_tup, eSlice, oNone, oSome, intPart, eMeth, eMeth0, tyD, iArgs, iOf, itemsD, R.bind_ok, R.bind_no, R.bind_ex, W.d_sh, W.d_ow, List.map_cons, List.map_nil, List.cons_append, List.nil_append, List.append_nil, List.replicate_succ, List.replicate_zero, List.length_cons, List.length_nil, List.set_cons_zero, List.set_cons_succ, List.getElem?_cons_zero, List.getElem?_cons_succ, Nat.reduceAdd, Nat.reduceSub, Nat.reduceLeDiff, if_true, if_false, flatD, ↓reduceIte, Bool.false_eq_true, Bool.not_true, Bool.not_false, Bool.true_and, Bool.false_and, Nat.zero_add, decide_true, decide_false, reduceCtorEq, gC, gV, len_lst, List.length_map, sub_ok, max_ok, raw_eq ns 0 (by decide), mod_ok (show (0 : Int) < 2 by decide), eqD_int, hp, e1]
  · have hmm := fun k : Int => Int.emod_nonneg k (show m ≠ 0 by omega)
    have hml := fun k : Int => Int.emod_lt_of_pos k (show 0 < m by omega)
    have cellk : ∀ k : Nat, ∃ z, F_law_cell [.lst (ns.map .int), .int (s + (0 + (k : Int)) % max 1 (max 0 ((ns.length : Int) - s)))] = .ok (.sh (.int z)) := fun k => by
      have b1 := Int.emod_nonneg (0 + (k : Int)) (show max 1 (max 0 ((ns.length : Int) - s)) ≠ 0 by omega)
      have b2 := Int.emod_lt_of_pos (0 + (k : Int)) (show 0 < max 1 (max 0 ((ns.length : Int) - s)) by omega)
      exact cell_eq ns _ (by omega) (by omega)
    have b0 := hmm z0
    have b1 := hml z0
    obtain ⟨cs, hl, hc⟩ := compZ (fg := gC 5) (p := fun _ => .ok true) (f := eFn 1 F_law_great (aCons (eFn 2 F_law_mix (aCons (eFn 2 F_law_cell (aCons (eVar 0) (aCons (eOp addD (eVar 1) (eOp modD (eVar 5) (eCall maxD (aCons (eC (.int 1)) (aCons (eVar 3) aNil))))) aNil))) (aCons (eVar 5) aNil))) aNil))
      (δ := [some (.lst (ns.map .int)), some (.int s), some (.int m), some (.int (max 0 ((ns.length : Int) - s))), some (.int (min m (max (max 0 ((ns.length : Int) - s)) (1 + z0 % m)))), none]) (min m (max (max 0 ((ns.length : Int) - s)) (1 + z0 % m))).toNat 0 (fun k hk => by
        obtain ⟨zc, hzc⟩ := cellk k
        obtain ⟨zg, hzg⟩ := great_eq (mixZ zc (0 + (k : Int)))
        refine ⟨[some (.lst (ns.map .int)), some (.int s), some (.int m), some (.int (max 0 ((ns.length : Int) - s))), some (.int (min m (max (max 0 ((ns.length : Int) - s)) (1 + z0 % m)))), some (.int (0 + (k : Int)))], zg, rfl, rfl, ?_⟩
        simp only [bodyD, start3, sSeq, sSet, gsome, give1, List.foldl_cons, List.foldl_nil, sRet, sRetV, sIf, sExpr, sNil, R.toRt, vsh, vall, L3.gall, pub_sh, pub_ow, pub_no, any_sh, any_ow, any_no, give_sh, give_ow, give_no, eOp, eVar, eC, eTest, eTruth, truthD, boolD, eCall, eFn, R.calm, aNil, aCons, eTup, eLst, eIf, eAnd, eOr, eNot, tAndF, tOrF, tNotF, eIs, isT_int_non, isT_int_bl, isT_int_int, isT_int_str, isT_int_lst, isT_int_tup, isT_bool_non, isT_bool_bl, isT_bool_int, isT_bool_str, isT_bool_lst, isT_bool_tup, isT_str_non, isT_str_bl, isT_str_int, isT_str_str, isT_str_lst, isT_str_tup, isT_list_non, isT_list_bl, isT_list_int, isT_list_str, isT_list_lst, isT_list_tup, isT_tuple_non, isT_tuple_bl, isT_tuple_int, isT_tuple_str, isT_tuple_lst, isT_tuple_tup, eSlice, oNone, oSome, intPart, eMeth, eMeth0, tyD, iArgs, iOf, itemsD, R.bind_ok, R.bind_no, R.bind_ex, W.d_sh, W.d_ow, List.map_cons, List.map_nil, List.cons_append, List.nil_append, List.append_nil, List.replicate_succ, List.replicate_zero, List.length_cons, List.length_nil, List.set_cons_zero, List.set_cons_succ, List.getElem?_cons_zero, List.getElem?_cons_succ, Nat.reduceAdd, Nat.reduceSub, Nat.reduceLeDiff, if_true, if_false, flatD, ↓reduceIte, Bool.false_eq_true, Bool.not_true, Bool.not_false, Bool.true_and, Bool.false_and, Nat.zero_add, decide_true, decide_false, reduceCtorEq, gC, gV, add_ok, max_ok, mod_ok (show 0 < max 1 (max 0 ((ns.length : Int) - s)) by omega), hzc, mix_eq zc (0 + (k : Int)) (by omega) (by omega), hzg])
    refine ⟨cs, by rw [hl]; omega, ?_⟩
    have e1 := eComp_ok (m := 1) (fi := iArgs rng1 (aCons (eVar 4) aNil)) (fg := gC 5) (p := fun _ => .ok true) (f := eFn 1 F_law_great (aCons (eFn 2 F_law_mix (aCons (eFn 2 F_law_cell (aCons (eVar 0) (aCons (eOp addD (eVar 1) (eOp modD (eVar 5) (eCall maxD (aCons (eC (.int 1)) (aCons (eVar 3) aNil))))) aNil))) (aCons (eVar 5) aNil))) aNil))
      (δ := [some (.lst (ns.map .int)), some (.int s), some (.int m), some (.int (max 0 ((ns.length : Int) - s))), some (.int (min m (max (max 0 ((ns.length : Int) - s)) (1 + z0 % m))))]) (ds := zints 0 (min m (max (max 0 ((ns.length : Int) - s)) (1 + z0 % m))).toNat) (rs := cs.map .int) (by
        simp only [bodyD, start3, sSeq, sSet, gsome, give1, List.foldl_cons, List.foldl_nil, sRet, sRetV, sIf, sExpr, sNil, R.toRt, vsh, vall, L3.gall, pub_sh, pub_ow, pub_no, any_sh, any_ow, any_no, give_sh, give_ow, give_no, eOp, eVar, eC, eTest, eTruth, truthD, boolD, eCall, eFn, R.calm, aNil, aCons, eTup, eLst, eIf, eAnd, eOr, eNot, tAndF, tOrF, tNotF, eIs, isT_int_non, isT_int_bl, isT_int_int, isT_int_str, isT_int_lst, isT_int_tup, isT_bool_non, isT_bool_bl, isT_bool_int, isT_bool_str, isT_bool_lst, isT_bool_tup, isT_str_non, isT_str_bl, isT_str_int, isT_str_str, isT_str_lst, isT_str_tup, isT_list_non, isT_list_bl, isT_list_int, isT_list_str, isT_list_lst, isT_list_tup, isT_tuple_non, isT_tuple_bl, isT_tuple_int, isT_tuple_str, isT_tuple_lst, isT_tuple_tup, eSlice, oNone, oSome, intPart, eMeth, eMeth0, tyD, iArgs, iOf, itemsD, R.bind_ok, R.bind_no, R.bind_ex, W.d_sh, W.d_ow, List.map_cons, List.map_nil, List.cons_append, List.nil_append, List.append_nil, List.replicate_succ, List.replicate_zero, List.length_cons, List.length_nil, List.set_cons_zero, List.set_cons_succ, List.getElem?_cons_zero, List.getElem?_cons_succ, Nat.reduceAdd, Nat.reduceSub, Nat.reduceLeDiff, if_true, if_false, flatD, ↓reduceIte, Bool.false_eq_true, Bool.not_true, Bool.not_false, Bool.true_and, Bool.false_and, Nat.zero_add, decide_true, decide_false, reduceCtorEq, gC, gV, rng1_ok (show -4611686018427387903 ≤ min m (max (max 0 ((ns.length : Int) - s)) (1 + z0 % m)) by omega) (by omega)]) (by rw [zints_len]; omega) hc
    simp only [F_law_cells, g_law_cells, e_law_cells_1, e_law_cells_2, bodyD, start3, sSeq, sSet, gsome, give1, List.foldl_cons, List.foldl_nil, sRet, sRetV, sIf, sExpr, sNil, R.toRt, vsh, vall, L3.gall, pub_sh, pub_ow, pub_no, any_sh, any_ow, any_no, give_sh, give_ow, give_no, eOp, eVar, eC, eTest, eTruth, truthD, boolD, eCall, eFn, R.calm, aNil, aCons, eTup, eLst, eIf, eAnd, eOr, eNot, tAndF, tOrF, tNotF, eIs, isT_int_non, isT_int_bl, isT_int_int, isT_int_str, isT_int_lst, isT_int_tup, isT_bool_non, isT_bool_bl, isT_bool_int, isT_bool_str, isT_bool_lst, isT_bool_tup, isT_str_non, isT_str_bl, isT_str_int, isT_str_str, isT_str_lst, isT_str_tup, isT_list_non, isT_list_bl, isT_list_int, isT_list_str, isT_list_lst, isT_list_tup, isT_tuple_non, isT_tuple_bl, isT_tuple_int, isT_tuple_str, isT_tuple_lst, isT_tuple_tup, eSlice, oNone, oSome, intPart, eMeth, eMeth0, tyD, iArgs, iOf, itemsD, R.bind_ok, R.bind_no, R.bind_ex, W.d_sh, W.d_ow, List.map_cons, List.map_nil, List.cons_append, List.nil_append, List.append_nil, List.replicate_succ, List.replicate_zero, List.length_cons, List.length_nil, List.set_cons_zero, List.set_cons_succ, List.getElem?_cons_zero, List.getElem?_cons_succ, Nat.reduceAdd, Nat.reduceSub, Nat.reduceLeDiff, if_true, if_false, flatD, ↓reduceIte, Bool.false_eq_true, Bool.not_true, Bool.not_false, Bool.true_and, Bool.false_and, Nat.zero_add, decide_true, decide_false, reduceCtorEq, gC, gV, len_lst, List.length_map, sub_ok, max_ok, min_ok, add_ok, raw_eq ns 0 (by decide), mod_ok (show (0 : Int) < 2 by decide), mod_ok (show (0 : Int) < m by omega), eqD_int, hp, hz0, e1]
end My

namespace My
open PySem L2 L3
theorem seq_nx {g h : FS} {Δ Δ' : SE} (e : g Δ = .nx Δ') : sSeq g h Δ = h Δ' := by unfold sSeq; rw [e]
/-! ### bits -/
/-- writing: the lowest bit goes ahead of what is there -/
def wr : Nat → Int → List Nat → List Nat
  | 0, _, acc => acc
  | j + 1, r, acc => wr j (r / 2) ((48 + (r % 2).toNat) :: acc)
def rd (bs : List Nat) (a : Int) : Int := bs.foldl (fun a c => 2 * a + (if c = 49 then 1 else 0)) a
def bit (c : Nat) : Prop := c = 48 ∨ c = 49
theorem wr_len : ∀ (w : Nat) (n : Int) (acc : List Nat), (wr w n acc).length = w + acc.length
  | 0, _, acc => by simp [wr]
  | w + 1, n, acc => by rw [wr, wr_len w]; simp; omega
theorem wr_bit : ∀ (w : Nat) (n : Int) (acc : List Nat), (∀ c ∈ acc, bit c) → ∀ c ∈ wr w n acc, bit c
  | 0, _, acc, h => h
  | w + 1, n, acc, h => wr_bit w (n / 2) _ fun c hc => by
    rcases List.mem_cons.mp hc with rfl | hc
    · have : n % 2 = 0 ∨ n % 2 = 1 := by omega
      rcases this with e | e <;> rw [e]
      · exact .inl rfl
      · exact .inr rfl
    · exact h c hc
theorem wr_app : ∀ (w : Nat) (n : Int) (acc : List Nat), wr w n acc = wr w n [] ++ acc
  | 0, _, acc => rfl
  | w + 1, n, acc => by
    show wr w (n / 2) ((48 + (n % 2).toNat) :: acc) = wr w (n / 2) [48 + (n % 2).toNat] ++ acc
    rw [wr_app w (n / 2) ((48 + (n % 2).toNat) :: acc), wr_app w (n / 2) [48 + (n % 2).toNat], List.append_assoc]
    rfl
theorem rd_app (a b : List Nat) (z : Int) : rd (a ++ b) z = rd b (rd a z) := by unfold rd; rw [List.foldl_append]
theorem rd_wr : ∀ (w : Nat) (n : Int) (acc : List Nat) (a : Int), rd (wr w n acc) a = rd acc (a * 2 ^ w + n % 2 ^ w)
  | 0, n, acc, a => by
    show rd acc a = rd acc (a * 1 + n % 1)
    rw [Int.mul_one, Int.emod_one, Int.add_zero]
  | w + 1, n, acc, a => by
    rw [wr, rd_wr w]
    show rd acc (2 * (a * 2 ^ w + n / 2 % 2 ^ w) + (if 48 + (n % 2).toNat = 49 then 1 else 0)) = _
    have e : (if 48 + (n % 2).toNat = 49 then (1 : Int) else 0) = n % 2 := by split <;> omega
    have p : n % 2 ^ (w + 1) = 2 * (n / 2 % 2 ^ w) + n % 2 := by
      have pos : (0 : Int) < 2 ^ w := Int.pow_pos (by decide)
      have e1 : (2 : Int) ^ (w + 1) = 2 * 2 ^ w := by rw [Int.pow_succ]; omega
      rw [e1]
      have h1 := Int.mul_ediv_add_emod n 2
      have h2 := Int.mul_ediv_add_emod (n / 2) (2 ^ w)
      have h3 := Int.emod_nonneg (n / 2) (show (2 : Int) ^ w ≠ 0 by omega)
      have h4 := Int.emod_lt_of_pos (n / 2) pos
      have key : n = (2 * (n / 2 % 2 ^ w) + n % 2) + (2 * 2 ^ w) * (n / 2 / 2 ^ w) := by
        have : (2 * 2 ^ w : Int) * (n / 2 / 2 ^ w) = 2 * (2 ^ w * (n / 2 / 2 ^ w)) := by rw [Int.mul_assoc]
        omega
      have h5 : (2 * (n / 2 % 2 ^ w) + n % 2) % (2 * 2 ^ w) = 2 * (n / 2 % 2 ^ w) + n % 2 := Int.emod_eq_of_lt (by omega) (by omega)
      conv => lhs; rw [key]
      rw [Int.add_mul_emod_self_left, h5]
    have q : a * 2 ^ (w + 1) = 2 * (a * 2 ^ w) := by rw [Int.pow_succ, ← Int.mul_assoc, Int.mul_comm]
    rw [e, p, q]
    congr 1
    omega
theorem rd_wr0 (w : Nat) (n : Int) (h0 : 0 ≤ n) (h1 : n < 2 ^ w) : rd (wr w n []) 0 = n := by
  rw [rd_wr, Int.zero_mul, Int.zero_add, Int.emod_eq_of_lt h0 h1]
  rfl
theorem rd_bounds : ∀ (c : List Nat) (a : Int), 0 ≤ a → 0 ≤ rd c a ∧ rd c a < (a + 1) * 2 ^ c.length
  | [], a, h => by
    show 0 ≤ a ∧ a < (a + 1) * 1
    omega
  | b :: c, a, h => by
    have ih := rd_bounds c (2 * a + (if b = 49 then 1 else 0)) (by split <;> omega)
    show 0 ≤ rd c (2 * a + (if b = 49 then 1 else 0)) ∧ rd c (2 * a + (if b = 49 then 1 else 0)) < (a + 1) * 2 ^ (c.length + 1)
    refine ⟨ih.1, Int.lt_of_lt_of_le ih.2 ?_⟩
    rw [Int.pow_succ, Int.mul_comm (2 ^ c.length) 2, ← Int.mul_assoc]
    exact Int.mul_le_mul_of_nonneg_right (by split <;> omega) (Int.le_of_lt (Int.pow_pos (by decide)))
theorem wr_rd : ∀ (c acc : List Nat), (∀ x ∈ c, bit x) → wr c.length (rd c 0) acc = c ++ acc := by
  intro c
  induction hn : c.length generalizing c with
  | zero => intro acc _; have : c = [] := List.length_eq_zero_iff.mp hn; subst this; rfl
  | succ n ih =>
    intro acc h
    obtain ⟨c', b, rfl⟩ : ∃ c' b, c = c' ++ [b] := ⟨c.dropLast, c.getLast (by intro z; subst z; simp at hn), (List.dropLast_concat_getLast _).symm⟩
    have hl : c'.length = n := by simpa using hn
    rw [rd_app]
    show wr (n + 1) (2 * rd c' 0 + (if b = 49 then 1 else 0)) acc = _
    have hb : bit b := h b (by simp)
    have e1 : (2 * rd c' 0 + (if b = 49 then (1 : Int) else 0)) / 2 = rd c' 0 := by split <;> omega
    have e2 : 48 + ((2 * rd c' 0 + (if b = 49 then (1 : Int) else 0)) % 2).toNat = b := by
      rcases hb with rfl | rfl
      · simp only [show ¬ (48 : Nat) = 49 by decide, if_false]; omega
      · simp only [if_true]; omega
    rw [wr, e1, e2, ih c' hl (b :: acc) fun x hx => h x (by simp [hx])]
    simp
def mkS (l : List Nat) : Str := ⟨l.toArray⟩
theorem mkS_list (l : List Nat) : (mkS l).cps.toList = l := by simp [mkS]
theorem mkS_len (l : List Nat) : (mkS l).length = l.length := by rw [str_len, mkS_list]
theorem mkS_app (a b : List Nat) : mkS a ++ mkS b = mkS (a ++ b) := str_ext (by rw [str_app, mkS_list, mkS_list, mkS_list])
theorem mkS_of (x : Str) : mkS x.cps.toList = x := str_ext (mkS_list _)
end My

namespace My
open PySem L2 L3
/-! ### keys -/
def sgL : List Nat := [97, 98, 99, 100, 101, 102, 103, 104, 105, 106, 107, 108, 109, 110, 111, 112, 113, 114, 115, 116, 117, 118, 119, 120, 121, 122, 48, 49, 50, 51, 52, 53, 54, 55, 56, 57, 45, 95, 32]
theorem sg_list : (Str.ofString "abcdefghijklmnopqrstuvwxyz0123456789-_ ").cps.toList = sgL := by decide +kernel
def isKey (d : D) : Prop := (∃ n : Int, d = .int n ∧ 0 ≤ n ∧ n ≤ 999999999999999999) ∨ (∃ l : List Nat, d = .str (mkS l) ∧ l.length ≤ 11 ∧ ∀ c ∈ l, c ∈ sgL)
theorem isKey.flat {d : D} (h : isKey d) : flatD d = true := by
  rcases h with ⟨n, rfl, _⟩ | ⟨l, rfl, _⟩ <;> rfl
theorem ix_sg (r : Int) : ∃ c ∈ sgL, ixD (.str "abcdefghijklmnopqrstuvwxyz0123456789-_ ") (.int (r % 39)) = .ok (.sh (.str (mkS [c]))) := by
  have h0 := Int.emod_nonneg r (show (39 : Int) ≠ 0 by decide)
  have h1 := Int.emod_lt_of_pos r (show (0 : Int) < 39 by decide)
  have hl : (r % 39).toNat < sgL.length := by show (r % 39).toNat < 39; omega
  refine ⟨sgL[(r % 39).toNat], List.getElem_mem hl, ix_str3 (by decide +kernel) ?_⟩
  rw [sg_list]
  exact atI_at h0 (List.getElem?_eq_getElem hl)
theorem key_eq (z : Int) : ∃ d, isKey d ∧ F_law_key [.int z] = .ok (.sh d) := by
  have d3 := div_ok (i := z) (show (0 : Int) < 3 by decide) (by decide)
  have m3 := mod_ok (i := z) (show (0 : Int) < 3 by decide)
  have p18 := pow_ok (powC_ok1 (i := 10) (j := 18) (by decide) (by decide) (by decide) (by decide))
  have e18 : (10 : Int) ^ (18 : Int).toNat = 1000000000000000000 := by decide
  rw [e18] at p18
  have : z % 3 = 0 ∨ z % 3 = 2 ∨ z % 3 = 1 := by omega
  rcases this with h | h | h
  · refine ⟨.int (z / 3 % 1000000000000000000), .inl ⟨_, rfl, by omega, by omega⟩, ?_⟩
    simp only [F_law_key, g_law_key, bodyD, start3, sSeq, sSet, gsome, give1, List.foldl_cons, List.foldl_nil, sRet, sRetV, sIf, sExpr, sNil, R.toRt, vsh, vall, L3.gall, pub_sh, pub_ow, pub_no, any_sh, any_ow, any_no, give_sh, give_ow, give_no, eOp, eVar, eC, eTest, eTruth, truthD, boolD, eCall, eFn, R.calm, aNil, aCons, eTup, eLst, eIf, eAnd, eOr, eNot, tAndF, tOrF, tNotF, eIs, isT_int_non, isT_int_bl, isT_int_int, isT_int_str, isT_int_lst, isT_int_tup, isT_bool_non, isT_bool_bl, isT_bool_int, isT_bool_str, isT_bool_lst, isT_bool_tup, isT_str_non, isT_str_bl, isT_str_int, isT_str_str, isT_str_lst, isT_str_tup, isT_list_non, isT_list_bl, isT_list_int, isT_list_str, isT_list_lst, isT_list_tup, isT_tuple_non, isT_tuple_bl, isT_tuple_int, isT_tuple_str, isT_tuple_lst, isT_tuple_tup, eSlice, oNone, oSome, intPart, eMeth, eMeth0, tyD, iArgs, iOf, itemsD, R.bind_ok, R.bind_no, R.bind_ex, W.d_sh, W.d_ow, List.map_cons, List.map_nil, List.cons_append, List.nil_append, List.append_nil, List.replicate_succ, List.replicate_zero, List.length_cons, List.length_nil, List.set_cons_zero, List.set_cons_succ, List.getElem?_cons_zero, List.getElem?_cons_succ, Nat.reduceAdd, Nat.reduceSub, Nat.reduceLeDiff, if_true, if_false, flatD, ↓reduceIte, Bool.false_eq_true, Bool.not_true, Bool.not_false, Bool.true_and, Bool.false_and, Nat.zero_add, decide_true, decide_false, reduceCtorEq, gC, gV, d3, m3, eqD_int, h, p18, mod_ok (show (0 : Int) < 1000000000000000000 by decide)]
  · refine ⟨.int (z / 3 % 50), .inl ⟨_, rfl, by omega, by omega⟩, ?_⟩
    have n0 : ¬ (2 : Int) = 0 := by decide
    simp only [F_law_key, g_law_key, bodyD, start3, sSeq, sSet, gsome, give1, List.foldl_cons, List.foldl_nil, sRet, sRetV, sIf, sExpr, sNil, R.toRt, vsh, vall, L3.gall, pub_sh, pub_ow, pub_no, any_sh, any_ow, any_no, give_sh, give_ow, give_no, eOp, eVar, eC, eTest, eTruth, truthD, boolD, eCall, eFn, R.calm, aNil, aCons, eTup, eLst, eIf, eAnd, eOr, eNot, tAndF, tOrF, tNotF, eIs, isT_int_non, isT_int_bl, isT_int_int, isT_int_str, isT_int_lst, isT_int_tup, isT_bool_non, isT_bool_bl, isT_bool_int, isT_bool_str, isT_bool_lst, isT_bool_tup, isT_str_non, isT_str_bl, isT_str_int, isT_str_str, isT_str_lst, isT_str_tup, isT_list_non, isT_list_bl, isT_list_int, isT_list_str, isT_list_lst, isT_list_tup, isT_tuple_non, isT_tuple_bl, isT_tuple_int, isT_tuple_str, isT_tuple_lst, isT_tuple_tup, eSlice, oNone, oSome, intPart, eMeth, eMeth0, tyD, iArgs, iOf, itemsD, R.bind_ok, R.bind_no, R.bind_ex, W.d_sh, W.d_ow, List.map_cons, List.map_nil, List.cons_append, List.nil_append, List.append_nil, List.replicate_succ, List.replicate_zero, List.length_cons, List.length_nil, List.set_cons_zero, List.set_cons_succ, List.getElem?_cons_zero, List.getElem?_cons_succ, Nat.reduceAdd, Nat.reduceSub, Nat.reduceLeDiff, if_true, if_false, flatD, ↓reduceIte, Bool.false_eq_true, Bool.not_true, Bool.not_false, Bool.true_and, Bool.false_and, Nat.zero_add, decide_true, decide_false, reduceCtorEq, gC, gV, d3, m3, eqD_int, h, n0, mod_ok (show (0 : Int) < 50 by decide)]
  · have n0 : ¬ (1 : Int) = 0 := by decide
    have n2 : ¬ (1 : Int) = 2 := by decide
    have b0 := Int.emod_nonneg (z / 3) (show (12 : Int) ≠ 0 by decide)
    have b1 := Int.emod_lt_of_pos (z / 3) (show (0 : Int) < 12 by decide)
    obtain ⟨Δ', e, l, r, a5, rfl, hl, hc⟩ := loop_ints (gV 5) b_law_key_1 (fun k Δ => ∃ (l : List Nat) (r : Int) (a5 : Sl), Δ = [.sh (.int z), .sh (.str "abcdefghijklmnopqrstuvwxyz0123456789-_ "), .sh (.int r), .sh (.str (mkS l)), .sh (.int (z / 3 % 12)), a5] ∧ l.length = k ∧ ∀ c ∈ l, c ∈ sgL)
      (n := (z / 3 % 12).toNat) (lo := 0) (Δ := [.sh (.int z), .sh (.str "abcdefghijklmnopqrstuvwxyz0123456789-_ "), .sh (.int (z / 3)), .sh (.str ""), .sh (.int (z / 3 % 12)), .no]) ⟨[], z / 3, .no, rfl, rfl, fun c hc => absurd hc (by simp)⟩ (fun k Δ hk hI => by
      obtain ⟨l, r, a5, rfl, hl, hc⟩ := hI
      obtain ⟨q, q0, q1, eq⟩ : ∃ q : Int, 0 < q ∧ q < 100 ∧ eOp ixD (eLst (aCons (eC (.int 12)) (aCons (eC (.int 39)) aNil))) (eCall intOf (aCons (eOp gtD (eVar 5) (eC (.int 0))) aNil)) [some (.int z), some (.str "abcdefghijklmnopqrstuvwxyz0123456789-_ "), some (.int r), some (.str (mkS l)), some (.int (z / 3 % 12)), some (.int (0 + (k : Int)))] = .ok (.sh (.int q)) := by
        by_cases hk0 : (0 : Int) < 0 + (k : Int)
        · refine ⟨39, by decide, by decide, ?_⟩
          simp only [bodyD, start3, sSeq, sSet, gsome, give1, List.foldl_cons, List.foldl_nil, sRet, sRetV, sIf, sExpr, sNil, R.toRt, vsh, vall, L3.gall, pub_sh, pub_ow, pub_no, any_sh, any_ow, any_no, give_sh, give_ow, give_no, eOp, eVar, eC, eTest, eTruth, truthD, boolD, eCall, eFn, R.calm, aNil, aCons, eTup, eLst, eIf, eAnd, eOr, eNot, tAndF, tOrF, tNotF, eIs, isT_int_non, isT_int_bl, isT_int_int, isT_int_str, isT_int_lst, isT_int_tup, isT_bool_non, isT_bool_bl, isT_bool_int, isT_bool_str, isT_bool_lst, isT_bool_tup, isT_str_non, isT_str_bl, isT_str_int, isT_str_str, isT_str_lst, isT_str_tup, isT_list_non, isT_list_bl, isT_list_int, isT_list_str, isT_list_lst, isT_list_tup, isT_tuple_non, isT_tuple_bl, isT_tuple_int, isT_tuple_str, isT_tuple_lst, isT_tuple_tup, eSlice, oNone, oSome, intPart, eMeth, eMeth0, tyD, iArgs, iOf, itemsD, R.bind_ok, R.bind_no, R.bind_ex, W.d_sh, W.d_ow, List.map_cons, List.map_nil, List.cons_append, List.nil_append, List.append_nil, List.replicate_succ, List.replicate_zero, List.length_cons, List.length_nil, List.set_cons_zero, List.set_cons_succ, List.getElem?_cons_zero, List.getElem?_cons_succ, Nat.reduceAdd, Nat.reduceSub, Nat.reduceLeDiff, if_true, if_false, flatD, ↓reduceIte, Bool.false_eq_true, Bool.not_true, Bool.not_false, Bool.true_and, Bool.false_and, Nat.zero_add, decide_true, decide_false, reduceCtorEq, gC, gV, gt_ok, hk0, intOf]
          rfl
        · refine ⟨12, by decide, by decide, ?_⟩
          simp only [bodyD, start3, sSeq, sSet, gsome, give1, List.foldl_cons, List.foldl_nil, sRet, sRetV, sIf, sExpr, sNil, R.toRt, vsh, vall, L3.gall, pub_sh, pub_ow, pub_no, any_sh, any_ow, any_no, give_sh, give_ow, give_no, eOp, eVar, eC, eTest, eTruth, truthD, boolD, eCall, eFn, R.calm, aNil, aCons, eTup, eLst, eIf, eAnd, eOr, eNot, tAndF, tOrF, tNotF, eIs, isT_int_non, isT_int_bl, isT_int_int, isT_int_str, isT_int_lst, isT_int_tup, isT_bool_non, isT_bool_bl, isT_bool_int, isT_bool_str, isT_bool_lst, isT_bool_tup, isT_str_non, isT_str_bl, isT_str_int, isT_str_str, isT_str_lst, isT_str_tup, isT_list_non, isT_list_bl, isT_list_int, isT_list_str, isT_list_lst, isT_list_tup, isT_tuple_non, isT_tuple_bl, isT_tuple_int, isT_tuple_str, isT_tuple_lst, isT_tuple_tup, eSlice, oNone, oSome, intPart, eMeth, eMeth0, tyD, iArgs, iOf, itemsD, R.bind_ok, R.bind_no, R.bind_ex, W.d_sh, W.d_ow, List.map_cons, List.map_nil, List.cons_append, List.nil_append, List.append_nil, List.replicate_succ, List.replicate_zero, List.length_cons, List.length_nil, List.set_cons_zero, List.set_cons_succ, List.getElem?_cons_zero, List.getElem?_cons_succ, Nat.reduceAdd, Nat.reduceSub, Nat.reduceLeDiff, if_true, if_false, flatD, ↓reduceIte, Bool.false_eq_true, Bool.not_true, Bool.not_false, Bool.true_and, Bool.false_and, Nat.zero_add, decide_true, decide_false, reduceCtorEq, gC, gV, gt_ok, hk0, intOf]
          rfl
      obtain ⟨c, hcs, ec⟩ := ix_sg (r / q)
      have hlen : (mkS l).length + (mkS [c]).length ≤ 16777216 := by rw [mkS_len, mkS_len]; simp; omega
      refine ⟨_, rfl, [.sh (.int z), .sh (.str "abcdefghijklmnopqrstuvwxyz0123456789-_ "), .sh (.int (r / q)), .sh (.str (mkS (l ++ [c]))), .sh (.int (z / 3 % 12)), .sh (.int (0 + (k : Int)))], .inl ?_, _, _, _, rfl, by simp [hl], ?_⟩
      · simp only [b_law_key_1]
        rw [seq_nx (Δ' := [.sh (.int z), .sh (.str "abcdefghijklmnopqrstuvwxyz0123456789-_ "), .sh (.int (r / q)), .sh (.str (mkS l)), .sh (.int (z / 3 % 12)), .sh (.int (0 + (k : Int)))])]
        · simp only [bodyD, start3, sSeq, sSet, gsome, give1, List.foldl_cons, List.foldl_nil, sRet, sRetV, sIf, sExpr, sNil, R.toRt, vsh, vall, L3.gall, pub_sh, pub_ow, pub_no, any_sh, any_ow, any_no, give_sh, give_ow, give_no, eOp, eVar, eC, eTest, eTruth, truthD, boolD, eCall, eFn, R.calm, aNil, aCons, eTup, eLst, eIf, eAnd, eOr, eNot, tAndF, tOrF, tNotF, eIs, isT_int_non, isT_int_bl, isT_int_int, isT_int_str, isT_int_lst, isT_int_tup, isT_bool_non, isT_bool_bl, isT_bool_int, isT_bool_str, isT_bool_lst, isT_bool_tup, isT_str_non, isT_str_bl, isT_str_int, isT_str_str, isT_str_lst, isT_str_tup, isT_list_non, isT_list_bl, isT_list_int, isT_list_str, isT_list_lst, isT_list_tup, isT_tuple_non, isT_tuple_bl, isT_tuple_int, isT_tuple_str, isT_tuple_lst, isT_tuple_tup, eSlice, oNone, oSome, intPart, eMeth, eMeth0, tyD, iArgs, iOf, itemsD, R.bind_ok, R.bind_no, R.bind_ex, W.d_sh, W.d_ow, List.map_cons, List.map_nil, List.cons_append, List.nil_append, List.append_nil, List.replicate_succ, List.replicate_zero, List.length_cons, List.length_nil, List.set_cons_zero, List.set_cons_succ, List.getElem?_cons_zero, List.getElem?_cons_succ, Nat.reduceAdd, Nat.reduceSub, Nat.reduceLeDiff, if_true, if_false, flatD, ↓reduceIte, Bool.false_eq_true, Bool.not_true, Bool.not_false, Bool.true_and, Bool.false_and, Nat.zero_add, decide_true, decide_false, reduceCtorEq, gC, gV, mod_ok (show (0 : Int) < 39 by decide), ec, cat_ok hlen, mkS_app]
        · have := eq
          unfold sSet
          simp only [vsh, List.map_cons, List.map_nil, pub_sh, List.set_cons_succ, List.set_cons_zero, gV] at this ⊢
          have e9 : eOp divD (eVar 2) (eOp ixD (eLst (aCons (eC (.int 12)) (aCons (eC (.int 39)) aNil))) (eCall intOf (aCons (eOp gtD (eVar 5) (eC (.int 0))) aNil))) [some (.int z), some (.str "abcdefghijklmnopqrstuvwxyz0123456789-_ "), some (.int r), some (.str (mkS l)), some (.int (z / 3 % 12)), some (.int (0 + (k : Int)))] = .ok (.sh (.int (r / q))) := by
            show ((eVar 2 _).bind fun a => (eOp ixD _ _ _).bind fun b => divD a.d b.d) = _
            rw [this]
            simp only [bodyD, start3, sSeq, sSet, gsome, give1, List.foldl_cons, List.foldl_nil, sRet, sRetV, sIf, sExpr, sNil, R.toRt, vsh, vall, L3.gall, pub_sh, pub_ow, pub_no, any_sh, any_ow, any_no, give_sh, give_ow, give_no, eOp, eVar, eC, eTest, eTruth, truthD, boolD, eCall, eFn, R.calm, aNil, aCons, eTup, eLst, eIf, eAnd, eOr, eNot, tAndF, tOrF, tNotF, eIs, isT_int_non, isT_int_bl, isT_int_int, isT_int_str, isT_int_lst, isT_int_tup, isT_bool_non, isT_bool_bl, isT_bool_int, isT_bool_str, isT_bool_lst, isT_bool_tup, isT_str_non, isT_str_bl, isT_str_int, isT_str_str, isT_str_lst, isT_str_tup, isT_list_non, isT_list_bl, isT_list_int, isT_list_str, isT_list_lst, isT_list_tup, isT_tuple_non, isT_tuple_bl, isT_tuple_int, isT_tuple_str, isT_tuple_lst, isT_tuple_tup, eSlice, oNone, oSome, intPart, eMeth, eMeth0, tyD, iArgs, iOf, itemsD, R.bind_ok, R.bind_no, R.bind_ex, W.d_sh, W.d_ow, List.map_cons, List.map_nil, List.cons_append, List.nil_append, List.append_nil, List.replicate_succ, List.replicate_zero, List.length_cons, List.length_nil, List.set_cons_zero, List.set_cons_succ, List.getElem?_cons_zero, List.getElem?_cons_succ, Nat.reduceAdd, Nat.reduceSub, Nat.reduceLeDiff, if_true, if_false, flatD, ↓reduceIte, Bool.false_eq_true, Bool.not_true, Bool.not_false, Bool.true_and, Bool.false_and, Nat.zero_add, decide_true, decide_false, reduceCtorEq, gC, gV, div_ok q0 (show q < 1361129467683753853853498429727072845824 by omega)]
          rw [e9]
      · intro d hd
        rcases List.mem_append.mp hd with hd | hd
        · exact hc d hd
        · have : d = c := by simpa using hd
          rw [this]; exact hcs)
    refine ⟨.str (mkS l), .inr ⟨l, rfl, by omega, hc⟩, ?_⟩
    simp only [F_law_key, g_law_key, bodyD, start3, sSeq, sSet, gsome, give1, List.foldl_cons, List.foldl_nil, sRet, sRetV, sIf, sExpr, sNil, R.toRt, vsh, vall, L3.gall, pub_sh, pub_ow, pub_no, any_sh, any_ow, any_no, give_sh, give_ow, give_no, eOp, eVar, eC, eTest, eTruth, truthD, boolD, eCall, eFn, R.calm, aNil, aCons, eTup, eLst, eIf, eAnd, eOr, eNot, tAndF, tOrF, tNotF, eIs, isT_int_non, isT_int_bl, isT_int_int, isT_int_str, isT_int_lst, isT_int_tup, isT_bool_non, isT_bool_bl, isT_bool_int, isT_bool_str, isT_bool_lst, isT_bool_tup, isT_str_non, isT_str_bl, isT_str_int, isT_str_str, isT_str_lst, isT_str_tup, isT_list_non, isT_list_bl, isT_list_int, isT_list_str, isT_list_lst, isT_list_tup, isT_tuple_non, isT_tuple_bl, isT_tuple_int, isT_tuple_str, isT_tuple_lst, isT_tuple_tup, eSlice, oNone, oSome, intPart, eMeth, eMeth0, tyD, iArgs, iOf, itemsD, R.bind_ok, R.bind_no, R.bind_ex, W.d_sh, W.d_ow, List.map_cons, List.map_nil, List.cons_append, List.nil_append, List.append_nil, List.replicate_succ, List.replicate_zero, List.length_cons, List.length_nil, List.set_cons_zero, List.set_cons_succ, List.getElem?_cons_zero, List.getElem?_cons_succ, Nat.reduceAdd, Nat.reduceSub, Nat.reduceLeDiff, if_true, if_false, flatD, ↓reduceIte, Bool.false_eq_true, Bool.not_true, Bool.not_false, Bool.true_and, Bool.false_and, Nat.zero_add, decide_true, decide_false, reduceCtorEq, gC, gV, d3, m3, eqD_int, h, n0, n2, mod_ok (show (0 : Int) < 12 by decide), sFor, rng1_ok (show -4611686018427387903 ≤ z / 3 % 12 by omega) (by omega), e]
/-! ### lists of keys -/
theorem eqF_iff {a b : D} (ha : isKey a) (hb : isKey b) : eqF a b = true ↔ a = b := by
  rcases ha with ⟨n, rfl, _⟩ | ⟨l, rfl, _⟩ <;> rcases hb with ⟨m, rfl, _⟩ | ⟨k, rfl, _⟩
  · show (n == m) = true ↔ _
    rw [beq_iff_eq]
    exact ⟨fun h => by rw [h], fun h => by injection h⟩
  · show false = true ↔ _
    exact ⟨fun h => (by cases h), fun h => (by cases h)⟩
  · show false = true ↔ _
    exact ⟨fun h => (by cases h), fun h => (by cases h)⟩
  · show (mkS l == mkS k) = true ↔ _
    rw [beq_iff_eq]
    exact ⟨fun h => by rw [h], fun h => by injection h⟩
theorem mem_iff {d : D} {ks : List D} (hd : isKey d) (hk : ∀ k ∈ ks, isKey k) : memD d ks = true ↔ d ∈ ks := by
  unfold memD
  rw [List.any_eq_true]
  constructor
  · rintro ⟨y, hy, h⟩
    rw [← (eqF_iff (hk y hy) hd).mp h]
    exact hy
  · intro h
    exact ⟨d, h, (eqF_iff hd hd).mpr rfl⟩
theorem flat_all {ks : List D} (hk : ∀ k ∈ ks, isKey k) : ks.all flatD = true := List.all_eq_true.mpr fun k h => (hk k h).flat
theorem notIn_eq {d : D} {ks : List D} (hd : isKey d) (hk : ∀ k ∈ ks, isKey k) : inD true d (.lst ks) = .ok (.sh (.bl (!memD d ks))) := by
  have h : (flatD d && ks.all flatD) = true := by rw [hd.flat, flat_all hk]; rfl
  rcases hd with ⟨n, rfl, _⟩ | ⟨l, rfl, _⟩
  · exact if_pos h
  · exact if_pos h
theorem key_can {d : D} (h : isKey d) : PyData.canLay0 (toPy d) = true ∧ PyData.depth (toPy d) = 0 := by
  rcases h with ⟨n, rfl, _⟩ | ⟨l, rfl, _, hc⟩
  · exact ⟨rfl, rfl⟩
  · refine ⟨?_, rfl⟩
    show (mkS l).cps.all (· < 0x110000) = true
    rw [← Array.all_toList, mkS_list, List.all_eq_true]
    intro c h
    have : c ∈ sgL := hc c h
    have : ∀ c ∈ sgL, c < 0x110000 := by decide
    exact decide_eq_true (this c (hc c h))
theorem keys_can : ∀ {ks : List D}, (∀ k ∈ ks, isKey k) → PyData.canLayAll0 (toPys ks) = true ∧ PyData.depthAll (toPys ks) = 0
  | [], _ => ⟨rfl, rfl⟩
  | k :: ks, h => by
    obtain ⟨a1, a2⟩ := key_can (h k List.mem_cons_self)
    obtain ⟨b1, b2⟩ := keys_can fun x hx => h x (List.mem_cons_of_mem _ hx)
    refine ⟨?_, ?_⟩
    · show (PyData.canLay0 (toPy k) && PyData.canLayAll0 (toPys ks)) = true
      rw [a1, b1]; rfl
    · show max (PyData.depth (toPy k)) (PyData.depthAll (toPys ks)) = 0
      rw [a2, b2]; rfl
theorem keys_eqC {ks js : List D} (hk : ∀ k ∈ ks, isKey k) (hj : ∀ k ∈ js, isKey k) : eqC (.lst ks) (.lst js) = true := by
  unfold eqC
  rw [Bool.and_eq_true, Bool.and_eq_true]
  refine ⟨⟨(keys_can hk).1, (keys_can hj).1⟩, decide_eq_true ?_⟩
  show PyData.depthAll (toPys ks) + 1 ≤ 60
  rw [(keys_can hk).2]
  decide
theorem key_eqv {a b : D} (ha : isKey a) (hb : isKey b) : PyData.eqv (toPy a) (toPy b) = true ↔ a = b := by
  rcases ha with ⟨n, rfl, _⟩ | ⟨l, rfl, _⟩ <;> rcases hb with ⟨m, rfl, _⟩ | ⟨k, rfl, _⟩
  · show (n == m) = true ↔ _
    rw [beq_iff_eq]
    exact ⟨fun h => by rw [h], fun h => by injection h⟩
  · show false = true ↔ _
    exact ⟨fun h => (by cases h), fun h => (by cases h)⟩
  · show false = true ↔ _
    exact ⟨fun h => (by cases h), fun h => (by cases h)⟩
  · show (mkS l == mkS k) = true ↔ _
    rw [beq_iff_eq]
    exact ⟨fun h => by rw [h], fun h => by injection h⟩
theorem keys_eqv : ∀ {ks js : List D}, (∀ k ∈ ks, isKey k) → (∀ k ∈ js, isKey k) → (PyData.eqvAll (toPys ks) (toPys js) = true ↔ ks = js)
  | [], [], _, _ => ⟨fun _ => rfl, fun _ => rfl⟩
  | [], _ :: _, _, _ => ⟨fun h => (by cases h), fun h => (by cases h)⟩
  | _ :: _, [], _, _ => ⟨fun h => (by cases h), fun h => (by cases h)⟩
  | k :: ks, j :: js, hk, hj => by
    show (PyData.eqv (toPy k) (toPy j) && PyData.eqvAll (toPys ks) (toPys js)) = true ↔ _
    rw [Bool.and_eq_true, key_eqv (hk k List.mem_cons_self) (hj j List.mem_cons_self), keys_eqv (fun x hx => hk x (List.mem_cons_of_mem _ hx)) (fun x hx => hj x (List.mem_cons_of_mem _ hx))]
    exact ⟨fun ⟨a, b⟩ => by rw [a, b], fun h => by injection h with a b; exact ⟨a, b⟩⟩
theorem eqD_lst (a b : List D) : eqD (.lst a) (.lst b) = if eqC (.lst a) (.lst b) = true then .ok (.sh (.bl (eqvD (.lst a) (.lst b)))) else .no := rfl
theorem neD_lst (a b : List D) : neD (.lst a) (.lst b) = if eqC (.lst a) (.lst b) = true then .ok (.sh (.bl (!eqvD (.lst a) (.lst b)))) else .no := rfl
theorem keys_eqD {ks js : List D} (hk : ∀ k ∈ ks, isKey k) (hj : ∀ k ∈ js, isKey k) : ∃ b : Bool, (b = true ↔ ks = js) ∧ eqD (.lst ks) (.lst js) = .ok (.sh (.bl b)) ∧ neD (.lst ks) (.lst js) = .ok (.sh (.bl (!b))) := by
  refine ⟨eqvD (.lst ks) (.lst js), keys_eqv hk hj, ?_, ?_⟩
  · rw [eqD_lst, if_pos (keys_eqC hk hj)]
  · rw [neD_lst, if_pos (keys_eqC hk hj)]
/-- the keys that a law draws -/
theorem keys_eq (ns : List Int) (s m : Int) (hn : ns.length ≤ 63) (h0 : 0 ≤ s) (h1 : s ≤ 60) (h2 : 1 ≤ m) (h3 : m ≤ 200) :
    ∃ ks : List D, ks ≠ [] ∧ (ks.length : Int) ≤ m ∧ (∀ k ∈ ks, isKey k) ∧ ks.Nodup ∧ F_law_keys [.lst (ns.map .int), .int s, .int m] = .ok (.ow (.lst ks)) := by
  obtain ⟨cs, hc, ec⟩ := cells_eq ns s m hn h0 h1 h2 h3
  obtain ⟨Δ', e, ks, a4, a5, rfl, hl, hk, hd⟩ := loop_list (gV 4) b_law_keys_1 (fun k Δ => ∃ (ks : List D) (a4 a5 : Sl), Δ = [.sh (.lst (ns.map .int)), .sh (.int s), .sh (.int m), .ow (.lst ks), a4, a5] ∧ ks.length ≤ k ∧ (∀ k ∈ ks, isKey k) ∧ ks.Nodup)
    (ds := cs.map .int) (Δ := [.sh (.lst (ns.map .int)), .sh (.int s), .sh (.int m), .ow (.lst []), .no, .no]) ⟨[], .no, .no, rfl, Nat.le_refl _, fun k hk => absurd hk (by simp), List.nodup_nil⟩ (fun k d Δ hk hI => by
    obtain ⟨ks, a4, a5, rfl, hl, hks, hd⟩ := hI
    rw [List.getElem?_map] at hk
    cases q : cs[k]? with
    | none => rw [q] at hk; cases hk
    | some c =>
      rw [q] at hk
      cases hk
      have hkl : k < cs.length := (List.getElem?_eq_some_iff.mp q).1
      obtain ⟨d, hdk, ed⟩ := key_eq c
      have hl2 : ks.length < 16777216 := by omega
      have hni := notIn_eq hdk hks
      cases hm : memD d ks with
      | true =>
        refine ⟨_, rfl, [.sh (.lst (ns.map .int)), .sh (.int s), .sh (.int m), .ow (.lst ks), .sh (.int c), .sh d], .inl ?_, ks, _, _, rfl, by omega, hks, hd⟩
        rw [hm] at hni
        simp only [b_law_keys_1, bodyD, start3, sSeq, sSet, gsome, give1, List.foldl_cons, List.foldl_nil, sRet, sRetV, sIf, sExpr, sNil, R.toRt, vsh, vall, L3.gall, pub_sh, pub_ow, pub_no, any_sh, any_ow, any_no, give_sh, give_ow, give_no, eOp, eVar, eC, eTest, eTruth, truthD, boolD, eCall, eFn, R.calm, aNil, aCons, eTup, eLst, eIf, eAnd, eOr, eNot, tAndF, tOrF, tNotF, eIs, isT_int_non, isT_int_bl, isT_int_int, isT_int_str, isT_int_lst, isT_int_tup, isT_bool_non, isT_bool_bl, isT_bool_int, isT_bool_str, isT_bool_lst, isT_bool_tup, isT_str_non, isT_str_bl, isT_str_int, isT_str_str, isT_str_lst, isT_str_tup, isT_list_non, isT_list_bl, isT_list_int, isT_list_str, isT_list_lst, isT_list_tup, isT_tuple_non, isT_tuple_bl, isT_tuple_int, isT_tuple_str, isT_tuple_lst, isT_tuple_tup, eSlice, oNone, oSome, intPart, eMeth, eMeth0, tyD, iArgs, iOf, itemsD, R.bind_ok, R.bind_no, R.bind_ex, W.d_sh, W.d_ow, List.map_cons, List.map_nil, List.cons_append, List.nil_append, List.append_nil, List.replicate_succ, List.replicate_zero, List.length_cons, List.length_nil, List.set_cons_zero, List.set_cons_succ, List.getElem?_cons_zero, List.getElem?_cons_succ, Nat.reduceAdd, Nat.reduceSub, Nat.reduceLeDiff, if_true, if_false, flatD, ↓reduceIte, Bool.false_eq_true, Bool.not_true, Bool.not_false, Bool.true_and, Bool.false_and, Nat.zero_add, decide_true, decide_false, reduceCtorEq, gC, gV, ed, hni]
      | false =>
        refine ⟨_, rfl, [.sh (.lst (ns.map .int)), .sh (.int s), .sh (.int m), .ow (.lst (ks ++ [d])), .sh (.int c), .sh d], .inl ?_, ks ++ [d], _, _, rfl, by simp; omega, ?_, ?_⟩
        · rw [hm] at hni
          simp only [b_law_keys_1, bodyD, start3, sSeq, sSet, gsome, give1, List.foldl_cons, List.foldl_nil, sRet, sRetV, sIf, sExpr, sNil, R.toRt, vsh, vall, L3.gall, pub_sh, pub_ow, pub_no, any_sh, any_ow, any_no, give_sh, give_ow, give_no, eOp, eVar, eC, eTest, eTruth, truthD, boolD, eCall, eFn, R.calm, aNil, aCons, eTup, eLst, eIf, eAnd, eOr, eNot, tAndF, tOrF, tNotF, eIs, isT_int_non, isT_int_bl, isT_int_int, isT_int_str, isT_int_lst, isT_int_tup, isT_bool_non, isT_bool_bl, isT_bool_int, isT_bool_str, isT_bool_lst, isT_bool_tup, isT_str_non, isT_str_bl, isT_str_int, isT_str_str, isT_str_lst, isT_str_tup, isT_list_non, isT_list_bl, isT_list_int, isT_list_str, isT_list_lst, isT_list_tup, isT_tuple_non, isT_tuple_bl, isT_tuple_int, isT_tuple_str, isT_tuple_lst, isT_tuple_tup, eSlice, oNone, oSome, intPart, eMeth, eMeth0, tyD, iArgs, iOf, itemsD, R.bind_ok, R.bind_no, R.bind_ex, W.d_sh, W.d_ow, List.map_cons, List.map_nil, List.cons_append, List.nil_append, List.append_nil, List.replicate_succ, List.replicate_zero, List.length_cons, List.length_nil, List.set_cons_zero, List.set_cons_succ, List.getElem?_cons_zero, List.getElem?_cons_succ, Nat.reduceAdd, Nat.reduceSub, Nat.reduceLeDiff, if_true, if_false, flatD, ↓reduceIte, Bool.false_eq_true, Bool.not_true, Bool.not_false, Bool.true_and, Bool.false_and, Nat.zero_add, decide_true, decide_false, reduceCtorEq, gC, gV, ed, hni, sApp, hl2]
        · intro x hx
          rcases List.mem_append.mp hx with hx | hx
          · exact hks x hx
          · have : x = d := by simpa using hx
            rw [this]; exact hdk
        · rw [List.nodup_append]
          refine ⟨hd, by simp, fun a ha b hb => ?_⟩
          have : b = d := by simpa using hb
          subst this
          rintro rfl
          rw [(mem_iff hdk hks).mpr ha] at hm
          cases hm)
  rw [List.length_map] at hl
  obtain ⟨b, hb, eb, _⟩ := keys_eqD hk (js := []) (fun k hk => absurd hk (by simp))
  by_cases hz : ks = []
  · obtain ⟨d, hdk, ed⟩ := key_eq (ns.getD (0 : Int).toNat 0 / 2)
    refine ⟨[d], by simp, by simp; omega, fun x hx => ?_, by simp, ?_⟩
    · have : x = d := by simpa using hx
      rw [this]; exact hdk
    · have : b = true := hb.mpr hz
      subst this
      simp only [F_law_keys, g_law_keys, bodyD, start3, sSeq, sSet, gsome, give1, List.foldl_cons, List.foldl_nil, sRet, sRetV, sIf, sExpr, sNil, R.toRt, vsh, vall, L3.gall, pub_sh, pub_ow, pub_no, any_sh, any_ow, any_no, give_sh, give_ow, give_no, eOp, eVar, eC, eTest, eTruth, truthD, boolD, eCall, eFn, R.calm, aNil, aCons, eTup, eLst, eIf, eAnd, eOr, eNot, tAndF, tOrF, tNotF, eIs, isT_int_non, isT_int_bl, isT_int_int, isT_int_str, isT_int_lst, isT_int_tup, isT_bool_non, isT_bool_bl, isT_bool_int, isT_bool_str, isT_bool_lst, isT_bool_tup, isT_str_non, isT_str_bl, isT_str_int, isT_str_str, isT_str_lst, isT_str_tup, isT_list_non, isT_list_bl, isT_list_int, isT_list_str, isT_list_lst, isT_list_tup, isT_tuple_non, isT_tuple_bl, isT_tuple_int, isT_tuple_str, isT_tuple_lst, isT_tuple_tup, eSlice, oNone, oSome, intPart, eMeth, eMeth0, tyD, iArgs, iOf, itemsD, R.bind_ok, R.bind_no, R.bind_ex, W.d_sh, W.d_ow, List.map_cons, List.map_nil, List.cons_append, List.nil_append, List.append_nil, List.replicate_succ, List.replicate_zero, List.length_cons, List.length_nil, List.set_cons_zero, List.set_cons_succ, List.getElem?_cons_zero, List.getElem?_cons_succ, Nat.reduceAdd, Nat.reduceSub, Nat.reduceLeDiff, if_true, if_false, flatD, ↓reduceIte, Bool.false_eq_true, Bool.not_true, Bool.not_false, Bool.true_and, Bool.false_and, Nat.zero_add, decide_true, decide_false, reduceCtorEq, gC, gV, sFor, ec, e, eb, raw_eq ns 0 (by decide), div_ok (show (0 : Int) < 2 by decide) (by decide), ed]
  · refine ⟨ks, hz, by omega, hk, hd, ?_⟩
    have : b = false := by
      cases b with
      | true => exact absurd (hb.mp rfl) hz
      | false => rfl
    subst this
    simp only [F_law_keys, g_law_keys, bodyD, start3, sSeq, sSet, gsome, give1, List.foldl_cons, List.foldl_nil, sRet, sRetV, sIf, sExpr, sNil, R.toRt, vsh, vall, L3.gall, pub_sh, pub_ow, pub_no, any_sh, any_ow, any_no, give_sh, give_ow, give_no, eOp, eVar, eC, eTest, eTruth, truthD, boolD, eCall, eFn, R.calm, aNil, aCons, eTup, eLst, eIf, eAnd, eOr, eNot, tAndF, tOrF, tNotF, eIs, isT_int_non, isT_int_bl, isT_int_int, isT_int_str, isT_int_lst, isT_int_tup, isT_bool_non, isT_bool_bl, isT_bool_int, isT_bool_str, isT_bool_lst, isT_bool_tup, isT_str_non, isT_str_bl, isT_str_int, isT_str_str, isT_str_lst, isT_str_tup, isT_list_non, isT_list_bl, isT_list_int, isT_list_str, isT_list_lst, isT_list_tup, isT_tuple_non, isT_tuple_bl, isT_tuple_int, isT_tuple_str, isT_tuple_lst, isT_tuple_tup, eSlice, oNone, oSome, intPart, eMeth, eMeth0, tyD, iArgs, iOf, itemsD, R.bind_ok, R.bind_no, R.bind_ex, W.d_sh, W.d_ow, List.map_cons, List.map_nil, List.cons_append, List.nil_append, List.append_nil, List.replicate_succ, List.replicate_zero, List.length_cons, List.length_nil, List.set_cons_zero, List.set_cons_succ, List.getElem?_cons_zero, List.getElem?_cons_succ, Nat.reduceAdd, Nat.reduceSub, Nat.reduceLeDiff, if_true, if_false, flatD, ↓reduceIte, Bool.false_eq_true, Bool.not_true, Bool.not_false, Bool.true_and, Bool.false_and, Nat.zero_add, decide_true, decide_false, reduceCtorEq, gC, gV, sFor, ec, e, eb]
/-! ### stamps -/
def sgI (c : Nat) : Nat := sgL.idxOf c
theorem occ_sg : ∀ c ∈ sgL, Builtin.Str.occurrences "abcdefghijklmnopqrstuvwxyz0123456789-_ " ⟨#[c]⟩ 0 (Str.length "abcdefghijklmnopqrstuvwxyz0123456789-_ ") 1 = [sgI c] := by decide +kernel
theorem sgI_lt : ∀ c ∈ sgL, sgI c < 39 := by decide +kernel
def worthL (l : List Nat) : Int := l.foldl (fun a c => 40 * a + (sgI c : Int) + 1) 0
theorem worthL_snoc (l : List Nat) (k c : Nat) (h : l[k]? = some c) : worthL (l.take (k + 1)) = 40 * worthL (l.take k) + (sgI c : Int) + 1 := by
  unfold worthL
  rw [List.take_add_one, h, List.foldl_append]
  rfl
def stampZ : D → Int
  | .int n => 2 * n
  | .str x => 2 * worthL x.cps.toList + 1
  | _ => 0
theorem find_all : ∀ c ∈ sgL, Txt.find "abcdefghijklmnopqrstuvwxyz0123456789-_ " ⟨#[c]⟩ = ((sgI c : Nat) : Int) := by decide +kernel
theorem find_sg {c : Nat} (h : c ∈ sgL) : findS (.str "abcdefghijklmnopqrstuvwxyz0123456789-_ ") [.str ⟨#[c]⟩] = .ok (.sh (.int (sgI c : Int))) := by
  show R.ok (W.sh (D.int (Txt.find "abcdefghijklmnopqrstuvwxyz0123456789-_ " ⟨#[c]⟩))) = _
  rw [find_all c h]
theorem index_sg {c : Nat} (h : c ∈ sgL) : indexS (.str "abcdefghijklmnopqrstuvwxyz0123456789-_ ") [.str ⟨#[c]⟩] = .ok (.sh (.int (sgI c : Int))) := by
  show (match Builtin.Str.occurrences "abcdefghijklmnopqrstuvwxyz0123456789-_ " ⟨#[c]⟩ 0 (Str.length "abcdefghijklmnopqrstuvwxyz0123456789-_ ") 1 with
    | i :: _ => R.ok (W.sh (D.int (i : Nat)))
    | [] => R.no) = _
  rw [occ_sg c h]
theorem in_sg {c : Nat} (h : c ∈ sgL) : inD false (.str ⟨#[c]⟩) (.str "abcdefghijklmnopqrstuvwxyz0123456789-_ ") = .ok (.sh (.bl true)) := by
  show R.ok (W.sh (D.bl (!(Builtin.Str.occurrences "abcdefghijklmnopqrstuvwxyz0123456789-_ " ⟨#[c]⟩ 0 (Str.length "abcdefghijklmnopqrstuvwxyz0123456789-_ ") 1).isEmpty))) = _
  rw [occ_sg c h]
  rfl
theorem signs_mk (l : List Nat) : signs (mkS l) = l.map fun c => .str ⟨#[c]⟩ := by unfold signs; rw [mkS_list]
theorem worth_eq (l : List Nat) (hl : l.length ≤ 11) (hc : ∀ c ∈ l, c ∈ sgL) : F_worth [.str (mkS l)] = .ok (.sh (.int (worthL l))) := by
  obtain ⟨Δ', e, a2, rfl⟩ := loop_list (gV 2) b_worth_1 (fun k Δ => ∃ a2, Δ = [.sh (.str (mkS l)), .sh (.int (worthL (l.take k))), a2]) (ds := signs (mkS l)) (Δ := [.sh (.str (mkS l)), .sh (.int 0), .no]) ⟨.no, rfl⟩ (fun k d Δ hk hI => by
    obtain ⟨a2, rfl⟩ := hI
    rw [signs_mk, List.getElem?_map] at hk
    cases q : l[k]? with
    | none => rw [q] at hk; cases hk
    | some c =>
      rw [q] at hk
      cases hk
      refine ⟨_, rfl, [.sh (.str (mkS l)), .sh (.int (worthL (l.take (k + 1)))), .sh (.str ⟨#[c]⟩)], .inl ?_, _, rfl⟩
      rw [worthL_snoc l k c q]
      simp only [b_worth_1, bodyD, start3, sSeq, sSet, gsome, give1, List.foldl_cons, List.foldl_nil, sRet, sRetV, sIf, sExpr, sNil, R.toRt, vsh, vall, L3.gall, pub_sh, pub_ow, pub_no, any_sh, any_ow, any_no, give_sh, give_ow, give_no, eOp, eVar, eC, eTest, eTruth, truthD, boolD, eCall, eFn, R.calm, aNil, aCons, eTup, eLst, eIf, eAnd, eOr, eNot, tAndF, tOrF, tNotF, eIs, isT_int_non, isT_int_bl, isT_int_int, isT_int_str, isT_int_lst, isT_int_tup, isT_bool_non, isT_bool_bl, isT_bool_int, isT_bool_str, isT_bool_lst, isT_bool_tup, isT_str_non, isT_str_bl, isT_str_int, isT_str_str, isT_str_lst, isT_str_tup, isT_list_non, isT_list_bl, isT_list_int, isT_list_str, isT_list_lst, isT_list_tup, isT_tuple_non, isT_tuple_bl, isT_tuple_int, isT_tuple_str, isT_tuple_lst, isT_tuple_tup, eSlice, oNone, oSome, intPart, eMeth, eMeth0, tyD, iArgs, iOf, itemsD, R.bind_ok, R.bind_no, R.bind_ex, W.d_sh, W.d_ow, List.map_cons, List.map_nil, List.cons_append, List.nil_append, List.append_nil, List.replicate_succ, List.replicate_zero, List.length_cons, List.length_nil, List.set_cons_zero, List.set_cons_succ, List.getElem?_cons_zero, List.getElem?_cons_succ, Nat.reduceAdd, Nat.reduceSub, Nat.reduceLeDiff, if_true, if_false, flatD, ↓reduceIte, Bool.false_eq_true, Bool.not_true, Bool.not_false, Bool.true_and, Bool.false_and, Nat.zero_add, decide_true, decide_false, reduceCtorEq, gC, gV, mul_ok (mulC_l (show (-18446744073709551616 : Int) < 40 by decide) (by decide)), beq_self_eq_true, find_sg (hc c (List.mem_of_getElem? q)), add_ok])
  rw [signs_mk, List.length_map, List.take_length] at e
  simp only [F_worth, g_worth, bodyD, start3, sSeq, sSet, gsome, give1, List.foldl_cons, List.foldl_nil, sRet, sRetV, sIf, sExpr, sNil, R.toRt, vsh, vall, L3.gall, pub_sh, pub_ow, pub_no, any_sh, any_ow, any_no, give_sh, give_ow, give_no, eOp, eVar, eC, eTest, eTruth, truthD, boolD, eCall, eFn, R.calm, aNil, aCons, eTup, eLst, eIf, eAnd, eOr, eNot, tAndF, tOrF, tNotF, eIs, isT_int_non, isT_int_bl, isT_int_int, isT_int_str, isT_int_lst, isT_int_tup, isT_bool_non, isT_bool_bl, isT_bool_int, isT_bool_str, isT_bool_lst, isT_bool_tup, isT_str_non, isT_str_bl, isT_str_int, isT_str_str, isT_str_lst, isT_str_tup, isT_list_non, isT_list_bl, isT_list_int, isT_list_str, isT_list_lst, isT_list_tup, isT_tuple_non, isT_tuple_bl, isT_tuple_int, isT_tuple_str, isT_tuple_lst, isT_tuple_tup, eSlice, oNone, oSome, intPart, eMeth, eMeth0, tyD, iArgs, iOf, itemsD, R.bind_ok, R.bind_no, R.bind_ex, W.d_sh, W.d_ow, List.map_cons, List.map_nil, List.cons_append, List.nil_append, List.append_nil, List.replicate_succ, List.replicate_zero, List.length_cons, List.length_nil, List.set_cons_zero, List.set_cons_succ, List.getElem?_cons_zero, List.getElem?_cons_succ, Nat.reduceAdd, Nat.reduceSub, Nat.reduceLeDiff, if_true, if_false, flatD, ↓reduceIte, Bool.false_eq_true, Bool.not_true, Bool.not_false, Bool.true_and, Bool.false_and, Nat.zero_add, decide_true, decide_false, reduceCtorEq, gC, gV, sFor, signs_mk, e]
theorem is_key_eq {d : D} (h : isKey d) : F_is_key [d] = .ok (.sh (.bl true)) := by
  rcases h with ⟨n, rfl, h0, h1⟩ | ⟨l, rfl, hl, hc⟩
  · simp only [F_is_key, g_is_key, bodyD, start3, sSeq, sSet, gsome, give1, List.foldl_cons, List.foldl_nil, sRet, sRetV, sIf, sExpr, sNil, R.toRt, vsh, vall, L3.gall, pub_sh, pub_ow, pub_no, any_sh, any_ow, any_no, give_sh, give_ow, give_no, eOp, eVar, eC, eTest, eTruth, truthD, boolD, eCall, eFn, R.calm, aNil, aCons, eTup, eLst, eIf, eAnd, eOr, eNot, tAndF, tOrF, tNotF, eIs, isT_int_non, isT_int_bl, isT_int_int, isT_int_str, isT_int_lst, isT_int_tup, isT_bool_non, isT_bool_bl, isT_bool_int, isT_bool_str, isT_bool_lst, isT_bool_tup, isT_str_non, isT_str_bl, isT_str_int, isT_str_str, isT_str_lst, isT_str_tup, isT_list_non, isT_list_bl, isT_list_int, isT_list_str, isT_list_lst, isT_list_tup, isT_tuple_non, isT_tuple_bl, isT_tuple_int, isT_tuple_str, isT_tuple_lst, isT_tuple_tup, eSlice, oNone, oSome, intPart, eMeth, eMeth0, tyD, iArgs, iOf, itemsD, R.bind_ok, R.bind_no, R.bind_ex, W.d_sh, W.d_ow, List.map_cons, List.map_nil, List.cons_append, List.nil_append, List.append_nil, List.replicate_succ, List.replicate_zero, List.length_cons, List.length_nil, List.set_cons_zero, List.set_cons_succ, List.getElem?_cons_zero, List.getElem?_cons_succ, Nat.reduceAdd, Nat.reduceSub, Nat.reduceLeDiff, if_true, if_false, flatD, ↓reduceIte, Bool.false_eq_true, Bool.not_true, Bool.not_false, Bool.true_and, Bool.false_and, Nat.zero_add, decide_true, decide_false, reduceCtorEq, gC, gV, eChain, le_ok, h0, h1]
  · have hx : (mkS l).length ≤ 16777216 := by rw [mkS_len]; omega
    have ec := comp_map (fg := gC 1) (f := e_is_key_text_1) (δ := [some (.str (mkS l)), none]) (fun _ => .bl true) (signs (mkS l)) (fun d hd => by
      rw [signs_mk] at hd
      obtain ⟨c, hcl, rfl⟩ := List.mem_map.mp hd
      exact ⟨_, .sh (.bl true), rfl, by simp only [e_is_key_text_1, bodyD, start3, sSeq, sSet, gsome, give1, List.foldl_cons, List.foldl_nil, sRet, sRetV, sIf, sExpr, sNil, R.toRt, vsh, vall, L3.gall, pub_sh, pub_ow, pub_no, any_sh, any_ow, any_no, give_sh, give_ow, give_no, eOp, eVar, eC, eTest, eTruth, truthD, boolD, eCall, eFn, R.calm, aNil, aCons, eTup, eLst, eIf, eAnd, eOr, eNot, tAndF, tOrF, tNotF, eIs, isT_int_non, isT_int_bl, isT_int_int, isT_int_str, isT_int_lst, isT_int_tup, isT_bool_non, isT_bool_bl, isT_bool_int, isT_bool_str, isT_bool_lst, isT_bool_tup, isT_str_non, isT_str_bl, isT_str_int, isT_str_str, isT_str_lst, isT_str_tup, isT_list_non, isT_list_bl, isT_list_int, isT_list_str, isT_list_lst, isT_list_tup, isT_tuple_non, isT_tuple_bl, isT_tuple_int, isT_tuple_str, isT_tuple_lst, isT_tuple_tup, eSlice, oNone, oSome, intPart, eMeth, eMeth0, tyD, iArgs, iOf, itemsD, R.bind_ok, R.bind_no, R.bind_ex, W.d_sh, W.d_ow, List.map_cons, List.map_nil, List.cons_append, List.nil_append, List.append_nil, List.replicate_succ, List.replicate_zero, List.length_cons, List.length_nil, List.set_cons_zero, List.set_cons_succ, List.getElem?_cons_zero, List.getElem?_cons_succ, Nat.reduceAdd, Nat.reduceSub, Nat.reduceLeDiff, if_true, if_false, flatD, ↓reduceIte, Bool.false_eq_true, Bool.not_true, Bool.not_false, Bool.true_and, Bool.false_and, Nat.zero_add, decide_true, decide_false, reduceCtorEq, gC, gV, in_sg (hc c hcl)], rfl⟩)
    have ec' := eComp_ok (m := 1) (fi := iOf (eVar 0)) (fg := gC 1) (p := fun _ => .ok true) (f := e_is_key_text_1) (δ := [some (.str (mkS l))]) (by simp only [bodyD, start3, sSeq, sSet, gsome, give1, List.foldl_cons, List.foldl_nil, sRet, sRetV, sIf, sExpr, sNil, R.toRt, vsh, vall, L3.gall, pub_sh, pub_ow, pub_no, any_sh, any_ow, any_no, give_sh, give_ow, give_no, eOp, eVar, eC, eTest, eTruth, truthD, boolD, eCall, eFn, R.calm, aNil, aCons, eTup, eLst, eIf, eAnd, eOr, eNot, tAndF, tOrF, tNotF, eIs, isT_int_non, isT_int_bl, isT_int_int, isT_int_str, isT_int_lst, isT_int_tup, isT_bool_non, isT_bool_bl, isT_bool_int, isT_bool_str, isT_bool_lst, isT_bool_tup, isT_str_non, isT_str_bl, isT_str_int, isT_str_str, isT_str_lst, isT_str_tup, isT_list_non, isT_list_bl, isT_list_int, isT_list_str, isT_list_lst, isT_list_tup, isT_tuple_non, isT_tuple_bl, isT_tuple_int, isT_tuple_str, isT_tuple_lst, isT_tuple_tup, eSlice, oNone, oSome, intPart, eMeth, eMeth0, tyD, iArgs, iOf, itemsD, R.bind_ok, R.bind_no, R.bind_ex, W.d_sh, W.d_ow, List.map_cons, List.map_nil, List.cons_append, List.nil_append, List.append_nil, List.replicate_succ, List.replicate_zero, List.length_cons, List.length_nil, List.set_cons_zero, List.set_cons_succ, List.getElem?_cons_zero, List.getElem?_cons_succ, Nat.reduceAdd, Nat.reduceSub, Nat.reduceLeDiff, if_true, if_false, flatD, ↓reduceIte, Bool.false_eq_true, Bool.not_true, Bool.not_false, Bool.true_and, Bool.false_and, Nat.zero_add, decide_true, decide_false, reduceCtorEq, gC, gV]) (by rw [signs_mk, List.length_map]; omega) ec
    have ha : allD [.lst ((signs (mkS l)).map fun _ => D.bl true)] = .ok (.sh (.bl true)) := by
      have hb : ∀ l : List D, boolsD (l.map fun _ => D.bl true) = some (l.map fun _ => true) := by
        intro l
        induction l with
        | nil => rfl
        | cons a l ih => show (boolsD (l.map fun _ => D.bl true)).map (true :: ·) = _; rw [ih]; rfl
      unfold allD
      simp only [hb]
      congr 3
      rw [List.all_eq_true]
      intro b hb'
      obtain ⟨_, _, rfl⟩ := List.mem_map.mp hb'
      rfl
    have hl11 : ((mkS l).length : Int) ≤ 11 := by rw [mkS_len]; omega
    have et : F_is_key_text [.str (mkS l)] = .ok (.sh (.bl true)) := by
      simp only [F_is_key_text, g_is_key_text, bodyD, start3, sSeq, sSet, gsome, give1, List.foldl_cons, List.foldl_nil, sRet, sRetV, sIf, sExpr, sNil, R.toRt, vsh, vall, L3.gall, pub_sh, pub_ow, pub_no, any_sh, any_ow, any_no, give_sh, give_ow, give_no, eOp, eVar, eC, eTest, eTruth, truthD, boolD, eCall, eFn, R.calm, aNil, aCons, eTup, eLst, eIf, eAnd, eOr, eNot, tAndF, tOrF, tNotF, eIs, isT_int_non, isT_int_bl, isT_int_int, isT_int_str, isT_int_lst, isT_int_tup, isT_bool_non, isT_bool_bl, isT_bool_int, isT_bool_str, isT_bool_lst, isT_bool_tup, isT_str_non, isT_str_bl, isT_str_int, isT_str_str, isT_str_lst, isT_str_tup, isT_list_non, isT_list_bl, isT_list_int, isT_list_str, isT_list_lst, isT_list_tup, isT_tuple_non, isT_tuple_bl, isT_tuple_int, isT_tuple_str, isT_tuple_lst, isT_tuple_tup, eSlice, oNone, oSome, intPart, eMeth, eMeth0, tyD, iArgs, iOf, itemsD, R.bind_ok, R.bind_no, R.bind_ex, W.d_sh, W.d_ow, List.map_cons, List.map_nil, List.cons_append, List.nil_append, List.append_nil, List.replicate_succ, List.replicate_zero, List.length_cons, List.length_nil, List.set_cons_zero, List.set_cons_succ, List.getElem?_cons_zero, List.getElem?_cons_succ, Nat.reduceAdd, Nat.reduceSub, Nat.reduceLeDiff, if_true, if_false, flatD, ↓reduceIte, Bool.false_eq_true, Bool.not_true, Bool.not_false, Bool.true_and, Bool.false_and, Nat.zero_add, decide_true, decide_false, reduceCtorEq, gC, gV, len_str3 hx, le_ok, hl11, ec', ha]
    simp only [F_is_key, g_is_key, bodyD, start3, sSeq, sSet, gsome, give1, List.foldl_cons, List.foldl_nil, sRet, sRetV, sIf, sExpr, sNil, R.toRt, vsh, vall, L3.gall, pub_sh, pub_ow, pub_no, any_sh, any_ow, any_no, give_sh, give_ow, give_no, eOp, eVar, eC, eTest, eTruth, truthD, boolD, eCall, eFn, R.calm, aNil, aCons, eTup, eLst, eIf, eAnd, eOr, eNot, tAndF, tOrF, tNotF, eIs, isT_int_non, isT_int_bl, isT_int_int, isT_int_str, isT_int_lst, isT_int_tup, isT_bool_non, isT_bool_bl, isT_bool_int, isT_bool_str, isT_bool_lst, isT_bool_tup, isT_str_non, isT_str_bl, isT_str_int, isT_str_str, isT_str_lst, isT_str_tup, isT_list_non, isT_list_bl, isT_list_int, isT_list_str, isT_list_lst, isT_list_tup, isT_tuple_non, isT_tuple_bl, isT_tuple_int, isT_tuple_str, isT_tuple_lst, isT_tuple_tup, eSlice, oNone, oSome, intPart, eMeth, eMeth0, tyD, iArgs, iOf, itemsD, R.bind_ok, R.bind_no, R.bind_ex, W.d_sh, W.d_ow, List.map_cons, List.map_nil, List.cons_append, List.nil_append, List.append_nil, List.replicate_succ, List.replicate_zero, List.length_cons, List.length_nil, List.set_cons_zero, List.set_cons_succ, List.getElem?_cons_zero, List.getElem?_cons_succ, Nat.reduceAdd, Nat.reduceSub, Nat.reduceLeDiff, if_true, if_false, flatD, ↓reduceIte, Bool.false_eq_true, Bool.not_true, Bool.not_false, Bool.true_and, Bool.false_and, Nat.zero_add, decide_true, decide_false, reduceCtorEq, gC, gV, et]
theorem stamp_eq {d : D} (h : isKey d) : F_stamp [d] = .ok (.sh (.int (stampZ d))) := by
  have hk := is_key_eq h
  have m2 := fun j : Int => mul_ok (mulC_l (j := j) (show (-18446744073709551616 : Int) < 2 by decide) (by decide))
  rcases h with ⟨n, rfl, h0, h1⟩ | ⟨l, rfl, hl, hc⟩
  · simp only [F_stamp, g_stamp, bodyD, start3, sSeq, sSet, gsome, give1, List.foldl_cons, List.foldl_nil, sRet, sRetV, sIf, sExpr, sNil, R.toRt, vsh, vall, L3.gall, pub_sh, pub_ow, pub_no, any_sh, any_ow, any_no, give_sh, give_ow, give_no, eOp, eVar, eC, eTest, eTruth, truthD, boolD, eCall, eFn, R.calm, aNil, aCons, eTup, eLst, eIf, eAnd, eOr, eNot, tAndF, tOrF, tNotF, eIs, isT_int_non, isT_int_bl, isT_int_int, isT_int_str, isT_int_lst, isT_int_tup, isT_bool_non, isT_bool_bl, isT_bool_int, isT_bool_str, isT_bool_lst, isT_bool_tup, isT_str_non, isT_str_bl, isT_str_int, isT_str_str, isT_str_lst, isT_str_tup, isT_list_non, isT_list_bl, isT_list_int, isT_list_str, isT_list_lst, isT_list_tup, isT_tuple_non, isT_tuple_bl, isT_tuple_int, isT_tuple_str, isT_tuple_lst, isT_tuple_tup, eSlice, oNone, oSome, intPart, eMeth, eMeth0, tyD, iArgs, iOf, itemsD, R.bind_ok, R.bind_no, R.bind_ex, W.d_sh, W.d_ow, List.map_cons, List.map_nil, List.cons_append, List.nil_append, List.append_nil, List.replicate_succ, List.replicate_zero, List.length_cons, List.length_nil, List.set_cons_zero, List.set_cons_succ, List.getElem?_cons_zero, List.getElem?_cons_succ, Nat.reduceAdd, Nat.reduceSub, Nat.reduceLeDiff, if_true, if_false, flatD, ↓reduceIte, Bool.false_eq_true, Bool.not_true, Bool.not_false, Bool.true_and, Bool.false_and, Nat.zero_add, decide_true, decide_false, reduceCtorEq, gC, gV, hk, m2, stampZ]
  · simp only [F_stamp, g_stamp, bodyD, start3, sSeq, sSet, gsome, give1, List.foldl_cons, List.foldl_nil, sRet, sRetV, sIf, sExpr, sNil, R.toRt, vsh, vall, L3.gall, pub_sh, pub_ow, pub_no, any_sh, any_ow, any_no, give_sh, give_ow, give_no, eOp, eVar, eC, eTest, eTruth, truthD, boolD, eCall, eFn, R.calm, aNil, aCons, eTup, eLst, eIf, eAnd, eOr, eNot, tAndF, tOrF, tNotF, eIs, isT_int_non, isT_int_bl, isT_int_int, isT_int_str, isT_int_lst, isT_int_tup, isT_bool_non, isT_bool_bl, isT_bool_int, isT_bool_str, isT_bool_lst, isT_bool_tup, isT_str_non, isT_str_bl, isT_str_int, isT_str_str, isT_str_lst, isT_str_tup, isT_list_non, isT_list_bl, isT_list_int, isT_list_str, isT_list_lst, isT_list_tup, isT_tuple_non, isT_tuple_bl, isT_tuple_int, isT_tuple_str, isT_tuple_lst, isT_tuple_tup, eSlice, oNone, oSome, intPart, eMeth, eMeth0, tyD, iArgs, iOf, itemsD, R.bind_ok, R.bind_no, R.bind_ex, W.d_sh, W.d_ow, List.map_cons, List.map_nil, List.cons_append, List.nil_append, List.append_nil, List.replicate_succ, List.replicate_zero, List.length_cons, List.length_nil, List.set_cons_zero, List.set_cons_succ, List.getElem?_cons_zero, List.getElem?_cons_succ, Nat.reduceAdd, Nat.reduceSub, Nat.reduceLeDiff, if_true, if_false, flatD, ↓reduceIte, Bool.false_eq_true, Bool.not_true, Bool.not_false, Bool.true_and, Bool.false_and, Nat.zero_add, decide_true, decide_false, reduceCtorEq, gC, gV, hk, worth_eq l hl hc, m2, add_ok, stampZ, mkS_list]
theorem law_stamp_eq {d : D} (h : isKey d) : F_law_stamp [d] = .ok (.sh (.int (stampZ d))) := by
  have m2 := fun j : Int => mul_ok (mulC_l (j := j) (show (-18446744073709551616 : Int) < 2 by decide) (by decide))
  rcases h with ⟨n, rfl, h0, h1⟩ | ⟨l, rfl, hl, hc⟩
  · simp only [F_law_stamp, g_law_stamp, bodyD, start3, sSeq, sSet, gsome, give1, List.foldl_cons, List.foldl_nil, sRet, sRetV, sIf, sExpr, sNil, R.toRt, vsh, vall, L3.gall, pub_sh, pub_ow, pub_no, any_sh, any_ow, any_no, give_sh, give_ow, give_no, eOp, eVar, eC, eTest, eTruth, truthD, boolD, eCall, eFn, R.calm, aNil, aCons, eTup, eLst, eIf, eAnd, eOr, eNot, tAndF, tOrF, tNotF, eIs, isT_int_non, isT_int_bl, isT_int_int, isT_int_str, isT_int_lst, isT_int_tup, isT_bool_non, isT_bool_bl, isT_bool_int, isT_bool_str, isT_bool_lst, isT_bool_tup, isT_str_non, isT_str_bl, isT_str_int, isT_str_str, isT_str_lst, isT_str_tup, isT_list_non, isT_list_bl, isT_list_int, isT_list_str, isT_list_lst, isT_list_tup, isT_tuple_non, isT_tuple_bl, isT_tuple_int, isT_tuple_str, isT_tuple_lst, isT_tuple_tup, eSlice, oNone, oSome, intPart, eMeth, eMeth0, tyD, iArgs, iOf, itemsD, R.bind_ok, R.bind_no, R.bind_ex, W.d_sh, W.d_ow, List.map_cons, List.map_nil, List.cons_append, List.nil_append, List.append_nil, List.replicate_succ, List.replicate_zero, List.length_cons, List.length_nil, List.set_cons_zero, List.set_cons_succ, List.getElem?_cons_zero, List.getElem?_cons_succ, Nat.reduceAdd, Nat.reduceSub, Nat.reduceLeDiff, if_true, if_false, flatD, ↓reduceIte, Bool.false_eq_true, Bool.not_true, Bool.not_false, Bool.true_and, Bool.false_and, Nat.zero_add, decide_true, decide_false, reduceCtorEq, gC, gV, m2, stampZ]
  · obtain ⟨Δ', e, a2, rfl⟩ := loop_list (gV 2) b_law_stamp_1 (fun k Δ => ∃ a2, Δ = [.sh (.str (mkS l)), .sh (.int (worthL (l.take k))), a2]) (ds := signs (mkS l)) (Δ := [.sh (.str (mkS l)), .sh (.int 0), .no]) ⟨.no, rfl⟩ (fun k d Δ hk hI => by
      obtain ⟨a2, rfl⟩ := hI
      rw [signs_mk, List.getElem?_map] at hk
      cases q : l[k]? with
      | none => rw [q] at hk; cases hk
      | some c =>
        rw [q] at hk
        cases hk
        refine ⟨_, rfl, [.sh (.str (mkS l)), .sh (.int (worthL (l.take (k + 1)))), .sh (.str ⟨#[c]⟩)], .inl ?_, _, rfl⟩
        rw [worthL_snoc l k c q, Int.mul_comm 40]
        simp only [b_law_stamp_1, bodyD, start3, sSeq, sSet, gsome, give1, List.foldl_cons, List.foldl_nil, sRet, sRetV, sIf, sExpr, sNil, R.toRt, vsh, vall, L3.gall, pub_sh, pub_ow, pub_no, any_sh, any_ow, any_no, give_sh, give_ow, give_no, eOp, eVar, eC, eTest, eTruth, truthD, boolD, eCall, eFn, R.calm, aNil, aCons, eTup, eLst, eIf, eAnd, eOr, eNot, tAndF, tOrF, tNotF, eIs, isT_int_non, isT_int_bl, isT_int_int, isT_int_str, isT_int_lst, isT_int_tup, isT_bool_non, isT_bool_bl, isT_bool_int, isT_bool_str, isT_bool_lst, isT_bool_tup, isT_str_non, isT_str_bl, isT_str_int, isT_str_str, isT_str_lst, isT_str_tup, isT_list_non, isT_list_bl, isT_list_int, isT_list_str, isT_list_lst, isT_list_tup, isT_tuple_non, isT_tuple_bl, isT_tuple_int, isT_tuple_str, isT_tuple_lst, isT_tuple_tup, eSlice, oNone, oSome, intPart, eMeth, eMeth0, tyD, iArgs, iOf, itemsD, R.bind_ok, R.bind_no, R.bind_ex, W.d_sh, W.d_ow, List.map_cons, List.map_nil, List.cons_append, List.nil_append, List.append_nil, List.replicate_succ, List.replicate_zero, List.length_cons, List.length_nil, List.set_cons_zero, List.set_cons_succ, List.getElem?_cons_zero, List.getElem?_cons_succ, Nat.reduceAdd, Nat.reduceSub, Nat.reduceLeDiff, if_true, if_false, flatD, ↓reduceIte, Bool.false_eq_true, Bool.not_true, Bool.not_false, Bool.true_and, Bool.false_and, Nat.zero_add, decide_true, decide_false, reduceCtorEq, gC, gV, mul_ok (mulC_r (show (-18446744073709551616 : Int) < 40 by decide) (by decide)), beq_self_eq_true, index_sg (hc c (List.mem_of_getElem? q)), add_ok])
    rw [signs_mk, List.length_map, List.take_length] at e
    simp only [F_law_stamp, g_law_stamp, bodyD, start3, sSeq, sSet, gsome, give1, List.foldl_cons, List.foldl_nil, sRet, sRetV, sIf, sExpr, sNil, R.toRt, vsh, vall, L3.gall, pub_sh, pub_ow, pub_no, any_sh, any_ow, any_no, give_sh, give_ow, give_no, eOp, eVar, eC, eTest, eTruth, truthD, boolD, eCall, eFn, R.calm, aNil, aCons, eTup, eLst, eIf, eAnd, eOr, eNot, tAndF, tOrF, tNotF, eIs, isT_int_non, isT_int_bl, isT_int_int, isT_int_str, isT_int_lst, isT_int_tup, isT_bool_non, isT_bool_bl, isT_bool_int, isT_bool_str, isT_bool_lst, isT_bool_tup, isT_str_non, isT_str_bl, isT_str_int, isT_str_str, isT_str_lst, isT_str_tup, isT_list_non, isT_list_bl, isT_list_int, isT_list_str, isT_list_lst, isT_list_tup, isT_tuple_non, isT_tuple_bl, isT_tuple_int, isT_tuple_str, isT_tuple_lst, isT_tuple_tup, eSlice, oNone, oSome, intPart, eMeth, eMeth0, tyD, iArgs, iOf, itemsD, R.bind_ok, R.bind_no, R.bind_ex, W.d_sh, W.d_ow, List.map_cons, List.map_nil, List.cons_append, List.nil_append, List.append_nil, List.replicate_succ, List.replicate_zero, List.length_cons, List.length_nil, List.set_cons_zero, List.set_cons_succ, List.getElem?_cons_zero, List.getElem?_cons_succ, Nat.reduceAdd, Nat.reduceSub, Nat.reduceLeDiff, if_true, if_false, flatD, ↓reduceIte, Bool.false_eq_true, Bool.not_true, Bool.not_false, Bool.true_and, Bool.false_and, Nat.zero_add, decide_true, decide_false, reduceCtorEq, gC, gV, sFor, signs_mk, e, m2, add_ok, stampZ, mkS_list]
/-! ### mixing -/
def mixedZ (n s z : Int) : Int :=
  (((1 + (1103515245 * s + 12345) % (2305843009213693951 - 1)) * n + (69069 * s * s + 7 * s) % 2305843009213693951) % 2305843009213693951 + ((1 + (1103515245 * s + 12345) % (2305843009213693951 - 1)) * n + (69069 * s * s + 7 * s) % 2305843009213693951) % 2305843009213693951 / 2147483648) % z
theorem mixed_eq (n s z : Int) (h1 : -18446744073709551616 < s) (h2 : s < 18446744073709551616) (hz : 0 < z) : F_mixed [.int n, .int s, .int z] = .ok (.sh (.int (mixedZ n s z))) ∧ F_law_mixed [.int n, .int s, .int z] = .ok (.sh (.int (mixedZ n s z))) := by
  have n0 : ¬ z = 0 := by omega
  have f0 := Int.emod_nonneg (1103515245 * s + 12345) (show (2305843009213693951 - 1 : Int) ≠ 0 by decide)
  have f1 := Int.emod_lt_of_pos (1103515245 * s + 12345) (show (0 : Int) < 2305843009213693951 - 1 by decide)
  have a1 := mul_ok (mulC_l (i := 1103515245) (j := s) (by decide) (by decide))
  have a2 := mul_ok (mulC_l (i := 69069) (j := s) (by decide) (by decide))
  have a3 := mul_ok (mulC_r (i := 69069 * s) (j := s) h1 h2)
  have a4 := mul_ok (mulC_l (i := 7) (j := s) (by decide) (by decide))
  have a5 := mul_ok (mulC_l (i := 1 + (1103515245 * s + 12345) % (2305843009213693951 - 1)) (j := n) (by omega) (by omega))
  have c1 := fun i : Int => mod_ok (i := i) (show (0 : Int) < 2305843009213693951 - 1 by decide)
  have c2 := fun i : Int => mod_ok (i := i) (show (0 : Int) < 2305843009213693951 by decide)
  have c3 := fun i : Int => mod_ok (i := i) hz
  have c4 := fun i : Int => div_ok (i := i) (show (0 : Int) < 2147483648 by decide) (by decide)
  refine ⟨?_, ?_⟩
  · simp only [F_mixed, g_mixed, bodyD, start3, sSeq, sSet, gsome, give1, List.foldl_cons, List.foldl_nil, sRet, sRetV, sIf, sExpr, sNil, R.toRt, vsh, vall, L3.gall, pub_sh, pub_ow, pub_no, any_sh, any_ow, any_no, give_sh, give_ow, give_no, eOp, eVar, eC, eTest, eTruth, truthD, boolD, eCall, eFn, R.calm, aNil, aCons, eTup, eLst, eIf, eAnd, eOr, eNot, tAndF, tOrF, tNotF, eIs, isT_int_non, isT_int_bl, isT_int_int, isT_int_str, isT_int_lst, isT_int_tup, isT_bool_non, isT_bool_bl, isT_bool_int, isT_bool_str, isT_bool_lst, isT_bool_tup, isT_str_non, isT_str_bl, isT_str_int, isT_str_str, isT_str_lst, isT_str_tup, isT_list_non, isT_list_bl, isT_list_int, isT_list_str, isT_list_lst, isT_list_tup, isT_tuple_non, isT_tuple_bl, isT_tuple_int, isT_tuple_str, isT_tuple_lst, isT_tuple_tup, eSlice, oNone, oSome, intPart, eMeth, eMeth0, tyD, iArgs, iOf, itemsD, R.bind_ok, R.bind_no, R.bind_ex, W.d_sh, W.d_ow, List.map_cons, List.map_nil, List.cons_append, List.nil_append, List.append_nil, List.replicate_succ, List.replicate_zero, List.length_cons, List.length_nil, List.set_cons_zero, List.set_cons_succ, List.getElem?_cons_zero, List.getElem?_cons_succ, Nat.reduceAdd, Nat.reduceSub, Nat.reduceLeDiff, if_true, if_false, flatD, ↓reduceIte, Bool.false_eq_true, Bool.not_true, Bool.not_false, Bool.true_and, Bool.false_and, Nat.zero_add, decide_true, decide_false, reduceCtorEq, gC, gV, eqD_int, n0, sub_ok, add_ok, a1, a2, a3, a4, c1, c2, a5, c4, c3]
    rfl
  · simp only [F_law_mixed, g_law_mixed, bodyD, start3, sSeq, sSet, gsome, give1, List.foldl_cons, List.foldl_nil, sRet, sRetV, sIf, sExpr, sNil, R.toRt, vsh, vall, L3.gall, pub_sh, pub_ow, pub_no, any_sh, any_ow, any_no, give_sh, give_ow, give_no, eOp, eVar, eC, eTest, eTruth, truthD, boolD, eCall, eFn, R.calm, aNil, aCons, eTup, eLst, eIf, eAnd, eOr, eNot, tAndF, tOrF, tNotF, eIs, isT_int_non, isT_int_bl, isT_int_int, isT_int_str, isT_int_lst, isT_int_tup, isT_bool_non, isT_bool_bl, isT_bool_int, isT_bool_str, isT_bool_lst, isT_bool_tup, isT_str_non, isT_str_bl, isT_str_int, isT_str_str, isT_str_lst, isT_str_tup, isT_list_non, isT_list_bl, isT_list_int, isT_list_str, isT_list_lst, isT_list_tup, isT_tuple_non, isT_tuple_bl, isT_tuple_int, isT_tuple_str, isT_tuple_lst, isT_tuple_tup, eSlice, oNone, oSome, intPart, eMeth, eMeth0, tyD, iArgs, iOf, itemsD, R.bind_ok, R.bind_no, R.bind_ex, W.d_sh, W.d_ow, List.map_cons, List.map_nil, List.cons_append, List.nil_append, List.append_nil, List.replicate_succ, List.replicate_zero, List.length_cons, List.length_nil, List.set_cons_zero, List.set_cons_succ, List.getElem?_cons_zero, List.getElem?_cons_succ, Nat.reduceAdd, Nat.reduceSub, Nat.reduceLeDiff, if_true, if_false, flatD, ↓reduceIte, Bool.false_eq_true, Bool.not_true, Bool.not_false, Bool.true_and, Bool.false_and, Nat.zero_add, decide_true, decide_false, reduceCtorEq, gC, gV, sub_ok, add_ok, a1, a2, a3, a4, c1, c2, a5, c4, c3]
    rfl
end My

namespace My
open PySem L2 L3
theorem two_to_eq (w : Nat) (h : w ≤ 1000) : F_two_to [.int (w : Int)] = .ok (.sh (.int (2 ^ w))) := by
  obtain ⟨Δ', e, a2, rfl⟩ := loop_ints (gV 2) b_two_to_1 (fun k Δ => ∃ a2, Δ = [.sh (.int (w : Int)), .sh (.int (2 ^ k)), a2]) (n := w) (lo := 0) (Δ := [.sh (.int (w : Int)), .sh (.int 1), .no]) ⟨.no, rfl⟩ (fun k Δ hk hI => by
    obtain ⟨a2, rfl⟩ := hI
    refine ⟨_, rfl, [.sh (.int (w : Int)), .sh (.int (2 ^ (k + 1))), .sh (.int (0 + (k : Int)))], .inl ?_, _, rfl⟩
    simp only [b_two_to_1, bodyD, start3, sSeq, sSet, gsome, give1, List.foldl_cons, List.foldl_nil, sRet, sRetV, sIf, sExpr, sNil, R.toRt, vsh, vall, L3.gall, pub_sh, pub_ow, pub_no, any_sh, any_ow, any_no, give_sh, give_ow, give_no, eOp, eVar, eC, eTest, eTruth, truthD, boolD, eCall, eFn, R.calm, aNil, aCons, eTup, eLst, eIf, eAnd, eOr, eNot, tAndF, tOrF, tNotF, eIs, isT_int_non, isT_int_bl, isT_int_int, isT_int_str, isT_int_lst, isT_int_tup, isT_bool_non, isT_bool_bl, isT_bool_int, isT_bool_str, isT_bool_lst, isT_bool_tup, isT_str_non, isT_str_bl, isT_str_int, isT_str_str, isT_str_lst, isT_str_tup, isT_list_non, isT_list_bl, isT_list_int, isT_list_str, isT_list_lst, isT_list_tup, isT_tuple_non, isT_tuple_bl, isT_tuple_int, isT_tuple_str, isT_tuple_lst, isT_tuple_tup, eSlice, oNone, oSome, intPart, eMeth, eMeth0, tyD, iArgs, iOf, itemsD, R.bind_ok, R.bind_no, R.bind_ex, W.d_sh, W.d_ow, List.map_cons, List.map_nil, List.cons_append, List.nil_append, List.append_nil, List.replicate_succ, List.replicate_zero, List.length_cons, List.length_nil, List.set_cons_zero, List.set_cons_succ, List.getElem?_cons_zero, List.getElem?_cons_succ, Nat.reduceAdd, Nat.reduceSub, Nat.reduceLeDiff, if_true, if_false, flatD, ↓reduceIte, Bool.false_eq_true, Bool.not_true, Bool.not_false, Bool.true_and, Bool.false_and, Nat.zero_add, decide_true, decide_false, reduceCtorEq, gC, gV, mul_ok (mulC_r (show (-18446744073709551616 : Int) < 2 by decide) (by decide))]
    rw [Int.pow_succ])
  have hw : ((w : Int)).toNat = w := by omega
  simp only [F_two_to, g_two_to, bodyD, start3, sSeq, sSet, gsome, give1, List.foldl_cons, List.foldl_nil, sRet, sRetV, sIf, sExpr, sNil, R.toRt, vsh, vall, L3.gall, pub_sh, pub_ow, pub_no, any_sh, any_ow, any_no, give_sh, give_ow, give_no, eOp, eVar, eC, eTest, eTruth, truthD, boolD, eCall, eFn, R.calm, aNil, aCons, eTup, eLst, eIf, eAnd, eOr, eNot, tAndF, tOrF, tNotF, eIs, isT_int_non, isT_int_bl, isT_int_int, isT_int_str, isT_int_lst, isT_int_tup, isT_bool_non, isT_bool_bl, isT_bool_int, isT_bool_str, isT_bool_lst, isT_bool_tup, isT_str_non, isT_str_bl, isT_str_int, isT_str_str, isT_str_lst, isT_str_tup, isT_list_non, isT_list_bl, isT_list_int, isT_list_str, isT_list_lst, isT_list_tup, isT_tuple_non, isT_tuple_bl, isT_tuple_int, isT_tuple_str, isT_tuple_lst, isT_tuple_tup, eSlice, oNone, oSome, intPart, eMeth, eMeth0, tyD, iArgs, iOf, itemsD, R.bind_ok, R.bind_no, R.bind_ex, W.d_sh, W.d_ow, List.map_cons, List.map_nil, List.cons_append, List.nil_append, List.append_nil, List.replicate_succ, List.replicate_zero, List.length_cons, List.length_nil, List.set_cons_zero, List.set_cons_succ, List.getElem?_cons_zero, List.getElem?_cons_succ, Nat.reduceAdd, Nat.reduceSub, Nat.reduceLeDiff, if_true, if_false, flatD, ↓reduceIte, Bool.false_eq_true, Bool.not_true, Bool.not_false, Bool.true_and, Bool.false_and, Nat.zero_add, decide_true, decide_false, reduceCtorEq, gC, gV, sFor, rng1_ok (show (-4611686018427387903 : Int) ≤ w by omega) (by omega), hw, e]
end My

namespace My
open PySem L2 L3
def okT (d : D) : Prop := ∃ n s z : Int, d = .lst [.int n, .int s, .int z] ∧ -18446744073709551616 < s ∧ s < 18446744073709551616 ∧ 0 < z
theorem four_at {a b c d : Int} (z : Int) : ∃ q : Int, (q = a ∨ q = b ∨ q = c ∨ q = d) ∧ atI [D.int a, .int b, .int c, .int d] (z % 4) = some (.int q) := by
  have : z % 4 = 0 ∨ z % 4 = 1 ∨ z % 4 = 2 ∨ z % 4 = 3 := by omega
  rcases this with h | h | h | h <;> rw [h]
  · exact ⟨a, .inl rfl, rfl⟩
  · exact ⟨b, .inr (.inl rfl), rfl⟩
  · exact ⟨c, .inr (.inr (.inl rfl)), rfl⟩
  · exact ⟨d, .inr (.inr (.inr rfl)), rfl⟩
theorem cs_at {cs : List Int} {j : Int} (h0 : 0 ≤ j) (h1 : j < cs.length) : ixD (.lst (cs.map .int)) (.int j) = .ok (.sh (.int (cs.getD j.toNat 0))) := by
  refine ix_lst (atI_at h0 ?_)
  have : j.toNat < cs.length := by omega
  rw [List.getElem?_map]
  simp [List.getD, this]
theorem three_eq (cs : List Int) (k : Nat) (h : 3 * k + 2 < cs.length) (h2 : cs.length ≤ 1000) : ∃ d, okT d ∧ F_law_three [.lst (cs.map .int), .int (k : Int)] = .ok (.ow d) := by
  have p9 := pow_ok (powC_ok1 (i := 10) (j := 9) (by decide) (by decide) (by decide) (by decide))
  have p18 := pow_ok (powC_ok1 (i := 10) (j := 18) (by decide) (by decide) (by decide) (by decide))
  have p32 := pow_ok (powC_ok1 (i := 2) (j := 32) (by decide) (by decide) (by decide) (by decide))
  have p40 := pow_ok (powC_ok1 (i := 2) (j := 40) (by decide) (by decide) (by decide) (by decide))
  have e9 : (10 : Int) ^ (9 : Int).toNat = 1000000000 := by decide
  have e18 : (10 : Int) ^ (18 : Int).toNat = 1000000000000000000 := by decide
  have e32 : (2 : Int) ^ (32 : Int).toNat = 4294967296 := by decide
  have e40 : (2 : Int) ^ (40 : Int).toNat = 1099511627776 := by decide
  rw [e9] at p9
  rw [e18] at p18
  rw [e32] at p32
  rw [e40] at p40
  have m3 := mul_ok (mulC_l (i := 3) (j := (k : Int)) (by decide) (by decide))
  have i0 := cs_at (cs := cs) (j := 3 * (k : Int)) (by omega) (by omega)
  have i1 := cs_at (cs := cs) (j := 3 * (k : Int) + 1) (by omega) (by omega)
  have i2 := cs_at (cs := cs) (j := 3 * (k : Int) + 2) (by omega) (by omega)
  generalize cs.getD (3 * (k : Int)).toNat 0 = x0 at i0
  generalize cs.getD (3 * (k : Int) + 1).toNat 0 = x1 at i1
  generalize cs.getD (3 * (k : Int) + 2).toNat 0 = x2 at i2
  obtain ⟨q1, hq1, a1⟩ := four_at (a := 10) (b := 1000) (c := 1000000000) (d := 1000000000000000000) x1
  obtain ⟨q2, hq2, a2⟩ := four_at (a := 10) (b := 1000) (c := 4294967296) (d := 1099511627776) x2
  have q1p : 0 < q1 ∧ q1 ≤ 1000000000000000000 := by rcases hq1 with rfl | rfl | rfl | rfl <;> decide
  have q2p : 0 < q2 := by rcases hq2 with rfl | rfl | rfl | rfl <;> decide
  have b1 := Int.emod_nonneg (x1 / 4) (show q1 ≠ 0 by omega)
  have b2 := Int.emod_lt_of_pos (x1 / 4) q1p.1
  have b3 := Int.emod_nonneg (x2 / 4) (show q2 ≠ 0 by omega)
  refine ⟨.lst [.int (x0 % 2305843009213693951), .int (x1 / 4 % q1), .int (1 + x2 / 4 % q2)], ⟨_, _, _, rfl, by omega, by omega, by omega⟩, ?_⟩
  simp only [F_law_three, g_law_three, bodyD, start3, sSeq, sSet, gsome, give1, List.foldl_cons, List.foldl_nil, sRet, sRetV, sIf, sExpr, sNil, R.toRt, vsh, vall, L3.gall, pub_sh, pub_ow, pub_no, any_sh, any_ow, any_no, give_sh, give_ow, give_no, eOp, eVar, eC, eTest, eTruth, truthD, boolD, eCall, eFn, R.calm, aNil, aCons, eTup, eLst, eIf, eAnd, eOr, eNot, tAndF, tOrF, tNotF, eIs, isT_int_non, isT_int_bl, isT_int_int, isT_int_str, isT_int_lst, isT_int_tup, isT_bool_non, isT_bool_bl, isT_bool_int, isT_bool_str, isT_bool_lst, isT_bool_tup, isT_str_non, isT_str_bl, isT_str_int, isT_str_str, isT_str_lst, isT_str_tup, isT_list_non, isT_list_bl, isT_list_int, isT_list_str, isT_list_lst, isT_list_tup, isT_tuple_non, isT_tuple_bl, isT_tuple_int, isT_tuple_str, isT_tuple_lst, isT_tuple_tup, eSlice, oNone, oSome, intPart, eMeth, eMeth0, tyD, iArgs, iOf, itemsD, R.bind_ok, R.bind_no, R.bind_ex, W.d_sh, W.d_ow, List.map_cons, List.map_nil, List.cons_append, List.nil_append, List.append_nil, List.replicate_succ, List.replicate_zero, List.length_cons, List.length_nil, List.set_cons_zero, List.set_cons_succ, List.getElem?_cons_zero, List.getElem?_cons_succ, Nat.reduceAdd, Nat.reduceSub, Nat.reduceLeDiff, if_true, if_false, flatD, ↓reduceIte, Bool.false_eq_true, Bool.not_true, Bool.not_false, Bool.true_and, Bool.false_and, Nat.zero_add, decide_true, decide_false, reduceCtorEq, gC, gV, m3, add_ok, i0, i1, i2, mod_ok (show (0 : Int) < 2305843009213693951 by decide), div_ok (show (0 : Int) < 4 by decide) (by decide), mod_ok (show (0 : Int) < 4 by decide), p9, p18, p32, p40, ix_lst a1, ix_lst a2, mod_ok q1p.1, mod_ok q2p]
theorem whole_int (i : Int) : F_law_whole [.int i] = .ok (.sh (.bl true)) := by
  simp only [F_law_whole, g_law_whole, bodyD, start3, sSeq, sSet, gsome, give1, List.foldl_cons, List.foldl_nil, sRet, sRetV, sIf, sExpr, sNil, R.toRt, vsh, vall, L3.gall, pub_sh, pub_ow, pub_no, any_sh, any_ow, any_no, give_sh, give_ow, give_no, eOp, eVar, eC, eTest, eTruth, truthD, boolD, eCall, eFn, R.calm, aNil, aCons, eTup, eLst, eIf, eAnd, eOr, eNot, tAndF, tOrF, tNotF, eIs, isT_int_non, isT_int_bl, isT_int_int, isT_int_str, isT_int_lst, isT_int_tup, isT_bool_non, isT_bool_bl, isT_bool_int, isT_bool_str, isT_bool_lst, isT_bool_tup, isT_str_non, isT_str_bl, isT_str_int, isT_str_str, isT_str_lst, isT_str_tup, isT_list_non, isT_list_bl, isT_list_int, isT_list_str, isT_list_lst, isT_list_tup, isT_tuple_non, isT_tuple_bl, isT_tuple_int, isT_tuple_str, isT_tuple_lst, isT_tuple_tup, eSlice, oNone, oSome, intPart, eMeth, eMeth0, tyD, iArgs, iOf, itemsD, R.bind_ok, R.bind_no, R.bind_ex, W.d_sh, W.d_ow, List.map_cons, List.map_nil, List.cons_append, List.nil_append, List.append_nil, List.replicate_succ, List.replicate_zero, List.length_cons, List.length_nil, List.set_cons_zero, List.set_cons_succ, List.getElem?_cons_zero, List.getElem?_cons_succ, Nat.reduceAdd, Nat.reduceSub, Nat.reduceLeDiff, if_true, if_false, flatD, ↓reduceIte, Bool.false_eq_true, Bool.not_true, Bool.not_false, Bool.true_and, Bool.false_and, Nat.zero_add, decide_true, decide_false, reduceCtorEq, gC, gV]
theorem mark_eq {d : D} (h : isKey d) (w : Nat) (hw : w ≤ 100) : F_mark [d, .int (w : Int)] = .ok (.sh (.int (mixedZ (stampZ d) 3 (2 ^ w)))) := by
  have pos : (0 : Int) < 2 ^ w := Int.pow_pos (by decide)
  simp only [F_mark, g_mark, bodyD, start3, sSeq, sSet, gsome, give1, List.foldl_cons, List.foldl_nil, sRet, sRetV, sIf, sExpr, sNil, R.toRt, vsh, vall, L3.gall, pub_sh, pub_ow, pub_no, any_sh, any_ow, any_no, give_sh, give_ow, give_no, eOp, eVar, eC, eTest, eTruth, truthD, boolD, eCall, eFn, R.calm, aNil, aCons, eTup, eLst, eIf, eAnd, eOr, eNot, tAndF, tOrF, tNotF, eIs, isT_int_non, isT_int_bl, isT_int_int, isT_int_str, isT_int_lst, isT_int_tup, isT_bool_non, isT_bool_bl, isT_bool_int, isT_bool_str, isT_bool_lst, isT_bool_tup, isT_str_non, isT_str_bl, isT_str_int, isT_str_str, isT_str_lst, isT_str_tup, isT_list_non, isT_list_bl, isT_list_int, isT_list_str, isT_list_lst, isT_list_tup, isT_tuple_non, isT_tuple_bl, isT_tuple_int, isT_tuple_str, isT_tuple_lst, isT_tuple_tup, eSlice, oNone, oSome, intPart, eMeth, eMeth0, tyD, iArgs, iOf, itemsD, R.bind_ok, R.bind_no, R.bind_ex, W.d_sh, W.d_ow, List.map_cons, List.map_nil, List.cons_append, List.nil_append, List.append_nil, List.replicate_succ, List.replicate_zero, List.length_cons, List.length_nil, List.set_cons_zero, List.set_cons_succ, List.getElem?_cons_zero, List.getElem?_cons_succ, Nat.reduceAdd, Nat.reduceSub, Nat.reduceLeDiff, if_true, if_false, flatD, ↓reduceIte, Bool.false_eq_true, Bool.not_true, Bool.not_false, Bool.true_and, Bool.false_and, Nat.zero_add, decide_true, decide_false, reduceCtorEq, gC, gV, stamp_eq h, two_to_eq w (by omega), (mixed_eq (stampZ d) 3 (2 ^ w) (by decide) (by decide) pos).1]
theorem law_width_eq {d : D} (h : isKey d) (w : Nat) (hw : w ≤ 100) : F_law_width [d, .int (w : Int)] = .ok (.sh (.bl true)) := by
  have pos : (0 : Int) < 2 ^ w := Int.pow_pos (by decide)
  obtain ⟨Δ', e, a3, rfl⟩ := loop_ints (gV 3) b_law_width_1 (fun k Δ => ∃ a3, Δ = [.sh d, .sh (.int (w : Int)), .sh (.int (2 ^ k)), a3, .no]) (n := w) (lo := 0) (Δ := [.sh d, .sh (.int (w : Int)), .sh (.int 1), .no, .no]) ⟨.no, rfl⟩ (fun k Δ hk hI => by
    obtain ⟨a3, rfl⟩ := hI
    refine ⟨_, rfl, [.sh d, .sh (.int (w : Int)), .sh (.int (2 ^ (k + 1))), .sh (.int (0 + (k : Int))), .no], .inl ?_, _, rfl⟩
    simp only [b_law_width_1, bodyD, start3, sSeq, sSet, gsome, give1, List.foldl_cons, List.foldl_nil, sRet, sRetV, sIf, sExpr, sNil, R.toRt, vsh, vall, L3.gall, pub_sh, pub_ow, pub_no, any_sh, any_ow, any_no, give_sh, give_ow, give_no, eOp, eVar, eC, eTest, eTruth, truthD, boolD, eCall, eFn, R.calm, aNil, aCons, eTup, eLst, eIf, eAnd, eOr, eNot, tAndF, tOrF, tNotF, eIs, isT_int_non, isT_int_bl, isT_int_int, isT_int_str, isT_int_lst, isT_int_tup, isT_bool_non, isT_bool_bl, isT_bool_int, isT_bool_str, isT_bool_lst, isT_bool_tup, isT_str_non, isT_str_bl, isT_str_int, isT_str_str, isT_str_lst, isT_str_tup, isT_list_non, isT_list_bl, isT_list_int, isT_list_str, isT_list_lst, isT_list_tup, isT_tuple_non, isT_tuple_bl, isT_tuple_int, isT_tuple_str, isT_tuple_lst, isT_tuple_tup, eSlice, oNone, oSome, intPart, eMeth, eMeth0, tyD, iArgs, iOf, itemsD, R.bind_ok, R.bind_no, R.bind_ex, W.d_sh, W.d_ow, List.map_cons, List.map_nil, List.cons_append, List.nil_append, List.append_nil, List.replicate_succ, List.replicate_zero, List.length_cons, List.length_nil, List.set_cons_zero, List.set_cons_succ, List.getElem?_cons_zero, List.getElem?_cons_succ, Nat.reduceAdd, Nat.reduceSub, Nat.reduceLeDiff, if_true, if_false, flatD, ↓reduceIte, Bool.false_eq_true, Bool.not_true, Bool.not_false, Bool.true_and, Bool.false_and, Nat.zero_add, decide_true, decide_false, reduceCtorEq, gC, gV, mul_ok (mulC_l (show (-18446744073709551616 : Int) < 2 by decide) (by decide))]
    rw [Int.pow_succ, Int.mul_comm])
  have hw' : ((w : Int)).toNat = w := by omega
  simp only [F_law_width, g_law_width, bodyD, start3, sSeq, sSet, gsome, give1, List.foldl_cons, List.foldl_nil, sRet, sRetV, sIf, sExpr, sNil, R.toRt, vsh, vall, L3.gall, pub_sh, pub_ow, pub_no, any_sh, any_ow, any_no, give_sh, give_ow, give_no, eOp, eVar, eC, eTest, eTruth, truthD, boolD, eCall, eFn, R.calm, aNil, aCons, eTup, eLst, eIf, eAnd, eOr, eNot, tAndF, tOrF, tNotF, eIs, isT_int_non, isT_int_bl, isT_int_int, isT_int_str, isT_int_lst, isT_int_tup, isT_bool_non, isT_bool_bl, isT_bool_int, isT_bool_str, isT_bool_lst, isT_bool_tup, isT_str_non, isT_str_bl, isT_str_int, isT_str_str, isT_str_lst, isT_str_tup, isT_list_non, isT_list_bl, isT_list_int, isT_list_str, isT_list_lst, isT_list_tup, isT_tuple_non, isT_tuple_bl, isT_tuple_int, isT_tuple_str, isT_tuple_lst, isT_tuple_tup, eSlice, oNone, oSome, intPart, eMeth, eMeth0, tyD, iArgs, iOf, itemsD, R.bind_ok, R.bind_no, R.bind_ex, W.d_sh, W.d_ow, List.map_cons, List.map_nil, List.cons_append, List.nil_append, List.append_nil, List.replicate_succ, List.replicate_zero, List.length_cons, List.length_nil, List.set_cons_zero, List.set_cons_succ, List.getElem?_cons_zero, List.getElem?_cons_succ, Nat.reduceAdd, Nat.reduceSub, Nat.reduceLeDiff, if_true, if_false, flatD, ↓reduceIte, Bool.false_eq_true, Bool.not_true, Bool.not_false, Bool.true_and, Bool.false_and, Nat.zero_add, decide_true, decide_false, reduceCtorEq, gC, gV, sFor, rng1_ok (show (-4611686018427387903 : Int) ≤ w by omega) (by omega), hw', e, mark_eq h w hw, whole_int, law_stamp_eq h, (mixed_eq (stampZ d) 3 (2 ^ w) (by decide) (by decide) pos).2, eqD_int]
theorem canInts' (ns : List Int) : eqD (.lst (ns.map .int)) (.lst (ns.map .int)) = .ok (.sh (.bl true)) := by
  have h1 : eqC (.lst (ns.map .int)) (.lst (ns.map .int)) = true := eqC_ints ns ns
  have h2 : eqvD (.lst (ns.map .int)) (.lst (ns.map .int)) = true := eqvs_self ns
  show (if eqC (.lst (ns.map .int)) (.lst (ns.map .int)) = true then R.ok (W.sh (D.bl (eqvD (.lst (ns.map .int)) (.lst (ns.map .int))))) else .no) = _
  rw [if_pos h1, h2]
/-- what mixing tells of one that is asked -/
def toldT : D → Int
  | .lst [.int n, .int s, .int z] => mixedZ n s z
  | _ => 0
theorem law_true (ns : List Int) (hn : ns.length ≤ 63) : ∃ v, F_law [.lst (ns.map D.int)] = .ok v ∧ v.d = .bl true := by
  obtain ⟨cs, hc, ec⟩ := cells_eq ns 1 60 hn (by decide) (by decide) (by decide) (by decide)
  obtain ⟨z0, hz0⟩ := cell_eq ns 0 (by decide) (by decide)
  obtain ⟨z1, hz1⟩ := cell_eq ns 1 (by decide) (by decide)
  obtain ⟨z2, hz2⟩ := cell_eq ns 2 (by decide) (by decide)
  obtain ⟨z3, hz3⟩ := cell_eq ns 3 (by decide) (by decide)
  obtain ⟨ks, k0, k1, k2, k3, ek⟩ := keys_eq ns 1 60 hn (by decide) (by decide) (by decide) (by decide)
  -- what is asked
  have tf : ∀ k : Nat, ∃ d, 3 * k + 2 < cs.length → okT d ∧ F_law_three [.lst (cs.map .int), .int (k : Int)] = .ok (.ow d) := fun k => by
    by_cases h : 3 * k + 2 < cs.length
    · obtain ⟨d, h1, h2⟩ := three_eq cs k h (by omega)
      exact ⟨d, fun _ => ⟨h1, h2⟩⟩
    · exact ⟨.non, fun h' => absurd h' h⟩
  have tf' := fun k => Classical.choose_spec (tf k)
  generalize hT : (fun k => Classical.choose (tf k)) = T at tf'
  have tf2 : ∀ k : Nat, 3 * k + 2 < cs.length → okT (T k) ∧ F_law_three [.lst (cs.map .int), .int (k : Int)] = .ok (.ow (T k)) := fun k hk => by
    have := tf' k hk
    rw [← hT]
    exact this
  have hdiv : ((cs.length : Int) / 3).toNat = cs.length / 3 := by omega
  have ec1 := comp_ints (fg := gC 11) (p := fun _ => .ok true) (f := e_law_1) (δ := [some (.lst (ns.map .int)), some (.lst (cs.map .int)), none, none, none, none, none, none, none, none, none, none]) (F := fun i => T i.toNat) (cs.length / 3) 0 (fun k hk => by
    obtain ⟨_, h2⟩ := tf2 k (by omega)
    refine ⟨_, .ow (T k), rfl, rfl, ?_, ?_⟩
    · have e0 : (0 : Int) + (k : Int) = (k : Int) := by omega
      rw [e0]
      simp only [e_law_1, bodyD, start3, sSeq, sSet, gsome, give1, List.foldl_cons, List.foldl_nil, sRet, sRetV, sIf, sExpr, sNil, R.toRt, vsh, vall, L3.gall, pub_sh, pub_ow, pub_no, any_sh, any_ow, any_no, give_sh, give_ow, give_no, eOp, eVar, eC, eTest, eTruth, truthD, boolD, eCall, eFn, R.calm, aNil, aCons, eTup, eLst, eIf, eAnd, eOr, eNot, tAndF, tOrF, tNotF, eIs, isT_int_non, isT_int_bl, isT_int_int, isT_int_str, isT_int_lst, isT_int_tup, isT_bool_non, isT_bool_bl, isT_bool_int, isT_bool_str, isT_bool_lst, isT_bool_tup, isT_str_non, isT_str_bl, isT_str_int, isT_str_str, isT_str_lst, isT_str_tup, isT_list_non, isT_list_bl, isT_list_int, isT_list_str, isT_list_lst, isT_list_tup, isT_tuple_non, isT_tuple_bl, isT_tuple_int, isT_tuple_str, isT_tuple_lst, isT_tuple_tup, eSlice, oNone, oSome, intPart, eMeth, eMeth0, tyD, iArgs, iOf, itemsD, R.bind_ok, R.bind_no, R.bind_ex, W.d_sh, W.d_ow, List.map_cons, List.map_nil, List.cons_append, List.nil_append, List.append_nil, List.replicate_succ, List.replicate_zero, List.length_cons, List.length_nil, List.set_cons_zero, List.set_cons_succ, List.getElem?_cons_zero, List.getElem?_cons_succ, Nat.reduceAdd, Nat.reduceSub, Nat.reduceLeDiff, if_true, if_false, flatD, ↓reduceIte, Bool.false_eq_true, Bool.not_true, Bool.not_false, Bool.true_and, Bool.false_and, Nat.zero_add, decide_true, decide_false, reduceCtorEq, gC, gV, h2]
    · have e0 : ((0 : Int) + (k : Int)).toNat = k := by omega
      rw [e0]
      rfl)
  generalize hA : (List.range (cs.length / 3)).map (fun (k : Nat) => (fun i : Int => T i.toNat) (0 + (k : Int))) = asked at ec1
  have hA1 : ∀ d ∈ asked, okT d := by
    rw [← hA]
    intro d hd
    obtain ⟨k, hk, rfl⟩ := List.mem_map.mp hd
    have hk := List.mem_range.mp hk
    have e0 : ((0 : Int) + (k : Int)).toNat = k := by omega
    show okT (T ((0 : Int) + (k : Int)).toNat)
    rw [e0]
    exact (tf2 k (by omega)).1
  have hAl : asked.length ≤ 60 := by rw [← hA, List.length_map, List.length_range]; omega
  have er1 : rng1 [.int ((cs.length : Int) / 3)] = .ok (zints 0 (cs.length / 3)) := by
    rw [rng1_ok (by omega) (by omega), hdiv]
  have ec2 := eComp_ok (m := 1) (fi := iArgs rng1 (aCons (eOp divD (eCall lenD (aCons (eVar 1) aNil)) (eC (.int 3))) aNil)) (fg := gC 11) (p := fun _ => .ok true) (f := e_law_1) (δ := [some (.lst (ns.map .int)), some (.lst (cs.map .int)), none, none, none, none, none, none, none, none, none]) (by
    simp only [bodyD, start3, sSeq, sSet, gsome, give1, List.foldl_cons, List.foldl_nil, sRet, sRetV, sIf, sExpr, sNil, R.toRt, vsh, vall, L3.gall, pub_sh, pub_ow, pub_no, any_sh, any_ow, any_no, give_sh, give_ow, give_no, eOp, eVar, eC, eTest, eTruth, truthD, boolD, eCall, eFn, R.calm, aNil, aCons, eTup, eLst, eIf, eAnd, eOr, eNot, tAndF, tOrF, tNotF, eIs, isT_int_non, isT_int_bl, isT_int_int, isT_int_str, isT_int_lst, isT_int_tup, isT_bool_non, isT_bool_bl, isT_bool_int, isT_bool_str, isT_bool_lst, isT_bool_tup, isT_str_non, isT_str_bl, isT_str_int, isT_str_str, isT_str_lst, isT_str_tup, isT_list_non, isT_list_bl, isT_list_int, isT_list_str, isT_list_lst, isT_list_tup, isT_tuple_non, isT_tuple_bl, isT_tuple_int, isT_tuple_str, isT_tuple_lst, isT_tuple_tup, eSlice, oNone, oSome, intPart, eMeth, eMeth0, tyD, iArgs, iOf, itemsD, R.bind_ok, R.bind_no, R.bind_ex, W.d_sh, W.d_ow, List.map_cons, List.map_nil, List.cons_append, List.nil_append, List.append_nil, List.replicate_succ, List.replicate_zero, List.length_cons, List.length_nil, List.set_cons_zero, List.set_cons_succ, List.getElem?_cons_zero, List.getElem?_cons_succ, Nat.reduceAdd, Nat.reduceSub, Nat.reduceLeDiff, if_true, if_false, flatD, ↓reduceIte, Bool.false_eq_true, Bool.not_true, Bool.not_false, Bool.true_and, Bool.false_and, Nat.zero_add, decide_true, decide_false, reduceCtorEq, gC, gV, len_lst, List.length_map, div_ok (show (0 : Int) < 3 by decide) (by decide), er1]) (by rw [zints_len]; omega) ec1
  have en2 : eComp 1 (iArgs rng1 (aCons (eOp divD (eCall lenD (aCons (eVar 1) aNil)) (eC (.int 3))) aNil)) (gC 11) (fun _ => .ok true) e_law_1 [some (.lst (ns.map .int)), none, none, none, none, none, none, none, none, none, none] = .no := by simp only [eComp, bodyD, start3, sSeq, sSet, gsome, give1, List.foldl_cons, List.foldl_nil, sRet, sRetV, sIf, sExpr, sNil, R.toRt, vsh, vall, L3.gall, pub_sh, pub_ow, pub_no, any_sh, any_ow, any_no, give_sh, give_ow, give_no, eOp, eVar, eC, eTest, eTruth, truthD, boolD, eCall, eFn, R.calm, aNil, aCons, eTup, eLst, eIf, eAnd, eOr, eNot, tAndF, tOrF, tNotF, eIs, isT_int_non, isT_int_bl, isT_int_int, isT_int_str, isT_int_lst, isT_int_tup, isT_bool_non, isT_bool_bl, isT_bool_int, isT_bool_str, isT_bool_lst, isT_bool_tup, isT_str_non, isT_str_bl, isT_str_int, isT_str_str, isT_str_lst, isT_str_tup, isT_list_non, isT_list_bl, isT_list_int, isT_list_str, isT_list_lst, isT_list_tup, isT_tuple_non, isT_tuple_bl, isT_tuple_int, isT_tuple_str, isT_tuple_lst, isT_tuple_tup, eSlice, oNone, oSome, intPart, eMeth, eMeth0, tyD, iArgs, iOf, itemsD, R.bind_ok, R.bind_no, R.bind_ex, W.d_sh, W.d_ow, List.map_cons, List.map_nil, List.cons_append, List.nil_append, List.append_nil, List.replicate_succ, List.replicate_zero, List.length_cons, List.length_nil, List.set_cons_zero, List.set_cons_succ, List.getElem?_cons_zero, List.getElem?_cons_succ, Nat.reduceAdd, Nat.reduceSub, Nat.reduceLeDiff, if_true, if_false, flatD, ↓reduceIte, Bool.false_eq_true, Bool.not_true, Bool.not_false, Bool.true_and, Bool.false_and, Nat.zero_add, decide_true, decide_false, reduceCtorEq, gC, gV]
  have hlast : okT (.lst [.int z1, .int (z2 % 300), .int (1 + z3 % 70)]) := ⟨_, _, _, rfl, by omega, by omega, by omega⟩
  generalize hB : asked ++ [D.lst [.int z1, .int (z2 % 300), .int (1 + z3 % 70)]] = B
  have hB1 : ∀ d ∈ B, okT d := by
    rw [← hB]
    intro d hd
    rcases List.mem_append.mp hd with hd | hd
    · exact hA1 d hd
    · have : d = .lst [.int z1, .int (z2 % 300), .int (1 + z3 % 70)] := by simpa using hd
      rw [this]; exact hlast
  have hBl : B.length ≤ 61 := by rw [← hB, List.length_append]; simp; omega
  -- the first walk
  obtain ⟨Δ1, el1, a5, a6, a7, a8, rfl⟩ := loop_list (gV3 5 6 7) b_law_1 (fun k Δ => ∃ a5 a6 a7 a8, Δ = [.sh (.lst (ns.map .int)), .sh (.lst (cs.map .int)), .sh (.lst B), .ow (.lst (((B.take k).map toldT).map .int)), .no, a5, a6, a7, a8, .no, .no]) (ds := B)
    (Δ := [.sh (.lst (ns.map .int)), .sh (.lst (cs.map .int)), .sh (.lst B), .ow (.lst []), .no, .no, .no, .no, .no, .no, .no]) ⟨_, _, _, _, rfl⟩ (fun k d Δ hk hI => by
    obtain ⟨a5, a6, a7, a8, rfl⟩ := hI
    obtain ⟨n, s, z, rfl, s1, s2, zp⟩ := hB1 d (List.mem_of_getElem? hk)
    obtain ⟨mx, lmx⟩ := mixed_eq n s z s1 s2 zp
    have hl2 : (((B.take k).map toldT).map D.int).length < 16777216 := by rw [List.length_map, List.length_map, List.length_take]; omega
    have tk : (B.take (k + 1)).map toldT = (B.take k).map toldT ++ [mixedZ n s z] := by rw [List.take_add_one, hk, List.map_append]; rfl
    refine ⟨_, rfl, [.sh (.lst (ns.map .int)), .sh (.lst (cs.map .int)), .sh (.lst B), .ow (.lst (((B.take (k + 1)).map toldT).map .int)), .no, .sh (.int n), .sh (.int s), .sh (.int z), .sh (.int (mixedZ n s z)), .no, .no], .inl ?_, _, _, _, _, rfl⟩
    rw [tk, List.map_append]
    simp only [b_law_1, bodyD, start3, sSeq, sSet, gsome, give1, List.foldl_cons, List.foldl_nil, sRet, sRetV, sIf, sExpr, sNil, R.toRt, vsh, vall, L3.gall, pub_sh, pub_ow, pub_no, any_sh, any_ow, any_no, give_sh, give_ow, give_no, eOp, eVar, eC, eTest, eTruth, truthD, boolD, eCall, eFn, R.calm, aNil, aCons, eTup, eLst, eIf, eAnd, eOr, eNot, tAndF, tOrF, tNotF, eIs, isT_int_non, isT_int_bl, isT_int_int, isT_int_str, isT_int_lst, isT_int_tup, isT_bool_non, isT_bool_bl, isT_bool_int, isT_bool_str, isT_bool_lst, isT_bool_tup, isT_str_non, isT_str_bl, isT_str_int, isT_str_str, isT_str_lst, isT_str_tup, isT_list_non, isT_list_bl, isT_list_int, isT_list_str, isT_list_lst, isT_list_tup, isT_tuple_non, isT_tuple_bl, isT_tuple_int, isT_tuple_str, isT_tuple_lst, isT_tuple_tup, eSlice, oNone, oSome, intPart, eMeth, eMeth0, tyD, iArgs, iOf, itemsD, R.bind_ok, R.bind_no, R.bind_ex, W.d_sh, W.d_ow, List.map_cons, List.map_nil, List.cons_append, List.nil_append, List.append_nil, List.replicate_succ, List.replicate_zero, List.length_cons, List.length_nil, List.set_cons_zero, List.set_cons_succ, List.getElem?_cons_zero, List.getElem?_cons_succ, Nat.reduceAdd, Nat.reduceSub, Nat.reduceLeDiff, if_true, if_false, flatD, ↓reduceIte, Bool.false_eq_true, Bool.not_true, Bool.not_false, Bool.true_and, Bool.false_and, Nat.zero_add, decide_true, decide_false, reduceCtorEq, gC, gV, mx, whole_int, lmx, neD_int, sApp, hl2])
  rw [List.take_length] at el1
  -- the keys
  obtain ⟨Δ2, el2, a9, a10, rfl⟩ := loop_list (gV2 9 10) b_law_2 (fun k Δ => ∃ a9 a10, Δ = [.sh (.lst (ns.map .int)), .sh (.lst (cs.map .int)), .sh (.lst B), .ow (.lst ((B.map toldT).map .int)), .sh (.lst ks), a5, a6, a7, a8, a9, a10]) (ds := enumD 0 ks)
    (Δ := [.sh (.lst (ns.map .int)), .sh (.lst (cs.map .int)), .sh (.lst B), .ow (.lst ((B.map toldT).map .int)), .sh (.lst ks), a5, a6, a7, a8, .no, .no]) ⟨_, _, rfl⟩ (fun k d Δ hk hI => by
    obtain ⟨a9, a10, rfl⟩ := hI
    obtain ⟨d', e1, rfl⟩ := enumD_get hk
    have hd := k2 d' (List.mem_of_getElem? e1)
    have w0 := Int.emod_nonneg (((0 + k : Nat) : Int) + z0) (show (32 : Int) ≠ 0 by decide)
    have w1 := Int.emod_lt_of_pos (((0 + k : Nat) : Int) + z0) (show (0 : Int) < 32 by decide)
    have lw := law_width_eq hd (1 + (((0 + k : Nat) : Int) + z0) % 32).toNat (by omega)
    rw [show (((1 + (((0 + k : Nat) : Int) + z0) % 32).toNat : Nat) : Int) = 1 + (((0 + k : Nat) : Int) + z0) % 32 by omega] at lw
    refine ⟨_, rfl, [.sh (.lst (ns.map .int)), .sh (.lst (cs.map .int)), .sh (.lst B), .ow (.lst ((B.map toldT).map .int)), .sh (.lst ks), a5, a6, a7, a8, .sh (.int ((0 + k : Nat) : Int)), .sh d'], .inl ?_, _, _, rfl⟩
    simp only [Nat.zero_add] at lw
    simp only [b_law_2, bodyD, start3, sSeq, sSet, gsome, give1, List.foldl_cons, List.foldl_nil, sRet, sRetV, sIf, sExpr, sNil, R.toRt, vsh, vall, L3.gall, pub_sh, pub_ow, pub_no, any_sh, any_ow, any_no, give_sh, give_ow, give_no, eOp, eVar, eC, eTest, eTruth, truthD, boolD, eCall, eFn, R.calm, aNil, aCons, eTup, eLst, eIf, eAnd, eOr, eNot, tAndF, tOrF, tNotF, eIs, isT_int_non, isT_int_bl, isT_int_int, isT_int_str, isT_int_lst, isT_int_tup, isT_bool_non, isT_bool_bl, isT_bool_int, isT_bool_str, isT_bool_lst, isT_bool_tup, isT_str_non, isT_str_bl, isT_str_int, isT_str_str, isT_str_lst, isT_str_tup, isT_list_non, isT_list_bl, isT_list_int, isT_list_str, isT_list_lst, isT_list_tup, isT_tuple_non, isT_tuple_bl, isT_tuple_int, isT_tuple_str, isT_tuple_lst, isT_tuple_tup, eSlice, oNone, oSome, intPart, eMeth, eMeth0, tyD, iArgs, iOf, itemsD, R.bind_ok, R.bind_no, R.bind_ex, W.d_sh, W.d_ow, List.map_cons, List.map_nil, List.cons_append, List.nil_append, List.append_nil, List.replicate_succ, List.replicate_zero, List.length_cons, List.length_nil, List.set_cons_zero, List.set_cons_succ, List.getElem?_cons_zero, List.getElem?_cons_succ, Nat.reduceAdd, Nat.reduceSub, Nat.reduceLeDiff, if_true, if_false, flatD, ↓reduceIte, Bool.false_eq_true, Bool.not_true, Bool.not_false, Bool.true_and, Bool.false_and, Nat.zero_add, decide_true, decide_false, reduceCtorEq, gC, gV, hz0, add_ok, mod_ok (show (0 : Int) < 32 by decide), lw])
  -- told again
  have ec3 := comp_map (fg := gC3 11 12 13) (f := e_law_2) (δ := [some (.lst (ns.map .int)), some (.lst (cs.map .int)), some (.lst B), some (.lst ((B.map toldT).map .int)), some (.lst ks), a5.any, a6.any, a7.any, a8.any, a9.any, a10.any, none, none, none]) (fun d => .int (toldT d)) B (fun d hd => by
    obtain ⟨n, s, z, rfl, s1, s2, zp⟩ := hB1 d hd
    refine ⟨_, .sh (.int (mixedZ n s z)), rfl, ?_, rfl⟩
    simp only [e_law_2, bodyD, start3, sSeq, sSet, gsome, give1, List.foldl_cons, List.foldl_nil, sRet, sRetV, sIf, sExpr, sNil, R.toRt, vsh, vall, L3.gall, pub_sh, pub_ow, pub_no, any_sh, any_ow, any_no, give_sh, give_ow, give_no, eOp, eVar, eC, eTest, eTruth, truthD, boolD, eCall, eFn, R.calm, aNil, aCons, eTup, eLst, eIf, eAnd, eOr, eNot, tAndF, tOrF, tNotF, eIs, isT_int_non, isT_int_bl, isT_int_int, isT_int_str, isT_int_lst, isT_int_tup, isT_bool_non, isT_bool_bl, isT_bool_int, isT_bool_str, isT_bool_lst, isT_bool_tup, isT_str_non, isT_str_bl, isT_str_int, isT_str_str, isT_str_lst, isT_str_tup, isT_list_non, isT_list_bl, isT_list_int, isT_list_str, isT_list_lst, isT_list_tup, isT_tuple_non, isT_tuple_bl, isT_tuple_int, isT_tuple_str, isT_tuple_lst, isT_tuple_tup, eSlice, oNone, oSome, intPart, eMeth, eMeth0, tyD, iArgs, iOf, itemsD, R.bind_ok, R.bind_no, R.bind_ex, W.d_sh, W.d_ow, List.map_cons, List.map_nil, List.cons_append, List.nil_append, List.append_nil, List.replicate_succ, List.replicate_zero, List.length_cons, List.length_nil, List.set_cons_zero, List.set_cons_succ, List.getElem?_cons_zero, List.getElem?_cons_succ, Nat.reduceAdd, Nat.reduceSub, Nat.reduceLeDiff, if_true, if_false, flatD, ↓reduceIte, Bool.false_eq_true, Bool.not_true, Bool.not_false, Bool.true_and, Bool.false_and, Nat.zero_add, decide_true, decide_false, reduceCtorEq, gC, gV, (mixed_eq n s z s1 s2 zp).1])
  have ec4 := eComp_ok (m := 3) (fi := iOf (eVar 2)) (fg := gC3 11 12 13) (p := fun _ => .ok true) (f := e_law_2) (δ := [some (.lst (ns.map .int)), some (.lst (cs.map .int)), some (.lst B), some (.lst ((B.map toldT).map .int)), some (.lst ks), a5.any, a6.any, a7.any, a8.any, a9.any, a10.any]) (by simp only [bodyD, start3, sSeq, sSet, gsome, give1, List.foldl_cons, List.foldl_nil, sRet, sRetV, sIf, sExpr, sNil, R.toRt, vsh, vall, L3.gall, pub_sh, pub_ow, pub_no, any_sh, any_ow, any_no, give_sh, give_ow, give_no, eOp, eVar, eC, eTest, eTruth, truthD, boolD, eCall, eFn, R.calm, aNil, aCons, eTup, eLst, eIf, eAnd, eOr, eNot, tAndF, tOrF, tNotF, eIs, isT_int_non, isT_int_bl, isT_int_int, isT_int_str, isT_int_lst, isT_int_tup, isT_bool_non, isT_bool_bl, isT_bool_int, isT_bool_str, isT_bool_lst, isT_bool_tup, isT_str_non, isT_str_bl, isT_str_int, isT_str_str, isT_str_lst, isT_str_tup, isT_list_non, isT_list_bl, isT_list_int, isT_list_str, isT_list_lst, isT_list_tup, isT_tuple_non, isT_tuple_bl, isT_tuple_int, isT_tuple_str, isT_tuple_lst, isT_tuple_tup, eSlice, oNone, oSome, intPart, eMeth, eMeth0, tyD, iArgs, iOf, itemsD, R.bind_ok, R.bind_no, R.bind_ex, W.d_sh, W.d_ow, List.map_cons, List.map_nil, List.cons_append, List.nil_append, List.append_nil, List.replicate_succ, List.replicate_zero, List.length_cons, List.length_nil, List.set_cons_zero, List.set_cons_succ, List.getElem?_cons_zero, List.getElem?_cons_succ, Nat.reduceAdd, Nat.reduceSub, Nat.reduceLeDiff, if_true, if_false, flatD, ↓reduceIte, Bool.false_eq_true, Bool.not_true, Bool.not_false, Bool.true_and, Bool.false_and, Nat.zero_add, decide_true, decide_false, reduceCtorEq, gC, gV]) (by omega) ec3
  have ef : B.map (fun d => D.int (toldT d)) = (B.map toldT).map .int := by rw [List.map_map]; rfl
  rw [ef] at ec4
  have hal : asked.length < 16777216 := by omega
  refine ⟨.sh (.bl true), ?_, rfl⟩
  have s1 : q_law_1 (start3 11 [.lst (ns.map D.int)]) = .nx [.sh (.lst (ns.map .int)), .ow (.lst (cs.map .int)), .no, .no, .no, .no, .no, .no, .no, .no, .no] := by
    simp only [q_law_1, bodyD, start3, sSeq, sSet, gsome, give1, List.foldl_cons, List.foldl_nil, sRet, sRetV, sIf, sExpr, sNil, R.toRt, vsh, vall, L3.gall, pub_sh, pub_ow, pub_no, any_sh, any_ow, any_no, give_sh, give_ow, give_no, eOp, eVar, eC, eTest, eTruth, truthD, boolD, eCall, eFn, R.calm, aNil, aCons, eTup, eLst, eIf, eAnd, eOr, eNot, tAndF, tOrF, tNotF, eIs, isT_int_non, isT_int_bl, isT_int_int, isT_int_str, isT_int_lst, isT_int_tup, isT_bool_non, isT_bool_bl, isT_bool_int, isT_bool_str, isT_bool_lst, isT_bool_tup, isT_str_non, isT_str_bl, isT_str_int, isT_str_str, isT_str_lst, isT_str_tup, isT_list_non, isT_list_bl, isT_list_int, isT_list_str, isT_list_lst, isT_list_tup, isT_tuple_non, isT_tuple_bl, isT_tuple_int, isT_tuple_str, isT_tuple_lst, isT_tuple_tup, eSlice, oNone, oSome, intPart, eMeth, eMeth0, tyD, iArgs, iOf, itemsD, R.bind_ok, R.bind_no, R.bind_ex, W.d_sh, W.d_ow, List.map_cons, List.map_nil, List.cons_append, List.nil_append, List.append_nil, List.replicate_succ, List.replicate_zero, List.length_cons, List.length_nil, List.set_cons_zero, List.set_cons_succ, List.getElem?_cons_zero, List.getElem?_cons_succ, Nat.reduceAdd, Nat.reduceSub, Nat.reduceLeDiff, if_true, if_false, flatD, ↓reduceIte, Bool.false_eq_true, Bool.not_true, Bool.not_false, Bool.true_and, Bool.false_and, Nat.zero_add, decide_true, decide_false, reduceCtorEq, gC, gV, ec]
  have s2 : q_law_2 [.sh (.lst (ns.map .int)), .ow (.lst (cs.map .int)), .no, .no, .no, .no, .no, .no, .no, .no, .no] = .nx [.sh (.lst (ns.map .int)), .sh (.lst (cs.map .int)), .ow (.lst asked), .no, .no, .no, .no, .no, .no, .no, .no] := by
    simp only [q_law_2, bodyD, start3, sSeq, sSet, gsome, give1, List.foldl_cons, List.foldl_nil, sRet, sRetV, sIf, sExpr, sNil, R.toRt, vsh, vall, L3.gall, pub_sh, pub_ow, pub_no, any_sh, any_ow, any_no, give_sh, give_ow, give_no, eOp, eVar, eC, eTest, eTruth, truthD, boolD, eCall, eFn, R.calm, aNil, aCons, eTup, eLst, eIf, eAnd, eOr, eNot, tAndF, tOrF, tNotF, eIs, isT_int_non, isT_int_bl, isT_int_int, isT_int_str, isT_int_lst, isT_int_tup, isT_bool_non, isT_bool_bl, isT_bool_int, isT_bool_str, isT_bool_lst, isT_bool_tup, isT_str_non, isT_str_bl, isT_str_int, isT_str_str, isT_str_lst, isT_str_tup, isT_list_non, isT_list_bl, isT_list_int, isT_list_str, isT_list_lst, isT_list_tup, isT_tuple_non, isT_tuple_bl, isT_tuple_int, isT_tuple_str, isT_tuple_lst, isT_tuple_tup, eSlice, oNone, oSome, intPart, eMeth, eMeth0, tyD, iArgs, iOf, itemsD, R.bind_ok, R.bind_no, R.bind_ex, W.d_sh, W.d_ow, List.map_cons, List.map_nil, List.cons_append, List.nil_append, List.append_nil, List.replicate_succ, List.replicate_zero, List.length_cons, List.length_nil, List.set_cons_zero, List.set_cons_succ, List.getElem?_cons_zero, List.getElem?_cons_succ, Nat.reduceAdd, Nat.reduceSub, Nat.reduceLeDiff, if_true, if_false, flatD, ↓reduceIte, Bool.false_eq_true, Bool.not_true, Bool.not_false, Bool.true_and, Bool.false_and, Nat.zero_add, decide_true, decide_false, reduceCtorEq, gC, gV, en2, ec2]
  have s3 : q_law_3 [.sh (.lst (ns.map .int)), .sh (.lst (cs.map .int)), .ow (.lst asked), .no, .no, .no, .no, .no, .no, .no, .no] = .nx [.sh (.lst (ns.map .int)), .sh (.lst (cs.map .int)), .ow (.lst B), .no, .no, .no, .no, .no, .no, .no, .no] := by
    rw [← hB]
    simp only [q_law_3, bodyD, start3, sSeq, sSet, gsome, give1, List.foldl_cons, List.foldl_nil, sRet, sRetV, sIf, sExpr, sNil, R.toRt, vsh, vall, L3.gall, pub_sh, pub_ow, pub_no, any_sh, any_ow, any_no, give_sh, give_ow, give_no, eOp, eVar, eC, eTest, eTruth, truthD, boolD, eCall, eFn, R.calm, aNil, aCons, eTup, eLst, eIf, eAnd, eOr, eNot, tAndF, tOrF, tNotF, eIs, isT_int_non, isT_int_bl, isT_int_int, isT_int_str, isT_int_lst, isT_int_tup, isT_bool_non, isT_bool_bl, isT_bool_int, isT_bool_str, isT_bool_lst, isT_bool_tup, isT_str_non, isT_str_bl, isT_str_int, isT_str_str, isT_str_lst, isT_str_tup, isT_list_non, isT_list_bl, isT_list_int, isT_list_str, isT_list_lst, isT_list_tup, isT_tuple_non, isT_tuple_bl, isT_tuple_int, isT_tuple_str, isT_tuple_lst, isT_tuple_tup, eSlice, oNone, oSome, intPart, eMeth, eMeth0, tyD, iArgs, iOf, itemsD, R.bind_ok, R.bind_no, R.bind_ex, W.d_sh, W.d_ow, List.map_cons, List.map_nil, List.cons_append, List.nil_append, List.append_nil, List.replicate_succ, List.replicate_zero, List.length_cons, List.length_nil, List.set_cons_zero, List.set_cons_succ, List.getElem?_cons_zero, List.getElem?_cons_succ, Nat.reduceAdd, Nat.reduceSub, Nat.reduceLeDiff, if_true, if_false, flatD, ↓reduceIte, Bool.false_eq_true, Bool.not_true, Bool.not_false, Bool.true_and, Bool.false_and, Nat.zero_add, decide_true, decide_false, reduceCtorEq, gC, gV, sApp, hal, hz1, hz2, hz3, mod_ok (show (0 : Int) < 300 by decide), mod_ok (show (0 : Int) < 70 by decide), add_ok]
  have s4 : q_law_4 [.sh (.lst (ns.map .int)), .sh (.lst (cs.map .int)), .ow (.lst B), .no, .no, .no, .no, .no, .no, .no, .no] = .nx [.sh (.lst (ns.map .int)), .sh (.lst (cs.map .int)), .ow (.lst B), .ow (.lst []), .no, .no, .no, .no, .no, .no, .no] := by
    simp only [q_law_4, bodyD, start3, sSeq, sSet, gsome, give1, List.foldl_cons, List.foldl_nil, sRet, sRetV, sIf, sExpr, sNil, R.toRt, vsh, vall, L3.gall, pub_sh, pub_ow, pub_no, any_sh, any_ow, any_no, give_sh, give_ow, give_no, eOp, eVar, eC, eTest, eTruth, truthD, boolD, eCall, eFn, R.calm, aNil, aCons, eTup, eLst, eIf, eAnd, eOr, eNot, tAndF, tOrF, tNotF, eIs, isT_int_non, isT_int_bl, isT_int_int, isT_int_str, isT_int_lst, isT_int_tup, isT_bool_non, isT_bool_bl, isT_bool_int, isT_bool_str, isT_bool_lst, isT_bool_tup, isT_str_non, isT_str_bl, isT_str_int, isT_str_str, isT_str_lst, isT_str_tup, isT_list_non, isT_list_bl, isT_list_int, isT_list_str, isT_list_lst, isT_list_tup, isT_tuple_non, isT_tuple_bl, isT_tuple_int, isT_tuple_str, isT_tuple_lst, isT_tuple_tup, eSlice, oNone, oSome, intPart, eMeth, eMeth0, tyD, iArgs, iOf, itemsD, R.bind_ok, R.bind_no, R.bind_ex, W.d_sh, W.d_ow, List.map_cons, List.map_nil, List.cons_append, List.nil_append, List.append_nil, List.replicate_succ, List.replicate_zero, List.length_cons, List.length_nil, List.set_cons_zero, List.set_cons_succ, List.getElem?_cons_zero, List.getElem?_cons_succ, Nat.reduceAdd, Nat.reduceSub, Nat.reduceLeDiff, if_true, if_false, flatD, ↓reduceIte, Bool.false_eq_true, Bool.not_true, Bool.not_false, Bool.true_and, Bool.false_and, Nat.zero_add, decide_true, decide_false, reduceCtorEq, gC, gV]
  have s5 : q_law_5 [.sh (.lst (ns.map .int)), .sh (.lst (cs.map .int)), .ow (.lst B), .ow (.lst []), .no, .no, .no, .no, .no, .no, .no] = .nx [.sh (.lst (ns.map .int)), .sh (.lst (cs.map .int)), .sh (.lst B), .ow (.lst ((B.map toldT).map .int)), .no, a5, a6, a7, a8, .no, .no] := by
    simp only [q_law_5, bodyD, start3, sSeq, sSet, gsome, give1, List.foldl_cons, List.foldl_nil, sRet, sRetV, sIf, sExpr, sNil, R.toRt, vsh, vall, L3.gall, pub_sh, pub_ow, pub_no, any_sh, any_ow, any_no, give_sh, give_ow, give_no, eOp, eVar, eC, eTest, eTruth, truthD, boolD, eCall, eFn, R.calm, aNil, aCons, eTup, eLst, eIf, eAnd, eOr, eNot, tAndF, tOrF, tNotF, eIs, isT_int_non, isT_int_bl, isT_int_int, isT_int_str, isT_int_lst, isT_int_tup, isT_bool_non, isT_bool_bl, isT_bool_int, isT_bool_str, isT_bool_lst, isT_bool_tup, isT_str_non, isT_str_bl, isT_str_int, isT_str_str, isT_str_lst, isT_str_tup, isT_list_non, isT_list_bl, isT_list_int, isT_list_str, isT_list_lst, isT_list_tup, isT_tuple_non, isT_tuple_bl, isT_tuple_int, isT_tuple_str, isT_tuple_lst, isT_tuple_tup, eSlice, oNone, oSome, intPart, eMeth, eMeth0, tyD, iArgs, iOf, itemsD, R.bind_ok, R.bind_no, R.bind_ex, W.d_sh, W.d_ow, List.map_cons, List.map_nil, List.cons_append, List.nil_append, List.append_nil, List.replicate_succ, List.replicate_zero, List.length_cons, List.length_nil, List.set_cons_zero, List.set_cons_succ, List.getElem?_cons_zero, List.getElem?_cons_succ, Nat.reduceAdd, Nat.reduceSub, Nat.reduceLeDiff, if_true, if_false, flatD, ↓reduceIte, Bool.false_eq_true, Bool.not_true, Bool.not_false, Bool.true_and, Bool.false_and, Nat.zero_add, decide_true, decide_false, reduceCtorEq, gC, gV, sFor, el1]
  have s6 : q_law_6 [.sh (.lst (ns.map .int)), .sh (.lst (cs.map .int)), .sh (.lst B), .ow (.lst ((B.map toldT).map .int)), .no, a5, a6, a7, a8, .no, .no] = .nx [.sh (.lst (ns.map .int)), .sh (.lst (cs.map .int)), .sh (.lst B), .ow (.lst ((B.map toldT).map .int)), .ow (.lst ks), a5, a6, a7, a8, .no, .no] := by
    simp only [q_law_6, bodyD, start3, sSeq, sSet, gsome, give1, List.foldl_cons, List.foldl_nil, sRet, sRetV, sIf, sExpr, sNil, R.toRt, vsh, vall, L3.gall, pub_sh, pub_ow, pub_no, any_sh, any_ow, any_no, give_sh, give_ow, give_no, eOp, eVar, eC, eTest, eTruth, truthD, boolD, eCall, eFn, R.calm, aNil, aCons, eTup, eLst, eIf, eAnd, eOr, eNot, tAndF, tOrF, tNotF, eIs, isT_int_non, isT_int_bl, isT_int_int, isT_int_str, isT_int_lst, isT_int_tup, isT_bool_non, isT_bool_bl, isT_bool_int, isT_bool_str, isT_bool_lst, isT_bool_tup, isT_str_non, isT_str_bl, isT_str_int, isT_str_str, isT_str_lst, isT_str_tup, isT_list_non, isT_list_bl, isT_list_int, isT_list_str, isT_list_lst, isT_list_tup, isT_tuple_non, isT_tuple_bl, isT_tuple_int, isT_tuple_str, isT_tuple_lst, isT_tuple_tup, eSlice, oNone, oSome, intPart, eMeth, eMeth0, tyD, iArgs, iOf, itemsD, R.bind_ok, R.bind_no, R.bind_ex, W.d_sh, W.d_ow, List.map_cons, List.map_nil, List.cons_append, List.nil_append, List.append_nil, List.replicate_succ, List.replicate_zero, List.length_cons, List.length_nil, List.set_cons_zero, List.set_cons_succ, List.getElem?_cons_zero, List.getElem?_cons_succ, Nat.reduceAdd, Nat.reduceSub, Nat.reduceLeDiff, if_true, if_false, flatD, ↓reduceIte, Bool.false_eq_true, Bool.not_true, Bool.not_false, Bool.true_and, Bool.false_and, Nat.zero_add, decide_true, decide_false, reduceCtorEq, gC, gV, ek]
  have s7 : q_law_7 [.sh (.lst (ns.map .int)), .sh (.lst (cs.map .int)), .sh (.lst B), .ow (.lst ((B.map toldT).map .int)), .ow (.lst ks), a5, a6, a7, a8, .no, .no] = .nx [.sh (.lst (ns.map .int)), .sh (.lst (cs.map .int)), .sh (.lst B), .ow (.lst ((B.map toldT).map .int)), .sh (.lst ks), a5, a6, a7, a8, a9, a10] := by
    simp only [q_law_7, bodyD, start3, sSeq, sSet, gsome, give1, List.foldl_cons, List.foldl_nil, sRet, sRetV, sIf, sExpr, sNil, R.toRt, vsh, vall, L3.gall, pub_sh, pub_ow, pub_no, any_sh, any_ow, any_no, give_sh, give_ow, give_no, eOp, eVar, eC, eTest, eTruth, truthD, boolD, eCall, eFn, R.calm, aNil, aCons, eTup, eLst, eIf, eAnd, eOr, eNot, tAndF, tOrF, tNotF, eIs, isT_int_non, isT_int_bl, isT_int_int, isT_int_str, isT_int_lst, isT_int_tup, isT_bool_non, isT_bool_bl, isT_bool_int, isT_bool_str, isT_bool_lst, isT_bool_tup, isT_str_non, isT_str_bl, isT_str_int, isT_str_str, isT_str_lst, isT_str_tup, isT_list_non, isT_list_bl, isT_list_int, isT_list_str, isT_list_lst, isT_list_tup, isT_tuple_non, isT_tuple_bl, isT_tuple_int, isT_tuple_str, isT_tuple_lst, isT_tuple_tup, eSlice, oNone, oSome, intPart, eMeth, eMeth0, tyD, iArgs, iOf, itemsD, R.bind_ok, R.bind_no, R.bind_ex, W.d_sh, W.d_ow, List.map_cons, List.map_nil, List.cons_append, List.nil_append, List.append_nil, List.replicate_succ, List.replicate_zero, List.length_cons, List.length_nil, List.set_cons_zero, List.set_cons_succ, List.getElem?_cons_zero, List.getElem?_cons_succ, Nat.reduceAdd, Nat.reduceSub, Nat.reduceLeDiff, if_true, if_false, flatD, ↓reduceIte, Bool.false_eq_true, Bool.not_true, Bool.not_false, Bool.true_and, Bool.false_and, Nat.zero_add, decide_true, decide_false, reduceCtorEq, gC, gV, sFor, iEnum, enumOf, el2]
  have s8 : q_law_8 [.sh (.lst (ns.map .int)), .sh (.lst (cs.map .int)), .sh (.lst B), .ow (.lst ((B.map toldT).map .int)), .sh (.lst ks), a5, a6, a7, a8, a9, a10] = .rt (.sh (.bl true)) := by
    simp only [q_law_8, bodyD, start3, sSeq, sSet, gsome, give1, List.foldl_cons, List.foldl_nil, sRet, sRetV, sIf, sExpr, sNil, R.toRt, vsh, vall, L3.gall, pub_sh, pub_ow, pub_no, any_sh, any_ow, any_no, give_sh, give_ow, give_no, eOp, eVar, eC, eTest, eTruth, truthD, boolD, eCall, eFn, R.calm, aNil, aCons, eTup, eLst, eIf, eAnd, eOr, eNot, tAndF, tOrF, tNotF, eIs, isT_int_non, isT_int_bl, isT_int_int, isT_int_str, isT_int_lst, isT_int_tup, isT_bool_non, isT_bool_bl, isT_bool_int, isT_bool_str, isT_bool_lst, isT_bool_tup, isT_str_non, isT_str_bl, isT_str_int, isT_str_str, isT_str_lst, isT_str_tup, isT_list_non, isT_list_bl, isT_list_int, isT_list_str, isT_list_lst, isT_list_tup, isT_tuple_non, isT_tuple_bl, isT_tuple_int, isT_tuple_str, isT_tuple_lst, isT_tuple_tup, eSlice, oNone, oSome, intPart, eMeth, eMeth0, tyD, iArgs, iOf, itemsD, R.bind_ok, R.bind_no, R.bind_ex, W.d_sh, W.d_ow, List.map_cons, List.map_nil, List.cons_append, List.nil_append, List.append_nil, List.replicate_succ, List.replicate_zero, List.length_cons, List.length_nil, List.set_cons_zero, List.set_cons_succ, List.getElem?_cons_zero, List.getElem?_cons_succ, Nat.reduceAdd, Nat.reduceSub, Nat.reduceLeDiff, if_true, if_false, flatD, ↓reduceIte, Bool.false_eq_true, Bool.not_true, Bool.not_false, Bool.true_and, Bool.false_and, Nat.zero_add, decide_true, decide_false, reduceCtorEq, gC, gV, ec4, canInts']
  refine body_rt ?_
  unfold g_law
  rw [seq_nx s1, seq_nx s2, seq_nx s3, seq_nx s4, seq_nx s5, seq_nx s6, seq_nx s7, s8]
end My

set_option maxHeartbeats 20000000
namespace My
open PySem PyProof.Rows L2 L3
def top (i : Nat) : Stmt := PySem.Challenge.pw_lodge_k02_mixed.main.body.getD i (.Pass ⟨0, 0, 0, 0⟩)
section
variable {P : Program} {w : World} {K : PySem.W.Frag} {mg : Str → Option Value} {base : Heap}
abbrev s_law_raw : Stmt := top 19
theorem sc_law_raw : FnScope ["_law_script", "_law_k"] ["_law_script", "_law_k"] (defScope s_law_raw) := ⟨rfl, rfl, rfl, by decide +kernel, rfl, by decide +kernel, by decide +kernel⟩
theorem ok_law_raw {f : Addr} {fd : FuncData} (F : Fun K "_law_raw" "_law_raw" s_law_raw f fd) (m_len : mg "len" = none) : FnOk P w K mg base CX0 1 f fd ["_law_script", "_law_k"] (spD K 2 F_law_raw) :=
  fn_D (k := 0) F sc_law_raw fun cdv A outer s H E hr => by
    have hu := hr.units
    have nd := sc_law_raw.nd
    have hcalm : (cxOf CX0 P w K mg base ["_law_script", "_law_k"] "_law_raw" (defScope s_law_raw) f cdv A outer s H E).nox.calm = true := rfl
    have hrX : Room 0 (Cx.A (cxOf CX0 P w K mg base ["_law_script", "_law_k"] "_law_raw" (defScope s_law_raw) f cdv A outer s H E).nox) := hr
    exact (bd_cons (sd_if (td_cmp op_ltD (ed_var 1) (ed_callB call_lenD3 rfl m_len PySem.boot_len (ad_cons (ed_var 0) ad_nil)) (nomark _))
      (bd_one (sd_ret (ed_ix (ed_var 0) (ed_var 1))))
      bd_nil)
    (bd_one (sd_ret ed_int)))
abbrev s_law_mix : Stmt := top 18
theorem sc_law_mix : FnScope ["_law_cell_here", "_law_k", "_law_first"] ["_law_cell_here", "_law_k"] (defScope s_law_mix) := ⟨rfl, rfl, rfl, by decide +kernel, rfl, by decide +kernel, by decide +kernel⟩
theorem ok_law_mix {f : Addr} {fd : FuncData} (F : Fun K "_law_mix" "_law_mix" s_law_mix f fd) : FnOk P w K mg base CX0 1 f fd ["_law_cell_here", "_law_k"] (spD K 2 F_law_mix) :=
  fn_D (k := 0) F sc_law_mix fun cdv A outer s H E hr => by
    have hu := hr.units
    have nd := sc_law_mix.nd
    have hcalm : (cxOf CX0 P w K mg base ["_law_cell_here", "_law_k", "_law_first"] "_law_mix" (defScope s_law_mix) f cdv A outer s H E).nox.calm = true := rfl
    have hrX : Room 0 (Cx.A (cxOf CX0 P w K mg base ["_law_cell_here", "_law_k", "_law_first"] "_law_mix" (defScope s_law_mix) f cdv A outer s H E).nox) := hr
    exact (bd_cons (sd_set (i := 2) [0, 1] (ed_bin op_modD (ed_bin op_mulI (ed_bin op_addD (ed_var 0) ed_int) (ed_bin op_addD ed_int (ed_bin op_mulI ed_int (ed_var 1)))) ed_int) nd)
    (bd_one (sd_ret (ed_bin op_modD (ed_bin op_addD (ed_bin op_addD (ed_bin op_mulI (ed_bin op_divD (ed_var 2) ed_int) ed_int) (ed_bin op_mulI (ed_var 2) (ed_bin op_addD (ed_bin op_mulI (ed_var 1) (ed_var 1)) ed_int))) (ed_var 1)) ed_int))))
abbrev s_law_cell : Stmt := top 20
theorem sc_law_cell : FnScope ["_law_script", "_law_k"] ["_law_script", "_law_k"] (defScope s_law_cell) := ⟨rfl, rfl, rfl, by decide +kernel, rfl, by decide +kernel, by decide +kernel⟩
theorem ok_law_cell {f : Addr} {fd : FuncData} (F : Fun K "_law_cell" "_law_cell" s_law_cell f fd) (c_law_mix : FnD P w K mg base "_law_mix" 1 ["_law_cell_here", "_law_k"] F_law_mix) (c_law_raw : FnD P w K mg base "_law_raw" 1 ["_law_script", "_law_k"] F_law_raw) : FnOk P w K mg base CX0 2 f fd ["_law_script", "_law_k"] (spD K 2 F_law_cell) :=
  fn_D (k := 1) F sc_law_cell fun cdv A outer s H E hr => by
    have hu := hr.units
    have nd := sc_law_cell.nd
    have hcalm : (cxOf CX0 P w K mg base ["_law_script", "_law_k"] "_law_cell" (defScope s_law_cell) f cdv A outer s H E).nox.calm = true := rfl
    have hrX : Room 1 (Cx.A (cxOf CX0 P w K mg base ["_law_script", "_law_k"] "_law_cell" (defScope s_law_cell) f cdv A outer s H E).nox) := hr
    exact (bd_one (sd_ret (ed_call hrX c_law_mix (ad_cons (ed_bin op_modD (ed_call hrX c_law_raw (ad_cons (ed_var 0) (ad_cons (ed_var 1) ad_nil))) ed_int) (ad_cons (ed_bin op_addD (ed_var 1) ed_int) ad_nil)))))
abbrev s_law_great : Stmt := top 22
theorem sc_law_great : FnScope ["_law_cell_here"] ["_law_cell_here"] (defScope s_law_great) := ⟨rfl, rfl, rfl, by decide +kernel, rfl, by decide +kernel, by decide +kernel⟩
theorem ok_law_great {f : Addr} {fd : FuncData} (F : Fun K "_law_great" "_law_great" s_law_great f fd) (c_law_mix : FnD P w K mg base "_law_mix" 1 ["_law_cell_here", "_law_k"] F_law_mix) : FnOk P w K mg base CX0 2 f fd ["_law_cell_here"] (spD K 1 F_law_great) :=
  fn_D (k := 1) F sc_law_great fun cdv A outer s H E hr => by
    have hu := hr.units
    have nd := sc_law_great.nd
    have hcalm : (cxOf CX0 P w K mg base ["_law_cell_here"] "_law_great" (defScope s_law_great) f cdv A outer s H E).nox.calm = true := rfl
    have hrX : Room 1 (Cx.A (cxOf CX0 P w K mg base ["_law_cell_here"] "_law_great" (defScope s_law_great) f cdv A outer s H E).nox) := hr
    exact (bd_one (sd_ret (ed_bin op_addD (ed_bin op_mulI (ed_bin op_addD (ed_bin op_mulI (ed_call hrX c_law_mix (ad_cons (ed_var 0) (ad_cons ed_int ad_nil))) ed_int) (ed_call hrX c_law_mix (ad_cons (ed_var 0) (ad_cons ed_int ad_nil)))) ed_int) (ed_call hrX c_law_mix (ad_cons (ed_var 0) (ad_cons ed_int ad_nil))))))
abbrev s_law_cells : Stmt := top 23
theorem sc_law_cells : FnScope ["_law_script", "_law_start", "_law_most", "_law_cells_here", "_law_many"] ["_law_script", "_law_start", "_law_most"] (defScope s_law_cells) := ⟨rfl, rfl, rfl, by decide +kernel, rfl, by decide +kernel, by decide +kernel⟩
theorem ok_law_cells {f : Addr} {fd : FuncData} (F : Fun K "_law_cells" "_law_cells" s_law_cells f fd) (c_law_raw : FnD P w K mg base "_law_raw" 1 ["_law_script", "_law_k"] F_law_raw) (c_law_cell : FnD P w K mg base "_law_cell" 2 ["_law_script", "_law_k"] F_law_cell) (c_law_great : FnD P w K mg base "_law_great" 2 ["_law_cell_here"] F_law_great) (c_law_mix : FnD P w K mg base "_law_mix" 1 ["_law_cell_here", "_law_k"] F_law_mix) (m_max : mg "max" = none) (m_len : mg "len" = none) (m_range : mg "range" = none) (m_min : mg "min" = none) : FnOk P w K mg base CX0 3 f fd ["_law_script", "_law_start", "_law_most"] (spD K 3 F_law_cells) :=
  fn_D (k := 2) F sc_law_cells fun cdv A outer s H E hr => by
    have hu := hr.units
    have nd := sc_law_cells.nd
    have hcalm : (cxOf CX0 P w K mg base ["_law_script", "_law_start", "_law_most", "_law_cells_here", "_law_many"] "_law_cells" (defScope s_law_cells) f cdv A outer s H E).nox.calm = true := rfl
    have hrX : Room 2 (Cx.A (cxOf CX0 P w K mg base ["_law_script", "_law_start", "_law_most", "_law_cells_here", "_law_many"] "_law_cells" (defScope s_law_cells) f cdv A outer s H E).nox) := hr
    exact (bd_cons (sd_set (i := 3) [0, 1] (ed_callB (call_maxD hcalm) rfl m_max PyProof.Rows.boot_max (ad_cons ed_int (ad_cons (ed_bin op_subD (ed_callB call_lenD3 rfl m_len PySem.boot_len (ad_cons (ed_var 0) ad_nil)) (ed_var 1)) ad_nil))) nd)
    (bd_cons (sd_if (td_cmp (op_eqD hu) (ed_bin op_modD (ed_call hrX c_law_raw (ad_cons (ed_var 0) (ad_cons ed_int ad_nil))) ed_int) ed_int (nomark _))
      (bd_one (sd_ret (ed_comp (N' := ["_law_script", "_law_start", "_law_most", "_law_cells_here", "_law_many", "_law_k"]) (fun _ _ z => z) hcalm (id_range1 m_range (ad_cons (ed_callB (call_minD hcalm) rfl m_min PyProof.Rows.boot_min (ad_cons (ed_var 2) (ad_cons (ed_var 3) ad_nil))) ad_nil)) rfl (by kernel_rfl) rfl (fun C s0 H0 fp pn => ⟨(gc_name (i := 5) (show List.Nodup [("_law_script" : Str), ("_law_start" : Str), ("_law_most" : Str), ("_law_cells_here" : Str), ("_law_many" : Str), ("_law_k" : Str)] from by decide +kernel)), ct_nil, (ed_call (room_comp hrX) c_law_raw (ad_cons (ed_var 0) (ad_cons (ed_bin op_addD (ed_var 1) (ed_var 5)) ad_nil)))⟩))))
      bd_nil)
    (bd_cons (sd_set (i := 4) [0, 2, 3] (ed_callB (call_minD hcalm) rfl m_min PyProof.Rows.boot_min (ad_cons (ed_var 2) (ad_cons (ed_callB (call_maxD hcalm) rfl m_max PyProof.Rows.boot_max (ad_cons (ed_var 3) (ad_cons (ed_bin op_addD ed_int (ed_bin op_modD (ed_call hrX c_law_cell (ad_cons (ed_var 0) (ad_cons ed_int ad_nil))) (ed_var 2))) ad_nil))) ad_nil))) nd)
    (bd_one (sd_ret (ed_comp (N' := ["_law_script", "_law_start", "_law_most", "_law_cells_here", "_law_many", "_law_k"]) (fun _ _ z => z) hcalm (id_range1 m_range (ad_cons (ed_var 4) ad_nil)) rfl (by kernel_rfl) rfl (fun C s0 H0 fp pn => ⟨(gc_name (i := 5) (show List.Nodup [("_law_script" : Str), ("_law_start" : Str), ("_law_most" : Str), ("_law_cells_here" : Str), ("_law_many" : Str), ("_law_k" : Str)] from by decide +kernel)), ct_nil, (ed_call (room_comp hrX) c_law_great (ad_cons (ed_call (room_comp hrX) c_law_mix (ad_cons (ed_call (room_comp hrX) c_law_cell (ad_cons (ed_var 0) (ad_cons (ed_bin op_addD (ed_var 1) (ed_bin op_modD (ed_var 5) (ed_callB (call_maxD (calm_comp hcalm)) rfl m_max PyProof.Rows.boot_max (ad_cons ed_int (ad_cons (ed_var 3) ad_nil))))) ad_nil))) (ad_cons (ed_var 5) ad_nil))) ad_nil))⟩)))))))
abbrev s_law_three : Stmt := top 28
theorem sc_law_three : FnScope ["_law_cells_here", "_law_k", "_law_number", "_law_salt", "_law_size"] ["_law_cells_here", "_law_k"] (defScope s_law_three) := ⟨rfl, rfl, rfl, by decide +kernel, rfl, by decide +kernel, by decide +kernel⟩
theorem ok_law_three {f : Addr} {fd : FuncData} (F : Fun K "_law_three" "_law_three" s_law_three f fd) : FnOk P w K mg base CX0 1 f fd ["_law_cells_here", "_law_k"] (spD K 2 F_law_three) :=
  fn_D (k := 0) F sc_law_three fun cdv A outer s H E hr => by
    have hu := hr.units
    have nd := sc_law_three.nd
    have hcalm : (cxOf CX0 P w K mg base ["_law_cells_here", "_law_k", "_law_number", "_law_salt", "_law_size"] "_law_three" (defScope s_law_three) f cdv A outer s H E).nox.calm = true := rfl
    have hrX : Room 0 (Cx.A (cxOf CX0 P w K mg base ["_law_cells_here", "_law_k", "_law_number", "_law_salt", "_law_size"] "_law_three" (defScope s_law_three) f cdv A outer s H E).nox) := hr
    exact (bd_cons (sd_set (i := 2) [0, 1] (ed_bin op_modD (ed_ix (ed_var 0) (ed_bin op_mulI ed_int (ed_var 1))) ed_int) nd)
    (bd_cons (sd_set (i := 3) [0, 1] (ed_ix (ed_var 0) (ed_bin op_addD (ed_bin op_mulI ed_int (ed_var 1)) ed_int)) nd)
    (bd_cons (sd_set (i := 4) [0, 1] (ed_ix (ed_var 0) (ed_bin op_addD (ed_bin op_mulI ed_int (ed_var 1)) ed_int)) nd)
    (bd_cons (sd_set (i := 3) [3] (ed_bin op_modD (ed_bin op_divD (ed_var 3) ed_int) (ed_ix (ed_lst (ad_cons ed_int (ad_cons ed_int (ad_cons (ed_bin op_powD ed_int ed_int) (ad_cons (ed_bin op_powD ed_int ed_int) ad_nil))))) (ed_bin op_modD (ed_var 3) ed_int))) nd)
    (bd_one (sd_ret (ed_lst (ad_cons (ed_var 2) (ad_cons (ed_var 3) (ad_cons (ed_bin op_addD ed_int (ed_bin op_modD (ed_bin op_divD (ed_var 4) ed_int) (ed_ix (ed_lst (ad_cons ed_int (ad_cons ed_int (ad_cons (ed_bin op_powD ed_int ed_int) (ad_cons (ed_bin op_powD ed_int ed_int) ad_nil))))) (ed_bin op_modD (ed_var 4) ed_int)))) ad_nil))))))))))
abbrev s_mixed : Stmt := top 15
theorem sc_mixed : FnScope ["number", "salt", "size", "factor", "shift", "first"] ["number", "salt", "size"] (defScope s_mixed) := ⟨rfl, rfl, rfl, by decide +kernel, rfl, by decide +kernel, by decide +kernel⟩
theorem ok_mixed {f : Addr} {fd : FuncData} (F : Fun K "mixed" "mixed" s_mixed f fd) {t_PRIME : Tok} (g_PRIME : mg "PRIME" = some (.int 2305843009213693951 t_PRIME)) : FnOk P w K mg base CX0 1 f fd ["number", "salt", "size"] (spD K 3 F_mixed) :=
  fn_D (k := 0) F sc_mixed fun cdv A outer s H E hr => by
    have hu := hr.units
    have nd := sc_mixed.nd
    have hcalm : (cxOf CX0 P w K mg base ["number", "salt", "size", "factor", "shift", "first"] "mixed" (defScope s_mixed) f cdv A outer s H E).nox.calm = true := rfl
    have hrX : Room 0 (Cx.A (cxOf CX0 P w K mg base ["number", "salt", "size", "factor", "shift", "first"] "mixed" (defScope s_mixed) f cdv A outer s H E).nox) := hr
    exact (bd_cons (sd_if (td_cmp (op_eqD hu) (ed_var 2) ed_int (nomark _))
      (bd_one (sd_ret ed_int))
      bd_nil)
    (bd_cons (sd_set (i := 3) [1] (ed_bin op_addD ed_int (ed_bin op_modD (ed_bin op_addD (ed_bin op_mulI ed_int (ed_var 1)) ed_int) (ed_bin op_subD (ed_gint rfl g_PRIME) ed_int))) nd)
    (bd_cons (sd_set (i := 4) [1] (ed_bin op_modD (ed_bin op_addD (ed_bin op_mulI (ed_bin op_mulI ed_int (ed_var 1)) (ed_var 1)) (ed_bin op_mulI ed_int (ed_var 1))) (ed_gint rfl g_PRIME)) nd)
    (bd_cons (sd_set (i := 5) [0, 3, 4] (ed_bin op_modD (ed_bin op_addD (ed_bin op_mulI (ed_var 3) (ed_var 0)) (ed_var 4)) (ed_gint rfl g_PRIME)) nd)
    (bd_one (sd_ret (ed_bin op_modD (ed_bin op_addD (ed_var 5) (ed_bin op_divD (ed_var 5) ed_int)) (ed_var 2))))))))
abbrev s_law_whole : Stmt := top 27
theorem sc_law_whole : FnScope ["_law_found"] ["_law_found"] (defScope s_law_whole) := ⟨rfl, rfl, rfl, by decide +kernel, rfl, by decide +kernel, by decide +kernel⟩
theorem ok_law_whole {f : Addr} {fd : FuncData} (F : Fun K "_law_whole" "_law_whole" s_law_whole f fd) (m_isinstance : mg "isinstance" = none) (m_int : mg "int" = none) (m_bool : mg "bool" = none) (kit_int : KitT K "int") (kit_bool : KitT K "bool") : FnOk P w K mg base CX0 1 f fd ["_law_found"] (spD K 1 F_law_whole) :=
  fn_D (k := 0) F sc_law_whole fun cdv A outer s H E hr => by
    have hu := hr.units
    have nd := sc_law_whole.nd
    have hcalm : (cxOf CX0 P w K mg base ["_law_found"] "_law_whole" (defScope s_law_whole) f cdv A outer s H E).nox.calm = true := rfl
    have hrX : Room 0 (Cx.A (cxOf CX0 P w K mg base ["_law_found"] "_law_whole" (defScope s_law_whole) f cdv A outer s H E).nox) := hr
    exact (bd_one (sd_ret (ed_and (ed_isT kit_int (ed_var 0) m_isinstance m_int PyProof.Rows.boot_int) (ed_one (ed_not (ed_isT kit_bool (ed_var 0) m_isinstance m_bool L3.boot_bool))))))
abbrev s_law_mixed : Stmt := top 26
theorem sc_law_mixed : FnScope ["_law_number", "_law_salt", "_law_size", "_law_prime", "_law_a", "_law_b", "_law_first"] ["_law_number", "_law_salt", "_law_size"] (defScope s_law_mixed) := ⟨rfl, rfl, rfl, by decide +kernel, rfl, by decide +kernel, by decide +kernel⟩
theorem ok_law_mixed {f : Addr} {fd : FuncData} (F : Fun K "_law_mixed" "_law_mixed" s_law_mixed f fd) : FnOk P w K mg base CX0 1 f fd ["_law_number", "_law_salt", "_law_size"] (spD K 3 F_law_mixed) :=
  fn_D (k := 0) F sc_law_mixed fun cdv A outer s H E hr => by
    have hu := hr.units
    have nd := sc_law_mixed.nd
    have hcalm : (cxOf CX0 P w K mg base ["_law_number", "_law_salt", "_law_size", "_law_prime", "_law_a", "_law_b", "_law_first"] "_law_mixed" (defScope s_law_mixed) f cdv A outer s H E).nox.calm = true := rfl
    have hrX : Room 0 (Cx.A (cxOf CX0 P w K mg base ["_law_number", "_law_salt", "_law_size", "_law_prime", "_law_a", "_law_b", "_law_first"] "_law_mixed" (defScope s_law_mixed) f cdv A outer s H E).nox) := hr
    exact (bd_cons (sd_set (i := 3) [] ed_int nd)
    (bd_cons (sd_set (i := 4) [1, 3] (ed_bin op_addD ed_int (ed_bin op_modD (ed_bin op_addD (ed_bin op_mulI ed_int (ed_var 1)) ed_int) (ed_bin op_subD (ed_var 3) ed_int))) nd)
    (bd_cons (sd_set (i := 5) [1, 3] (ed_bin op_modD (ed_bin op_addD (ed_bin op_mulI (ed_bin op_mulI ed_int (ed_var 1)) (ed_var 1)) (ed_bin op_mulI ed_int (ed_var 1))) (ed_var 3)) nd)
    (bd_cons (sd_set (i := 6) [0, 3, 4, 5] (ed_bin op_modD (ed_bin op_addD (ed_bin op_mulI (ed_var 4) (ed_var 0)) (ed_var 5)) (ed_var 3)) nd)
    (bd_one (sd_ret (ed_bin op_modD (ed_bin op_addD (ed_var 6) (ed_bin op_divD (ed_var 6) ed_int)) (ed_var 2))))))))
abbrev s_law_key : Stmt := top 21
theorem sc_law_key : FnScope ["_law_cell_here", "_law_signs", "_law_rest", "_law_found", "_law_size", "_law_k"] ["_law_cell_here"] (defScope s_law_key) := ⟨rfl, rfl, rfl, by decide +kernel, rfl, by decide +kernel, by decide +kernel⟩
theorem ok_law_key {f : Addr} {fd : FuncData} (F : Fun K "_law_key" "_law_key" s_law_key f fd) (m_range : mg "range" = none) (m_int : mg "int" = none) : FnOk P w K mg base CX0 1 f fd ["_law_cell_here"] (spD K 1 F_law_key) :=
  fn_D (k := 0) F sc_law_key fun cdv A outer s H E hr => by
    have hu := hr.units
    have nd := sc_law_key.nd
    have hcalm : (cxOf CX0 P w K mg base ["_law_cell_here", "_law_signs", "_law_rest", "_law_found", "_law_size", "_law_k"] "_law_key" (defScope s_law_key) f cdv A outer s H E).nox.calm = true := rfl
    have hrX : Room 0 (Cx.A (cxOf CX0 P w K mg base ["_law_cell_here", "_law_signs", "_law_rest", "_law_found", "_law_size", "_law_k"] "_law_key" (defScope s_law_key) f cdv A outer s H E).nox) := hr
    exact (bd_cons (sd_set (i := 1) [] ed_str nd)
    (bd_cons (sd_set (i := 2) [0] (ed_bin op_divD (ed_var 0) ed_int) nd)
    (bd_cons (sd_if (td_cmp (op_eqD hu) (ed_bin op_modD (ed_var 0) ed_int) ed_int (nomark _))
      (bd_one (sd_ret (ed_bin op_modD (ed_var 2) (ed_bin op_powD ed_int ed_int))))
      bd_nil)
    (bd_cons (sd_if (td_cmp (op_eqD hu) (ed_bin op_modD (ed_var 0) ed_int) ed_int (nomark _))
      (bd_one (sd_ret (ed_bin op_modD (ed_var 2) ed_int)))
      bd_nil)
    (bd_cons (sd_set (i := 3) [] ed_str nd)
    (bd_cons (sd_set (i := 4) [2] (ed_bin op_modD (ed_var 2) ed_int) nd)
    (bd_cons (sd_for [4] PassesOwn.never hcalm (id_range1 m_range (ad_cons (ed_var 4) ad_nil)) (gd_name (i := 5) nd)
      (bd_cons (sd_set (i := 2) [2, 5] (ed_bin op_divD (ed_var 2) (ed_ix (ed_lst (ad_cons ed_int (ad_cons ed_int ad_nil))) (ed_callTy call_intOf rfl m_int PyProof.Rows.boot_int (ad_cons (ed_cmp op_gtD (ed_var 5) ed_int (nomark _)) ad_nil)))) nd)
    (bd_one (sd_set (i := 3) [1, 2, 3] (ed_bin op_addD (ed_var 3) (ed_ix (ed_var 1) (ed_bin op_modD (ed_var 2) ed_int))) nd))))
    (bd_one (sd_retV 3)))))))))
abbrev s_law_keys : Stmt := top 24
theorem sc_law_keys : FnScope ["_law_script", "_law_start", "_law_most", "_law_found", "_law_cell_here", "_law_key_here"] ["_law_script", "_law_start", "_law_most"] (defScope s_law_keys) := ⟨rfl, rfl, rfl, by decide +kernel, rfl, by decide +kernel, by decide +kernel⟩
theorem ok_law_keys {f : Addr} {fd : FuncData} (F : Fun K "_law_keys" "_law_keys" s_law_keys f fd) (c_law_cells : FnD P w K mg base "_law_cells" 3 ["_law_script", "_law_start", "_law_most"] F_law_cells) (c_law_key : FnD P w K mg base "_law_key" 1 ["_law_cell_here"] F_law_key) (c_law_raw : FnD P w K mg base "_law_raw" 1 ["_law_script", "_law_k"] F_law_raw) : FnOk P w K mg base CX0 4 f fd ["_law_script", "_law_start", "_law_most"] (spD K 3 F_law_keys) :=
  fn_D (k := 3) F sc_law_keys fun cdv A outer s H E hr => by
    have hu := hr.units
    have nd := sc_law_keys.nd
    have hcalm : (cxOf CX0 P w K mg base ["_law_script", "_law_start", "_law_most", "_law_found", "_law_cell_here", "_law_key_here"] "_law_keys" (defScope s_law_keys) f cdv A outer s H E).nox.calm = true := rfl
    have hrX : Room 3 (Cx.A (cxOf CX0 P w K mg base ["_law_script", "_law_start", "_law_most", "_law_found", "_law_cell_here", "_law_key_here"] "_law_keys" (defScope s_law_keys) f cdv A outer s H E).nox) := hr
    exact (bd_cons (sd_set (i := 3) [] (ed_lst ad_nil) nd)
    (bd_cons (sd_for [0, 1, 2] PassesOwn.never hcalm (id_of (ed_call hrX c_law_cells (ad_cons (ed_var 0) (ad_cons (ed_var 1) (ad_cons (ed_var 2) ad_nil))))) (gd_name (i := 4) nd)
      (bd_cons (sd_set (i := 5) [4] (ed_call hrX c_law_key (ad_cons (ed_var 4) ad_nil)) nd)
    (bd_one (sd_if (td_cmp op_notInD (ed_var 5) (ed_var 3) (by with_unfolding_all rfl))
      (bd_one (sd_app (i := 3) (ed_var 5)))
      bd_nil))))
    (bd_cons (sd_if (td_cmp (op_eqD hu) (ed_var 3) (ed_lst ad_nil) (nomark _))
      (bd_one (sd_set (i := 3) [0] (ed_lst (ad_cons (ed_call hrX c_law_key (ad_cons (ed_bin op_divD (ed_call hrX c_law_raw (ad_cons (ed_var 0) (ad_cons ed_int ad_nil))) ed_int) ad_nil)) ad_nil)) nd))
      bd_nil)
    (bd_one (sd_retV 3)))))
abbrev s_two_to : Stmt := top 4
theorem sc_two_to : FnScope ["width", "power", "turn"] ["width"] (defScope s_two_to) := ⟨rfl, rfl, rfl, by decide +kernel, rfl, by decide +kernel, by decide +kernel⟩
theorem ok_two_to {f : Addr} {fd : FuncData} (F : Fun K "two_to" "two_to" s_two_to f fd) (m_range : mg "range" = none) : FnOk P w K mg base CX0 1 f fd ["width"] (spD K 1 F_two_to) :=
  fn_D (k := 0) F sc_two_to fun cdv A outer s H E hr => by
    have hu := hr.units
    have nd := sc_two_to.nd
    have hcalm : (cxOf CX0 P w K mg base ["width", "power", "turn"] "two_to" (defScope s_two_to) f cdv A outer s H E).nox.calm = true := rfl
    have hrX : Room 0 (Cx.A (cxOf CX0 P w K mg base ["width", "power", "turn"] "two_to" (defScope s_two_to) f cdv A outer s H E).nox) := hr
    exact (bd_cons (sd_set (i := 1) [] ed_int nd)
    (bd_cons (sd_for [0] PassesOwn.never hcalm (id_range1 m_range (ad_cons (ed_var 0) ad_nil)) (gd_name (i := 2) nd)
      (bd_one (sd_set (i := 1) [1] (ed_bin op_mulI (ed_var 1) ed_int) nd)))
    (bd_one (sd_retV 1))))
abbrev s_is_key_text : Stmt := top 11
theorem sc_is_key_text : FnScope ["text"] ["text"] (defScope s_is_key_text) := ⟨rfl, rfl, rfl, by decide +kernel, rfl, by decide +kernel, by decide +kernel⟩
theorem ok_is_key_text {f : Addr} {fd : FuncData} (F : Fun K "is_key_text" "is_key_text" s_is_key_text f fd) (m_len : mg "len" = none) (m_all : mg "all" = none) {t_MOST_SIGNS : Tok} (g_MOST_SIGNS : mg "MOST_SIGNS" = some (.int 11 t_MOST_SIGNS)) {t_SIGNS : Tok} (g_SIGNS : mg "SIGNS" = some (.str "abcdefghijklmnopqrstuvwxyz0123456789-_ " t_SIGNS)) : FnOk P w K mg base CX0 1 f fd ["text"] (spD K 1 F_is_key_text) :=
  fn_D (k := 0) F sc_is_key_text fun cdv A outer s H E hr => by
    have hu := hr.units
    have nd := sc_is_key_text.nd
    have hcalm : (cxOf CX0 P w K mg base ["text"] "is_key_text" (defScope s_is_key_text) f cdv A outer s H E).nox.calm = true := rfl
    have hrX : Room 0 (Cx.A (cxOf CX0 P w K mg base ["text"] "is_key_text" (defScope s_is_key_text) f cdv A outer s H E).nox) := hr
    exact (bd_one (sd_ret (ed_and (ed_cmp op_leD (ed_callB call_lenD3 rfl m_len PySem.boot_len (ad_cons (ed_var 0) ad_nil)) (ed_gint rfl g_MOST_SIGNS) (nomark _)) (ed_one (ed_callB (call_allD hcalm) rfl m_all PyProof.Rows.boot_all (ad_cons (ed_comp (N' := ["text", "sign"]) (fun _ _ z => z) hcalm (id_of (ed_var 0)) rfl (by kernel_rfl) rfl (fun C s0 H0 fp pn => ⟨(gc_name (i := 1) (show List.Nodup [("text" : Str), ("sign" : Str)] from by decide +kernel)), ct_nil, (ed_cmp op_inD (ed_var 1) (ed_gstr rfl g_SIGNS) (by with_unfolding_all rfl))⟩)) ad_nil))))))
abbrev s_is_key : Stmt := top 12
theorem sc_is_key : FnScope ["thing"] ["thing"] (defScope s_is_key) := ⟨rfl, rfl, rfl, by decide +kernel, rfl, by decide +kernel, by decide +kernel⟩
theorem ok_is_key {f : Addr} {fd : FuncData} (F : Fun K "is_key" "is_key" s_is_key f fd) (c_is_key_text : FnD P w K mg base "is_key_text" 1 ["text"] F_is_key_text) (m_isinstance : mg "isinstance" = none) (m_bool : mg "bool" = none) (m_int : mg "int" = none) (m_str : mg "str" = none) (kit_bool : KitT K "bool") (kit_int : KitT K "int") (kit_str : KitT K "str") {t_GREATEST_NUMBER : Tok} (g_GREATEST_NUMBER : mg "GREATEST_NUMBER" = some (.int 999999999999999999 t_GREATEST_NUMBER)) : FnOk P w K mg base CX0 2 f fd ["thing"] (spD K 1 F_is_key) :=
  fn_D (k := 1) F sc_is_key fun cdv A outer s H E hr => by
    have hu := hr.units
    have nd := sc_is_key.nd
    have hcalm : (cxOf CX0 P w K mg base ["thing"] "is_key" (defScope s_is_key) f cdv A outer s H E).nox.calm = true := rfl
    have hrX : Room 1 (Cx.A (cxOf CX0 P w K mg base ["thing"] "is_key" (defScope s_is_key) f cdv A outer s H E).nox) := hr
    exact (bd_cons (sd_if (td_truth (ed_isT kit_bool (ed_var 0) m_isinstance m_bool L3.boot_bool))
      (bd_one (sd_ret ed_bl))
      bd_nil)
    (bd_cons (sd_if (td_truth (ed_isT kit_int (ed_var 0) m_isinstance m_int PyProof.Rows.boot_int))
      (bd_one (sd_ret (ed_chain op_leD op_leD ed_int (ed_var 0) (ed_gint rfl g_GREATEST_NUMBER))))
      bd_nil)
    (bd_one (sd_ret (ed_and (ed_isT kit_str (ed_var 0) m_isinstance m_str PyProof.Rows.boot_str) (ed_one (ed_call hrX c_is_key_text (ad_cons (ed_var 0) ad_nil))))))))
abbrev s_worth : Stmt := top 13
theorem sc_worth : FnScope ["text", "total", "sign"] ["text"] (defScope s_worth) := ⟨rfl, rfl, rfl, by decide +kernel, rfl, by decide +kernel, by decide +kernel⟩
theorem ok_worth {f : Addr} {fd : FuncData} (F : Fun K "worth" "worth" s_worth f fd) {t_SIGNS : Tok} (g_SIGNS : mg "SIGNS" = some (.str "abcdefghijklmnopqrstuvwxyz0123456789-_ " t_SIGNS)) : FnOk P w K mg base CX0 1 f fd ["text"] (spD K 1 F_worth) :=
  fn_D (k := 0) F sc_worth fun cdv A outer s H E hr => by
    have hu := hr.units
    have nd := sc_worth.nd
    have hcalm : (cxOf CX0 P w K mg base ["text", "total", "sign"] "worth" (defScope s_worth) f cdv A outer s H E).nox.calm = true := rfl
    have hrX : Room 0 (Cx.A (cxOf CX0 P w K mg base ["text", "total", "sign"] "worth" (defScope s_worth) f cdv A outer s H E).nox) := hr
    exact (bd_cons (sd_set (i := 1) [] ed_int nd)
    (bd_cons (sd_for [0] PassesOwn.never hcalm (id_of (ed_var 0)) (gd_name (i := 2) nd)
      (bd_one (sd_set (i := 1) [1, 2] (ed_bin op_addD (ed_bin op_addD (ed_bin op_mulI ed_int (ed_var 1)) (ed_meth PySem.F.plainAttrs_str PySem.F.slot_str_find PySem.F.type_str_find mt_findS (ed_gstr rfl g_SIGNS) (ad_cons (ed_var 2) ad_nil))) ed_int) nd)))
    (bd_one (sd_retV 1))))
abbrev s_stamp : Stmt := top 14
theorem sc_stamp : FnScope ["key"] ["key"] (defScope s_stamp) := ⟨rfl, rfl, rfl, by decide +kernel, rfl, by decide +kernel, by decide +kernel⟩
theorem ok_stamp {f : Addr} {fd : FuncData} (F : Fun K "stamp" "stamp" s_stamp f fd) (c_is_key : FnD P w K mg base "is_key" 2 ["thing"] F_is_key) (c_worth : FnD P w K mg base "worth" 1 ["text"] F_worth) (m_isinstance : mg "isinstance" = none) (m_str : mg "str" = none) (kit_str : KitT K "str") : FnOk P w K mg base CX0 3 f fd ["key"] (spD K 1 F_stamp) :=
  fn_D (k := 2) F sc_stamp fun cdv A outer s H E hr => by
    have hu := hr.units
    have nd := sc_stamp.nd
    have hcalm : (cxOf CX0 P w K mg base ["key"] "stamp" (defScope s_stamp) f cdv A outer s H E).nox.calm = true := rfl
    have hrX : Room 2 (Cx.A (cxOf CX0 P w K mg base ["key"] "stamp" (defScope s_stamp) f cdv A outer s H E).nox) := hr
    exact (bd_cons (sd_if (td_not (td_truth (ed_call hrX c_is_key (ad_cons (ed_var 0) ad_nil))))
      (bd_one sd_never)
      bd_nil)
    (bd_cons (sd_if (td_truth (ed_isT kit_str (ed_var 0) m_isinstance m_str PyProof.Rows.boot_str))
      (bd_one (sd_ret (ed_bin op_addD (ed_bin op_mulI ed_int (ed_call hrX c_worth (ad_cons (ed_var 0) ad_nil))) ed_int)))
      bd_nil)
    (bd_one (sd_ret (ed_bin op_mulI ed_int (ed_var 0))))))
abbrev s_mark : Stmt := top 16
theorem sc_mark : FnScope ["key", "width"] ["key", "width"] (defScope s_mark) := ⟨rfl, rfl, rfl, by decide +kernel, rfl, by decide +kernel, by decide +kernel⟩
theorem ok_mark {f : Addr} {fd : FuncData} (F : Fun K "mark" "mark" s_mark f fd) (c_mixed : FnD P w K mg base "mixed" 1 ["number", "salt", "size"] F_mixed) (c_two_to : FnD P w K mg base "two_to" 1 ["width"] F_two_to) (c_stamp : FnD P w K mg base "stamp" 3 ["key"] F_stamp) {t_MARK_SALT : Tok} (g_MARK_SALT : mg "MARK_SALT" = some (.int 3 t_MARK_SALT)) : FnOk P w K mg base CX0 4 f fd ["key", "width"] (spD K 2 F_mark) :=
  fn_D (k := 3) F sc_mark fun cdv A outer s H E hr => by
    have hu := hr.units
    have nd := sc_mark.nd
    have hcalm : (cxOf CX0 P w K mg base ["key", "width"] "mark" (defScope s_mark) f cdv A outer s H E).nox.calm = true := rfl
    have hrX : Room 3 (Cx.A (cxOf CX0 P w K mg base ["key", "width"] "mark" (defScope s_mark) f cdv A outer s H E).nox) := hr
    exact (bd_one (sd_ret (ed_call hrX c_mixed (ad_cons (ed_call hrX c_stamp (ad_cons (ed_var 0) ad_nil)) (ad_cons (ed_gint rfl g_MARK_SALT) (ad_cons (ed_call hrX c_two_to (ad_cons (ed_var 1) ad_nil)) ad_nil))))))
abbrev s_law_stamp : Stmt := top 25
theorem sc_law_stamp : FnScope ["_law_key_here", "_law_worth", "_law_sign"] ["_law_key_here"] (defScope s_law_stamp) := ⟨rfl, rfl, rfl, by decide +kernel, rfl, by decide +kernel, by decide +kernel⟩
theorem ok_law_stamp {f : Addr} {fd : FuncData} (F : Fun K "_law_stamp" "_law_stamp" s_law_stamp f fd) (m_isinstance : mg "isinstance" = none) (m_int : mg "int" = none) (kit_int : KitT K "int") : FnOk P w K mg base CX0 1 f fd ["_law_key_here"] (spD K 1 F_law_stamp) :=
  fn_D (k := 0) F sc_law_stamp fun cdv A outer s H E hr => by
    have hu := hr.units
    have nd := sc_law_stamp.nd
    have hcalm : (cxOf CX0 P w K mg base ["_law_key_here", "_law_worth", "_law_sign"] "_law_stamp" (defScope s_law_stamp) f cdv A outer s H E).nox.calm = true := rfl
    have hrX : Room 0 (Cx.A (cxOf CX0 P w K mg base ["_law_key_here", "_law_worth", "_law_sign"] "_law_stamp" (defScope s_law_stamp) f cdv A outer s H E).nox) := hr
    exact (bd_cons (sd_if (td_truth (ed_isT kit_int (ed_var 0) m_isinstance m_int PyProof.Rows.boot_int))
      (bd_one (sd_ret (ed_bin op_mulI ed_int (ed_var 0))))
      bd_nil)
    (bd_cons (sd_set (i := 1) [] ed_int nd)
    (bd_cons (sd_for [0] PassesOwn.never hcalm (id_of (ed_var 0)) (gd_name (i := 2) nd)
      (bd_one (sd_set (i := 1) [1, 2] (ed_bin op_addD (ed_bin op_addD (ed_bin op_mulI (ed_var 1) ed_int) (ed_meth PySem.F.plainAttrs_str PySem.F.slot_str_index PySem.F.type_str_index mt_indexS ed_str (ad_cons (ed_var 2) ad_nil))) ed_int) nd)))
    (bd_one (sd_ret (ed_bin op_addD (ed_bin op_mulI ed_int (ed_var 1)) ed_int))))))
abbrev s_law_width : Stmt := top 29
theorem sc_law_width : FnScope ["_law_key_here", "_law_width_here", "_law_size", "_law_k", "_law_found"] ["_law_key_here", "_law_width_here"] (defScope s_law_width) := ⟨rfl, rfl, rfl, by decide +kernel, rfl, by decide +kernel, by decide +kernel⟩
theorem ok_law_width {f : Addr} {fd : FuncData} (F : Fun K "_law_width" "_law_width" s_law_width f fd) (c_mark : FnD P w K mg base "mark" 4 ["key", "width"] F_mark) (c_law_whole : FnD P w K mg base "_law_whole" 1 ["_law_found"] F_law_whole) (c_law_mixed : FnD P w K mg base "_law_mixed" 1 ["_law_number", "_law_salt", "_law_size"] F_law_mixed) (c_law_stamp : FnD P w K mg base "_law_stamp" 1 ["_law_key_here"] F_law_stamp) (m_range : mg "range" = none) : FnOk P w K mg base CX0 5 f fd ["_law_key_here", "_law_width_here"] (spD K 2 F_law_width) :=
  fn_D (k := 4) F sc_law_width fun cdv A outer s H E hr => by
    have hu := hr.units
    have nd := sc_law_width.nd
    have hcalm : (cxOf CX0 P w K mg base ["_law_key_here", "_law_width_here", "_law_size", "_law_k", "_law_found"] "_law_width" (defScope s_law_width) f cdv A outer s H E).nox.calm = true := rfl
    have hrX : Room 4 (Cx.A (cxOf CX0 P w K mg base ["_law_key_here", "_law_width_here", "_law_size", "_law_k", "_law_found"] "_law_width" (defScope s_law_width) f cdv A outer s H E).nox) := hr
    exact (bd_cons (sd_set (i := 2) [] ed_int nd)
    (bd_cons (sd_for [1] PassesOwn.never hcalm (id_range1 m_range (ad_cons (ed_var 1) ad_nil)) (gd_name (i := 3) nd)
      (bd_one (sd_set (i := 2) [2] (ed_bin op_mulI ed_int (ed_var 2)) nd)))
    (bd_cons (sd_set (i := 4) [0, 1] (ed_call hrX c_mark (ad_cons (ed_var 0) (ad_cons (ed_var 1) ad_nil))) nd)
    (bd_one (sd_ret (ed_and (ed_call hrX c_law_whole (ad_cons (ed_var 4) ad_nil)) (ed_one (ed_cmp (op_eqD hu) (ed_var 4) (ed_call hrX c_law_mixed (ad_cons (ed_call hrX c_law_stamp (ad_cons (ed_var 0) ad_nil)) (ad_cons ed_int (ad_cons (ed_var 2) ad_nil)))) (nomark _)))))))))
abbrev s_law : Stmt := top 30
theorem sc_law : FnScope ["_law_script", "_law_cells_here", "_law_asked", "_law_told", "_law_keys_here", "_law_number", "_law_salt", "_law_size", "_law_found", "_law_k", "_law_key_here"] ["_law_script"] (defScope s_law) := ⟨rfl, rfl, rfl, by decide +kernel, rfl, by decide +kernel, by decide +kernel⟩
theorem ok_law {f : Addr} {fd : FuncData} (F : Fun K "law" "law" s_law f fd) (c_law_cells : FnD P w K mg base "_law_cells" 3 ["_law_script", "_law_start", "_law_most"] F_law_cells) (c_law_three : FnD P w K mg base "_law_three" 1 ["_law_cells_here", "_law_k"] F_law_three) (c_law_cell : FnD P w K mg base "_law_cell" 2 ["_law_script", "_law_k"] F_law_cell) (c_mixed : FnD P w K mg base "mixed" 1 ["number", "salt", "size"] F_mixed) (c_law_whole : FnD P w K mg base "_law_whole" 1 ["_law_found"] F_law_whole) (c_law_mixed : FnD P w K mg base "_law_mixed" 1 ["_law_number", "_law_salt", "_law_size"] F_law_mixed) (c_law_keys : FnD P w K mg base "_law_keys" 4 ["_law_script", "_law_start", "_law_most"] F_law_keys) (c_law_width : FnD P w K mg base "_law_width" 5 ["_law_key_here", "_law_width_here"] F_law_width) (m_range : mg "range" = none) (m_len : mg "len" = none) (m_enumerate : mg "enumerate" = none) : FnOk P w K mg base CX0 6 f fd ["_law_script"] (spD K 1 F_law) :=
  fn_D (k := 5) F sc_law fun cdv A outer s H E hr => by
    have hu := hr.units
    have nd := sc_law.nd
    have hcalm : (cxOf CX0 P w K mg base ["_law_script", "_law_cells_here", "_law_asked", "_law_told", "_law_keys_here", "_law_number", "_law_salt", "_law_size", "_law_found", "_law_k", "_law_key_here"] "law" (defScope s_law) f cdv A outer s H E).nox.calm = true := rfl
    have hrX : Room 5 (Cx.A (cxOf CX0 P w K mg base ["_law_script", "_law_cells_here", "_law_asked", "_law_told", "_law_keys_here", "_law_number", "_law_salt", "_law_size", "_law_found", "_law_k", "_law_key_here"] "law" (defScope s_law) f cdv A outer s H E).nox) := hr
    exact (bd_cons (sd_set (i := 1) [0] (ed_call hrX c_law_cells (ad_cons (ed_var 0) (ad_cons ed_int (ad_cons ed_int ad_nil)))) nd)
    (bd_cons (sd_setC (i := 2) [1] (N' := ["_law_script", "_law_cells_here", "_law_asked", "_law_told", "_law_keys_here", "_law_number", "_law_salt", "_law_size", "_law_found", "?9", "_law_key_here", "_law_k"]) (fun _ _ z => z) hcalm (id_range1 m_range (ad_cons (ed_bin op_divD (ed_callB call_lenD3 rfl m_len PySem.boot_len (ad_cons (ed_var 1) ad_nil)) ed_int) ad_nil)) rfl (by kernel_rfl) rfl (fun C s0 H0 fp pn => ⟨(gc_name (i := 11) (show List.Nodup [("_law_script" : Str), ("_law_cells_here" : Str), ("_law_asked" : Str), ("_law_told" : Str), ("_law_keys_here" : Str), ("_law_number" : Str), ("_law_salt" : Str), ("_law_size" : Str), ("_law_found" : Str), ("?9" : Str), ("_law_key_here" : Str), ("_law_k" : Str)] from by decide +kernel)), ct_nil, (ed_call (room_comp hrX) c_law_three (ad_cons (ed_var 1) (ad_cons (ed_var 11) ad_nil)))⟩) nd)
    (bd_cons (sd_app (i := 2) (ed_lst (ad_cons (ed_call hrX c_law_cell (ad_cons (ed_var 0) (ad_cons ed_int ad_nil))) (ad_cons (ed_bin op_modD (ed_call hrX c_law_cell (ad_cons (ed_var 0) (ad_cons ed_int ad_nil))) ed_int) (ad_cons (ed_bin op_addD ed_int (ed_bin op_modD (ed_call hrX c_law_cell (ad_cons (ed_var 0) (ad_cons ed_int ad_nil))) ed_int)) ad_nil)))))
    (bd_cons (sd_set (i := 3) [] (ed_lst ad_nil) nd)
    (bd_cons (sd_for [2] PassesOwn.never hcalm (id_of (ed_var 2)) (gd_three (i := 5) (j := 6) (l := 7) hcalm nd)
      (bd_cons (sd_set (i := 8) [5, 6, 7] (ed_call hrX c_mixed (ad_cons (ed_var 5) (ad_cons (ed_var 6) (ad_cons (ed_var 7) ad_nil)))) nd)
    (bd_cons (sd_if (td_w (tw_or (td_not (td_truth (ed_call hrX c_law_whole (ad_cons (ed_var 8) ad_nil)))) (tw_or1 (td_cmp (op_neD hu) (ed_var 8) (ed_call hrX c_law_mixed (ad_cons (ed_var 5) (ad_cons (ed_var 6) (ad_cons (ed_var 7) ad_nil)))) (nomark _)))))
      (bd_one (sd_ret ed_bl))
      bd_nil)
    (bd_one (sd_app (i := 3) (ed_var 8))))))
    (bd_cons (sd_set (i := 4) [0] (ed_call hrX c_law_keys (ad_cons (ed_var 0) (ad_cons ed_int (ad_cons ed_int ad_nil)))) nd)
    (bd_cons (sd_for [4] PassesOwn.never hcalm (id_enum m_enumerate (ed_var 4)) (gd_two (i := 9) (j := 10) hcalm nd)
      (bd_one (sd_if (td_not (td_truth (ed_call hrX c_law_width (ad_cons (ed_var 10) (ad_cons (ed_bin op_addD ed_int (ed_bin op_modD (ed_bin op_addD (ed_var 9) (ed_call hrX c_law_cell (ad_cons (ed_var 0) (ad_cons ed_int ad_nil)))) ed_int)) ad_nil)))))
      (bd_one (sd_ret ed_bl))
      bd_nil)))
    (bd_one (sd_ret (ed_cmp (op_eqD hu) (ed_comp (N' := ["_law_script", "_law_cells_here", "_law_asked", "_law_told", "_law_keys_here", "?5", "?6", "?7", "_law_found", "_law_k", "_law_key_here", "_law_number", "_law_salt", "_law_size"]) (fun _ _ z => z) hcalm (id_of (ed_var 2)) rfl (by kernel_rfl) rfl (fun C s0 H0 fp pn => ⟨(gc_three (i := 11) (j := 12) (l := 13) (calm_comp hcalm) (show List.Nodup [("_law_script" : Str), ("_law_cells_here" : Str), ("_law_asked" : Str), ("_law_told" : Str), ("_law_keys_here" : Str), ("?5" : Str), ("?6" : Str), ("?7" : Str), ("_law_found" : Str), ("_law_k" : Str), ("_law_key_here" : Str), ("_law_number" : Str), ("_law_salt" : Str), ("_law_size" : Str)] from by decide +kernel)), ct_nil, (ed_call (room_comp hrX) c_mixed (ad_cons (ed_var 11) (ad_cons (ed_var 12) (ad_cons (ed_var 13) ad_nil))))⟩)) (ed_var 3) (nomark _)))))))))))
end
theorem all_mk {l : PySem.W.OpenLaw} {w : World} {K : PySem.W.Frag} {h : Heap} {mg : Str → Option Value} {fa : Addr} (X : K.In h) (G : h.Ns mainGlobals mg) (hfa : mg "law" = some (.ref fa))
    {f1 : Addr} {od1 an1 : Option Addr} {sl1 : Array (Option Value)} {oc1 kV1 dc1 pm1 cd1 ct1 : Value}
    {f2 : Addr} {od2 an2 : Option Addr} {sl2 : Array (Option Value)} {oc2 kV2 dc2 pm2 cd2 ct2 : Value}
    {f3 : Addr} {od3 an3 : Option Addr} {sl3 : Array (Option Value)} {oc3 kV3 dc3 pm3 cd3 ct3 : Value}
    {f4 : Addr} {od4 an4 : Option Addr} {sl4 : Array (Option Value)} {oc4 kV4 dc4 pm4 cd4 ct4 : Value}
    {f5 : Addr} {od5 an5 : Option Addr} {sl5 : Array (Option Value)} {oc5 kV5 dc5 pm5 cd5 ct5 : Value}
    {f6 : Addr} {od6 an6 : Option Addr} {sl6 : Array (Option Value)} {oc6 kV6 dc6 pm6 cd6 ct6 : Value}
    {f7 : Addr} {od7 an7 : Option Addr} {sl7 : Array (Option Value)} {oc7 kV7 dc7 pm7 cd7 ct7 : Value}
    {f8 : Addr} {od8 an8 : Option Addr} {sl8 : Array (Option Value)} {oc8 kV8 dc8 pm8 cd8 ct8 : Value}
    {f9 : Addr} {od9 an9 : Option Addr} {sl9 : Array (Option Value)} {oc9 kV9 dc9 pm9 cd9 ct9 : Value}
    {f10 : Addr} {od10 an10 : Option Addr} {sl10 : Array (Option Value)} {oc10 kV10 dc10 pm10 cd10 ct10 : Value}
    {f11 : Addr} {od11 an11 : Option Addr} {sl11 : Array (Option Value)} {oc11 kV11 dc11 pm11 cd11 ct11 : Value}
    {f12 : Addr} {od12 an12 : Option Addr} {sl12 : Array (Option Value)} {oc12 kV12 dc12 pm12 cd12 ct12 : Value}
    {f13 : Addr} {od13 an13 : Option Addr} {sl13 : Array (Option Value)} {oc13 kV13 dc13 pm13 cd13 ct13 : Value}
    {f14 : Addr} {od14 an14 : Option Addr} {sl14 : Array (Option Value)} {oc14 kV14 dc14 pm14 cd14 ct14 : Value}
    {f15 : Addr} {od15 an15 : Option Addr} {sl15 : Array (Option Value)} {oc15 kV15 dc15 pm15 cd15 ct15 : Value}
    {f16 : Addr} {od16 an16 : Option Addr} {sl16 : Array (Option Value)} {oc16 kV16 dc16 pm16 cd16 ct16 : Value}
    {f17 : Addr} {od17 an17 : Option Addr} {sl17 : Array (Option Value)} {oc17 kV17 dc17 pm17 cd17 ct17 : Value}
    {f18 : Addr} {od18 an18 : Option Addr} {sl18 : Array (Option Value)} {oc18 kV18 dc18 pm18 cd18 ct18 : Value}
    {f19 : Addr} {od19 an19 : Option Addr} {sl19 : Array (Option Value)} {oc19 kV19 dc19 pm19 cd19 ct19 : Value}
    {f20 : Addr} {od20 an20 : Option Addr} {sl20 : Array (Option Value)} {oc20 kV20 dc20 pm20 cd20 ct20 : Value}
    {tk_PRIME : Tok}
    {tk_MOST_SIGNS : Tok}
    {tk_SIGNS : Tok}
    {tk_GREATEST_NUMBER : Tok}
    {tk_MARK_SALT : Tok}
    (a1 : PySem.W.nsIn K mainGlobals "_law_raw" = some (some (.ref f1))) (l1 : K.lookup f1 = some ⟨oc1, od1, .func (PySem.W.fnOf "_law_raw" "_law_raw" (defArgs s_law_raw) (defBody s_law_raw) (defScope s_law_raw) .none kV1 dc1 pm1 an1 cd1 ct1), sl1⟩) (c1 : PySem.W.codeIn K cd1 "_law_raw" = true) (k1 : PySem.W.keepIn K (.ref f1) = true)
    (a2 : PySem.W.nsIn K mainGlobals "_law_mix" = some (some (.ref f2))) (l2 : K.lookup f2 = some ⟨oc2, od2, .func (PySem.W.fnOf "_law_mix" "_law_mix" (defArgs s_law_mix) (defBody s_law_mix) (defScope s_law_mix) .none kV2 dc2 pm2 an2 cd2 ct2), sl2⟩) (c2 : PySem.W.codeIn K cd2 "_law_mix" = true) (k2 : PySem.W.keepIn K (.ref f2) = true)
    (a3 : PySem.W.nsIn K mainGlobals "_law_cell" = some (some (.ref f3))) (l3 : K.lookup f3 = some ⟨oc3, od3, .func (PySem.W.fnOf "_law_cell" "_law_cell" (defArgs s_law_cell) (defBody s_law_cell) (defScope s_law_cell) .none kV3 dc3 pm3 an3 cd3 ct3), sl3⟩) (c3 : PySem.W.codeIn K cd3 "_law_cell" = true) (k3 : PySem.W.keepIn K (.ref f3) = true)
    (a4 : PySem.W.nsIn K mainGlobals "_law_great" = some (some (.ref f4))) (l4 : K.lookup f4 = some ⟨oc4, od4, .func (PySem.W.fnOf "_law_great" "_law_great" (defArgs s_law_great) (defBody s_law_great) (defScope s_law_great) .none kV4 dc4 pm4 an4 cd4 ct4), sl4⟩) (c4 : PySem.W.codeIn K cd4 "_law_great" = true) (k4 : PySem.W.keepIn K (.ref f4) = true)
    (a5 : PySem.W.nsIn K mainGlobals "_law_cells" = some (some (.ref f5))) (l5 : K.lookup f5 = some ⟨oc5, od5, .func (PySem.W.fnOf "_law_cells" "_law_cells" (defArgs s_law_cells) (defBody s_law_cells) (defScope s_law_cells) .none kV5 dc5 pm5 an5 cd5 ct5), sl5⟩) (c5 : PySem.W.codeIn K cd5 "_law_cells" = true) (k5 : PySem.W.keepIn K (.ref f5) = true)
    (a6 : PySem.W.nsIn K mainGlobals "_law_three" = some (some (.ref f6))) (l6 : K.lookup f6 = some ⟨oc6, od6, .func (PySem.W.fnOf "_law_three" "_law_three" (defArgs s_law_three) (defBody s_law_three) (defScope s_law_three) .none kV6 dc6 pm6 an6 cd6 ct6), sl6⟩) (c6 : PySem.W.codeIn K cd6 "_law_three" = true) (k6 : PySem.W.keepIn K (.ref f6) = true)
    (a7 : PySem.W.nsIn K mainGlobals "mixed" = some (some (.ref f7))) (l7 : K.lookup f7 = some ⟨oc7, od7, .func (PySem.W.fnOf "mixed" "mixed" (defArgs s_mixed) (defBody s_mixed) (defScope s_mixed) .none kV7 dc7 pm7 an7 cd7 ct7), sl7⟩) (c7 : PySem.W.codeIn K cd7 "mixed" = true) (k7 : PySem.W.keepIn K (.ref f7) = true)
    (a8 : PySem.W.nsIn K mainGlobals "_law_whole" = some (some (.ref f8))) (l8 : K.lookup f8 = some ⟨oc8, od8, .func (PySem.W.fnOf "_law_whole" "_law_whole" (defArgs s_law_whole) (defBody s_law_whole) (defScope s_law_whole) .none kV8 dc8 pm8 an8 cd8 ct8), sl8⟩) (c8 : PySem.W.codeIn K cd8 "_law_whole" = true) (k8 : PySem.W.keepIn K (.ref f8) = true)
    (a9 : PySem.W.nsIn K mainGlobals "_law_mixed" = some (some (.ref f9))) (l9 : K.lookup f9 = some ⟨oc9, od9, .func (PySem.W.fnOf "_law_mixed" "_law_mixed" (defArgs s_law_mixed) (defBody s_law_mixed) (defScope s_law_mixed) .none kV9 dc9 pm9 an9 cd9 ct9), sl9⟩) (c9 : PySem.W.codeIn K cd9 "_law_mixed" = true) (k9 : PySem.W.keepIn K (.ref f9) = true)
    (a10 : PySem.W.nsIn K mainGlobals "_law_key" = some (some (.ref f10))) (l10 : K.lookup f10 = some ⟨oc10, od10, .func (PySem.W.fnOf "_law_key" "_law_key" (defArgs s_law_key) (defBody s_law_key) (defScope s_law_key) .none kV10 dc10 pm10 an10 cd10 ct10), sl10⟩) (c10 : PySem.W.codeIn K cd10 "_law_key" = true) (k10 : PySem.W.keepIn K (.ref f10) = true)
    (a11 : PySem.W.nsIn K mainGlobals "_law_keys" = some (some (.ref f11))) (l11 : K.lookup f11 = some ⟨oc11, od11, .func (PySem.W.fnOf "_law_keys" "_law_keys" (defArgs s_law_keys) (defBody s_law_keys) (defScope s_law_keys) .none kV11 dc11 pm11 an11 cd11 ct11), sl11⟩) (c11 : PySem.W.codeIn K cd11 "_law_keys" = true) (k11 : PySem.W.keepIn K (.ref f11) = true)
    (a12 : PySem.W.nsIn K mainGlobals "two_to" = some (some (.ref f12))) (l12 : K.lookup f12 = some ⟨oc12, od12, .func (PySem.W.fnOf "two_to" "two_to" (defArgs s_two_to) (defBody s_two_to) (defScope s_two_to) .none kV12 dc12 pm12 an12 cd12 ct12), sl12⟩) (c12 : PySem.W.codeIn K cd12 "two_to" = true) (k12 : PySem.W.keepIn K (.ref f12) = true)
    (a13 : PySem.W.nsIn K mainGlobals "is_key_text" = some (some (.ref f13))) (l13 : K.lookup f13 = some ⟨oc13, od13, .func (PySem.W.fnOf "is_key_text" "is_key_text" (defArgs s_is_key_text) (defBody s_is_key_text) (defScope s_is_key_text) .none kV13 dc13 pm13 an13 cd13 ct13), sl13⟩) (c13 : PySem.W.codeIn K cd13 "is_key_text" = true) (k13 : PySem.W.keepIn K (.ref f13) = true)
    (a14 : PySem.W.nsIn K mainGlobals "is_key" = some (some (.ref f14))) (l14 : K.lookup f14 = some ⟨oc14, od14, .func (PySem.W.fnOf "is_key" "is_key" (defArgs s_is_key) (defBody s_is_key) (defScope s_is_key) .none kV14 dc14 pm14 an14 cd14 ct14), sl14⟩) (c14 : PySem.W.codeIn K cd14 "is_key" = true) (k14 : PySem.W.keepIn K (.ref f14) = true)
    (a15 : PySem.W.nsIn K mainGlobals "worth" = some (some (.ref f15))) (l15 : K.lookup f15 = some ⟨oc15, od15, .func (PySem.W.fnOf "worth" "worth" (defArgs s_worth) (defBody s_worth) (defScope s_worth) .none kV15 dc15 pm15 an15 cd15 ct15), sl15⟩) (c15 : PySem.W.codeIn K cd15 "worth" = true) (k15 : PySem.W.keepIn K (.ref f15) = true)
    (a16 : PySem.W.nsIn K mainGlobals "stamp" = some (some (.ref f16))) (l16 : K.lookup f16 = some ⟨oc16, od16, .func (PySem.W.fnOf "stamp" "stamp" (defArgs s_stamp) (defBody s_stamp) (defScope s_stamp) .none kV16 dc16 pm16 an16 cd16 ct16), sl16⟩) (c16 : PySem.W.codeIn K cd16 "stamp" = true) (k16 : PySem.W.keepIn K (.ref f16) = true)
    (a17 : PySem.W.nsIn K mainGlobals "mark" = some (some (.ref f17))) (l17 : K.lookup f17 = some ⟨oc17, od17, .func (PySem.W.fnOf "mark" "mark" (defArgs s_mark) (defBody s_mark) (defScope s_mark) .none kV17 dc17 pm17 an17 cd17 ct17), sl17⟩) (c17 : PySem.W.codeIn K cd17 "mark" = true) (k17 : PySem.W.keepIn K (.ref f17) = true)
    (a18 : PySem.W.nsIn K mainGlobals "_law_stamp" = some (some (.ref f18))) (l18 : K.lookup f18 = some ⟨oc18, od18, .func (PySem.W.fnOf "_law_stamp" "_law_stamp" (defArgs s_law_stamp) (defBody s_law_stamp) (defScope s_law_stamp) .none kV18 dc18 pm18 an18 cd18 ct18), sl18⟩) (c18 : PySem.W.codeIn K cd18 "_law_stamp" = true) (k18 : PySem.W.keepIn K (.ref f18) = true)
    (a19 : PySem.W.nsIn K mainGlobals "_law_width" = some (some (.ref f19))) (l19 : K.lookup f19 = some ⟨oc19, od19, .func (PySem.W.fnOf "_law_width" "_law_width" (defArgs s_law_width) (defBody s_law_width) (defScope s_law_width) .none kV19 dc19 pm19 an19 cd19 ct19), sl19⟩) (c19 : PySem.W.codeIn K cd19 "_law_width" = true) (k19 : PySem.W.keepIn K (.ref f19) = true)
    (a20 : PySem.W.nsIn K mainGlobals "law" = some (some (.ref f20))) (l20 : K.lookup f20 = some ⟨oc20, od20, .func (PySem.W.fnOf "law" "law" (defArgs s_law) (defBody s_law) (defScope s_law) .none kV20 dc20 pm20 an20 cd20 ct20), sl20⟩) (c20 : PySem.W.codeIn K cd20 "law" = true) (k20 : PySem.W.keepIn K (.ref f20) = true)
    (z_len : PySem.W.nsIn K mainGlobals "len" = some none)
    (z_max : PySem.W.nsIn K mainGlobals "max" = some none)
    (z_range : PySem.W.nsIn K mainGlobals "range" = some none)
    (z_min : PySem.W.nsIn K mainGlobals "min" = some none)
    (z_isinstance : PySem.W.nsIn K mainGlobals "isinstance" = some none)
    (z_int : PySem.W.nsIn K mainGlobals "int" = some none)
    (z_bool : PySem.W.nsIn K mainGlobals "bool" = some none)
    (z_all : PySem.W.nsIn K mainGlobals "all" = some none)
    (z_str : PySem.W.nsIn K mainGlobals "str" = some none)
    (z_enumerate : PySem.W.nsIn K mainGlobals "enumerate" = some none)
    (t_int_non : PySem.W.kitOne K (.type "NoneType") (.type "int") = some false)
    (t_int_bl : PySem.W.kitOne K (.type "bool") (.type "int") = some true)
    (t_int_int : PySem.W.kitOne K (.type "int") (.type "int") = some true)
    (t_int_str : PySem.W.kitOne K (.type "str") (.type "int") = some false)
    (t_int_lst : PySem.W.kitOne K (.type "list") (.type "int") = some false)
    (t_int_tup : PySem.W.kitOne K (.type "tuple") (.type "int") = some false)
    (t_bool_non : PySem.W.kitOne K (.type "NoneType") (.type "bool") = some false)
    (t_bool_bl : PySem.W.kitOne K (.type "bool") (.type "bool") = some true)
    (t_bool_int : PySem.W.kitOne K (.type "int") (.type "bool") = some false)
    (t_bool_str : PySem.W.kitOne K (.type "str") (.type "bool") = some false)
    (t_bool_lst : PySem.W.kitOne K (.type "list") (.type "bool") = some false)
    (t_bool_tup : PySem.W.kitOne K (.type "tuple") (.type "bool") = some false)
    (t_str_non : PySem.W.kitOne K (.type "NoneType") (.type "str") = some false)
    (t_str_bl : PySem.W.kitOne K (.type "bool") (.type "str") = some false)
    (t_str_int : PySem.W.kitOne K (.type "int") (.type "str") = some false)
    (t_str_str : PySem.W.kitOne K (.type "str") (.type "str") = some true)
    (t_str_lst : PySem.W.kitOne K (.type "list") (.type "str") = some false)
    (t_str_tup : PySem.W.kitOne K (.type "tuple") (.type "str") = some false)
    (y_PRIME : PySem.W.nsIn K mainGlobals "PRIME" = some (some (.int 2305843009213693951 tk_PRIME)))
    (y_MOST_SIGNS : PySem.W.nsIn K mainGlobals "MOST_SIGNS" = some (some (.int 11 tk_MOST_SIGNS)))
    (y_SIGNS : PySem.W.nsIn K mainGlobals "SIGNS" = some (some (.str "abcdefghijklmnopqrstuvwxyz0123456789-_ " tk_SIGNS)))
    (y_GREATEST_NUMBER : PySem.W.nsIn K mainGlobals "GREATEST_NUMBER" = some (some (.int 999999999999999999 tk_GREATEST_NUMBER)))
    (y_MARK_SALT : PySem.W.nsIn K mainGlobals "MARK_SALT" = some (some (.int 3 tk_MARK_SALT))) :
    ∃ fd : FuncData, (∀ (s : Shared) (v : Value), BindsTo s fd ⟨[v], []⟩ [("_law_script", v)]) ∧ ∀ base : Heap, K.In base → base.Ns mainGlobals mg → FnOk l.prog w K mg base CX0 6 fa fd ["_law_script"] (spLaw3 K) := by
  have e := hfa.symm.trans (PySem.W.mg_of X G a20)
  cases e
  have m_len := PySem.W.mg_none_of X G z_len
  have m_max := PySem.W.mg_none_of X G z_max
  have m_range := PySem.W.mg_none_of X G z_range
  have m_min := PySem.W.mg_none_of X G z_min
  have m_isinstance := PySem.W.mg_none_of X G z_isinstance
  have m_int := PySem.W.mg_none_of X G z_int
  have m_bool := PySem.W.mg_none_of X G z_bool
  have m_all := PySem.W.mg_none_of X G z_all
  have m_str := PySem.W.mg_none_of X G z_str
  have m_enumerate := PySem.W.mg_none_of X G z_enumerate
  have kit_int : KitT K "int" := ⟨t_int_non, t_int_bl, t_int_int, t_int_str, t_int_lst, t_int_tup⟩
  have kit_bool : KitT K "bool" := ⟨t_bool_non, t_bool_bl, t_bool_int, t_bool_str, t_bool_lst, t_bool_tup⟩
  have kit_str : KitT K "str" := ⟨t_str_non, t_str_bl, t_str_int, t_str_str, t_str_lst, t_str_tup⟩
  have g_PRIME := PySem.W.mg_of X G y_PRIME
  have g_MOST_SIGNS := PySem.W.mg_of X G y_MOST_SIGNS
  have g_SIGNS := PySem.W.mg_of X G y_SIGNS
  have g_GREATEST_NUMBER := PySem.W.mg_of X G y_GREATEST_NUMBER
  have g_MARK_SALT := PySem.W.mg_of X G y_MARK_SALT
  have F1 := fun_mk (st := s_law_raw) l1 c1 k1
  have b1 := F1.binds (ps := ["_law_script", "_law_k"]) fun _ _ _ _ _ _ us hl => match us, hl with | [_, _], _ => rfl
  have F2 := fun_mk (st := s_law_mix) l2 c2 k2
  have b2 := F2.binds (ps := ["_law_cell_here", "_law_k"]) fun _ _ _ _ _ _ us hl => match us, hl with | [_, _], _ => rfl
  have F3 := fun_mk (st := s_law_cell) l3 c3 k3
  have b3 := F3.binds (ps := ["_law_script", "_law_k"]) fun _ _ _ _ _ _ us hl => match us, hl with | [_, _], _ => rfl
  have F4 := fun_mk (st := s_law_great) l4 c4 k4
  have b4 := F4.binds (ps := ["_law_cell_here"]) fun _ _ _ _ _ _ us hl => match us, hl with | [_], _ => rfl
  have F5 := fun_mk (st := s_law_cells) l5 c5 k5
  have b5 := F5.binds (ps := ["_law_script", "_law_start", "_law_most"]) fun _ _ _ _ _ _ us hl => match us, hl with | [_, _, _], _ => rfl
  have F6 := fun_mk (st := s_law_three) l6 c6 k6
  have b6 := F6.binds (ps := ["_law_cells_here", "_law_k"]) fun _ _ _ _ _ _ us hl => match us, hl with | [_, _], _ => rfl
  have F7 := fun_mk (st := s_mixed) l7 c7 k7
  have b7 := F7.binds (ps := ["number", "salt", "size"]) fun _ _ _ _ _ _ us hl => match us, hl with | [_, _, _], _ => rfl
  have F8 := fun_mk (st := s_law_whole) l8 c8 k8
  have b8 := F8.binds (ps := ["_law_found"]) fun _ _ _ _ _ _ us hl => match us, hl with | [_], _ => rfl
  have F9 := fun_mk (st := s_law_mixed) l9 c9 k9
  have b9 := F9.binds (ps := ["_law_number", "_law_salt", "_law_size"]) fun _ _ _ _ _ _ us hl => match us, hl with | [_, _, _], _ => rfl
  have F10 := fun_mk (st := s_law_key) l10 c10 k10
  have b10 := F10.binds (ps := ["_law_cell_here"]) fun _ _ _ _ _ _ us hl => match us, hl with | [_], _ => rfl
  have F11 := fun_mk (st := s_law_keys) l11 c11 k11
  have b11 := F11.binds (ps := ["_law_script", "_law_start", "_law_most"]) fun _ _ _ _ _ _ us hl => match us, hl with | [_, _, _], _ => rfl
  have F12 := fun_mk (st := s_two_to) l12 c12 k12
  have b12 := F12.binds (ps := ["width"]) fun _ _ _ _ _ _ us hl => match us, hl with | [_], _ => rfl
  have F13 := fun_mk (st := s_is_key_text) l13 c13 k13
  have b13 := F13.binds (ps := ["text"]) fun _ _ _ _ _ _ us hl => match us, hl with | [_], _ => rfl
  have F14 := fun_mk (st := s_is_key) l14 c14 k14
  have b14 := F14.binds (ps := ["thing"]) fun _ _ _ _ _ _ us hl => match us, hl with | [_], _ => rfl
  have F15 := fun_mk (st := s_worth) l15 c15 k15
  have b15 := F15.binds (ps := ["text"]) fun _ _ _ _ _ _ us hl => match us, hl with | [_], _ => rfl
  have F16 := fun_mk (st := s_stamp) l16 c16 k16
  have b16 := F16.binds (ps := ["key"]) fun _ _ _ _ _ _ us hl => match us, hl with | [_], _ => rfl
  have F17 := fun_mk (st := s_mark) l17 c17 k17
  have b17 := F17.binds (ps := ["key", "width"]) fun _ _ _ _ _ _ us hl => match us, hl with | [_, _], _ => rfl
  have F18 := fun_mk (st := s_law_stamp) l18 c18 k18
  have b18 := F18.binds (ps := ["_law_key_here"]) fun _ _ _ _ _ _ us hl => match us, hl with | [_], _ => rfl
  have F19 := fun_mk (st := s_law_width) l19 c19 k19
  have b19 := F19.binds (ps := ["_law_key_here", "_law_width_here"]) fun _ _ _ _ _ _ us hl => match us, hl with | [_, _], _ => rfl
  have F20 := fun_mk (st := s_law) l20 c20 k20
  have b20 := F20.binds (ps := ["_law_script"]) fun _ _ _ _ _ _ us hl => match us, hl with | [_], _ => rfl
  refine ⟨PySem.W.fnOf "law" "law" (defArgs s_law) (defBody s_law) (defScope s_law) .none kV20 dc20 pm20 an20 cd20 ct20, fun s v => .of_eq rfl, fun base _ _ => ?_⟩
  have c_law_raw : FnD l.prog w K mg base "_law_raw" 1 ["_law_script", "_law_k"] F_law_raw := fnd_mk F1 (PySem.W.mg_of X G a1) b1 (ok_law_raw F1 m_len)
  have c_law_mix : FnD l.prog w K mg base "_law_mix" 1 ["_law_cell_here", "_law_k"] F_law_mix := fnd_mk F2 (PySem.W.mg_of X G a2) b2 (ok_law_mix F2)
  have c_law_cell : FnD l.prog w K mg base "_law_cell" 2 ["_law_script", "_law_k"] F_law_cell := fnd_mk F3 (PySem.W.mg_of X G a3) b3 (ok_law_cell F3 c_law_mix c_law_raw)
  have c_law_great : FnD l.prog w K mg base "_law_great" 2 ["_law_cell_here"] F_law_great := fnd_mk F4 (PySem.W.mg_of X G a4) b4 (ok_law_great F4 c_law_mix)
  have c_law_cells : FnD l.prog w K mg base "_law_cells" 3 ["_law_script", "_law_start", "_law_most"] F_law_cells := fnd_mk F5 (PySem.W.mg_of X G a5) b5 (ok_law_cells F5 c_law_raw c_law_cell c_law_great c_law_mix m_max m_len m_range m_min)
  have c_law_three : FnD l.prog w K mg base "_law_three" 1 ["_law_cells_here", "_law_k"] F_law_three := fnd_mk F6 (PySem.W.mg_of X G a6) b6 (ok_law_three F6)
  have c_mixed : FnD l.prog w K mg base "mixed" 1 ["number", "salt", "size"] F_mixed := fnd_mk F7 (PySem.W.mg_of X G a7) b7 (ok_mixed F7 g_PRIME)
  have c_law_whole : FnD l.prog w K mg base "_law_whole" 1 ["_law_found"] F_law_whole := fnd_mk F8 (PySem.W.mg_of X G a8) b8 (ok_law_whole F8 m_isinstance m_int m_bool kit_int kit_bool)
  have c_law_mixed : FnD l.prog w K mg base "_law_mixed" 1 ["_law_number", "_law_salt", "_law_size"] F_law_mixed := fnd_mk F9 (PySem.W.mg_of X G a9) b9 (ok_law_mixed F9)
  have c_law_key : FnD l.prog w K mg base "_law_key" 1 ["_law_cell_here"] F_law_key := fnd_mk F10 (PySem.W.mg_of X G a10) b10 (ok_law_key F10 m_range m_int)
  have c_law_keys : FnD l.prog w K mg base "_law_keys" 4 ["_law_script", "_law_start", "_law_most"] F_law_keys := fnd_mk F11 (PySem.W.mg_of X G a11) b11 (ok_law_keys F11 c_law_cells c_law_key c_law_raw)
  have c_two_to : FnD l.prog w K mg base "two_to" 1 ["width"] F_two_to := fnd_mk F12 (PySem.W.mg_of X G a12) b12 (ok_two_to F12 m_range)
  have c_is_key_text : FnD l.prog w K mg base "is_key_text" 1 ["text"] F_is_key_text := fnd_mk F13 (PySem.W.mg_of X G a13) b13 (ok_is_key_text F13 m_len m_all g_MOST_SIGNS g_SIGNS)
  have c_is_key : FnD l.prog w K mg base "is_key" 2 ["thing"] F_is_key := fnd_mk F14 (PySem.W.mg_of X G a14) b14 (ok_is_key F14 c_is_key_text m_isinstance m_bool m_int m_str kit_bool kit_int kit_str g_GREATEST_NUMBER)
  have c_worth : FnD l.prog w K mg base "worth" 1 ["text"] F_worth := fnd_mk F15 (PySem.W.mg_of X G a15) b15 (ok_worth F15 g_SIGNS)
  have c_stamp : FnD l.prog w K mg base "stamp" 3 ["key"] F_stamp := fnd_mk F16 (PySem.W.mg_of X G a16) b16 (ok_stamp F16 c_is_key c_worth m_isinstance m_str kit_str)
  have c_mark : FnD l.prog w K mg base "mark" 4 ["key", "width"] F_mark := fnd_mk F17 (PySem.W.mg_of X G a17) b17 (ok_mark F17 c_mixed c_two_to c_stamp g_MARK_SALT)
  have c_law_stamp : FnD l.prog w K mg base "_law_stamp" 1 ["_law_key_here"] F_law_stamp := fnd_mk F18 (PySem.W.mg_of X G a18) b18 (ok_law_stamp F18 m_isinstance m_int kit_int)
  have c_law_width : FnD l.prog w K mg base "_law_width" 5 ["_law_key_here", "_law_width_here"] F_law_width := fnd_mk F19 (PySem.W.mg_of X G a19) b19 (ok_law_width F19 c_mark c_law_whole c_law_mixed c_law_stamp m_range)
  exact law_of (ok_law (P := l.prog) (w := w) (base := base) F20 c_law_cells c_law_three c_law_cell c_mixed c_law_whole c_law_mixed c_law_keys c_law_width m_range m_len m_enumerate) law_true
end My

open PySem PySem.W PyProof.Rows
set_option maxRecDepth 100000 in
set_option maxHeartbeats 0 in
theorem PySem.Challenge.cw_lodge_k02_mixed_holds : PySem.Challenge.rw_lodge_k02_mixed.Holds := by
  w_on; o_law; k_head; (case hw => w_witness2)
  k_fill
  refine L3.walk3 (l := PySem.Challenge.rw_lodge_k02_mixed) (x := "_law_script") (k := 6) rfl rfl ⟨rfl, by decide, by decide⟩ (fun w h Y => PySem.W.kIn_of Y) ?F
  case F =>
    intro w mg fa h KX G hmg
    refine' My.all_mk KX G hmg ?a1 ?l1 ?c1 ?k1 ?a2 ?l2 ?c2 ?k2 ?a3 ?l3 ?c3 ?k3 ?a4 ?l4 ?c4 ?k4 ?a5 ?l5 ?c5 ?k5 ?a6 ?l6 ?c6 ?k6 ?a7 ?l7 ?c7 ?k7 ?a8 ?l8 ?c8 ?k8 ?a9 ?l9 ?c9 ?k9 ?a10 ?l10 ?c10 ?k10 ?a11 ?l11 ?c11 ?k11 ?a12 ?l12 ?c12 ?k12 ?a13 ?l13 ?c13 ?k13 ?a14 ?l14 ?c14 ?k14 ?a15 ?l15 ?c15 ?k15 ?a16 ?l16 ?c16 ?k16 ?a17 ?l17 ?c17 ?k17 ?a18 ?l18 ?c18 ?k18 ?a19 ?l19 ?c19 ?k19 ?a20 ?l20 ?c20 ?k20 ?z_len ?z_max ?z_range ?z_min ?z_isinstance ?z_int ?z_bool ?z_all ?z_str ?z_enumerate ?t_int_non ?t_int_bl ?t_int_int ?t_int_str ?t_int_lst ?t_int_tup ?t_bool_non ?t_bool_bl ?t_bool_int ?t_bool_str ?t_bool_lst ?t_bool_tup ?t_str_non ?t_str_bl ?t_str_int ?t_str_str ?t_str_lst ?t_str_tup ?y_PRIME ?y_MOST_SIGNS ?y_SIGNS ?y_GREATEST_NUMBER ?y_MARK_SALT
    (case a1 => k_is)
    (case l1 => k_is)
    (case c1 => k_is)
    (case k1 => k_is)
    (case a2 => k_is)
    (case l2 => k_is)
    (case c2 => k_is)
    (case k2 => k_is)
    (case a3 => k_is)
    (case l3 => k_is)
    (case c3 => k_is)
    (case k3 => k_is)
    (case a4 => k_is)
    (case l4 => k_is)
    (case c4 => k_is)
    (case k4 => k_is)
    (case a5 => k_is)
    (case l5 => k_is)
    (case c5 => k_is)
    (case k5 => k_is)
    (case a6 => k_is)
    (case l6 => k_is)
    (case c6 => k_is)
    (case k6 => k_is)
    (case a7 => k_is)
    (case l7 => k_is)
    (case c7 => k_is)
    (case k7 => k_is)
    (case a8 => k_is)
    (case l8 => k_is)
    (case c8 => k_is)
    (case k8 => k_is)
    (case a9 => k_is)
    (case l9 => k_is)
    (case c9 => k_is)
    (case k9 => k_is)
    (case a10 => k_is)
    (case l10 => k_is)
    (case c10 => k_is)
    (case k10 => k_is)
    (case a11 => k_is)
    (case l11 => k_is)
    (case c11 => k_is)
    (case k11 => k_is)
    (case a12 => k_is)
    (case l12 => k_is)
    (case c12 => k_is)
    (case k12 => k_is)
    (case a13 => k_is)
    (case l13 => k_is)
    (case c13 => k_is)
    (case k13 => k_is)
    (case a14 => k_is)
    (case l14 => k_is)
    (case c14 => k_is)
    (case k14 => k_is)
    (case a15 => k_is)
    (case l15 => k_is)
    (case c15 => k_is)
    (case k15 => k_is)
    (case a16 => k_is)
    (case l16 => k_is)
    (case c16 => k_is)
    (case k16 => k_is)
    (case a17 => k_is)
    (case l17 => k_is)
    (case c17 => k_is)
    (case k17 => k_is)
    (case a18 => k_is)
    (case l18 => k_is)
    (case c18 => k_is)
    (case k18 => k_is)
    (case a19 => k_is)
    (case l19 => k_is)
    (case c19 => k_is)
    (case k19 => k_is)
    (case a20 => k_is)
    (case l20 => k_is)
    (case c20 => k_is)
    (case k20 => k_is)
    (case z_len => k_is)
    (case z_max => k_is)
    (case z_range => k_is)
    (case z_min => k_is)
    (case z_isinstance => k_is)
    (case z_int => k_is)
    (case z_bool => k_is)
    (case z_all => k_is)
    (case z_str => k_is)
    (case z_enumerate => k_is)
    (case t_int_non => kit_is)
    (case t_int_bl => kit_is)
    (case t_int_int => kit_is)
    (case t_int_str => kit_is)
    (case t_int_lst => kit_is)
    (case t_int_tup => kit_is)
    (case t_bool_non => kit_is)
    (case t_bool_bl => kit_is)
    (case t_bool_int => kit_is)
    (case t_bool_str => kit_is)
    (case t_bool_lst => kit_is)
    (case t_bool_tup => kit_is)
    (case t_str_non => kit_is)
    (case t_str_bl => kit_is)
    (case t_str_int => kit_is)
    (case t_str_str => kit_is)
    (case t_str_lst => kit_is)
    (case t_str_tup => kit_is)
    (case y_PRIME => k_is)
    (case y_MOST_SIGNS => k_is)
    (case y_SIGNS => k_is)
    (case y_GREATEST_NUMBER => k_is)
    (case y_MARK_SALT => k_is)
