import PyProof.Rows.All
import Wide.All
import OpenK.AllK
import Wide.FinOn
import Lean
import PyProof.EqAt
import PyProof.EqKinds
import PyProof.TupleCall
import PySem.Challenge.RW_lodge_k13_no_bits
set_option Elab.async false
set_option linter.all false
set_option maxRecDepth 100000
set_option genSizeOf false
def PySem.W.Fast.tw4032037942448336185 : Nat := 0
def PySem.W.Fast.tw8740459546295026078 : Nat := 0
def PySem.W.Fast.tw1977052741804853586 : Nat := 0
def PySem.W.Fast.tw14840418873733244138 : Nat := 0
def PySem.W.Fast.tw758032388940144355 : Nat := 0
def PySem.W.Fast.tw14920308007828090206 : Nat := 0
def PySem.W.Fast.tw5920809562757073345 : Nat := 0
def PySem.W.Fast.tw10363442962394643114 : Nat := 0
def PySem.W.Fast.tw7770382857530353587 : Nat := 0
def PySem.W.Fast.tw11790695224562010227 : Nat := 0
def PySem.W.Fast.tw15246280104977985039 : Nat := 0
def PySem.W.Fast.tw13986202450492599684 : Nat := 0
def PySem.W.Fast.tw3639714358773869885 : Nat := 0
def PySem.W.Fast.tw18138044407882445236 : Nat := 0
def PySem.W.Fast.tw11177156666882106918 : Nat := 0
def PySem.W.Fast.tw3999912544705584939 : Nat := 0
def PySem.W.Fast.tw12516933694827355910 : Nat := 0
def PySem.W.Fast.tw9294420296356827213 : Nat := 0
def PySem.W.Fast.tw6645215408219137205 : Nat := 0
def PySem.W.Fast.tw16671174802710756264 : Nat := 0
def PySem.W.Fast.tw12281517422067071227 : Nat := 0
def PySem.W.Fast.tw2489927204047531567 : Nat := 0
def PySem.W.Fast.tw16806898493654910040 : Nat := 0
def PySem.W.Fast.tw10953503923315510322 : Nat := 0
def PySem.W.Fast.tw16408083103074292285 : Nat := 0
def PySem.W.Fast.tw5228770461407232874 : Nat := 0
def PySem.W.Fast.tw4859925548779408677 : Nat := 0
def PySem.W.Fast.tw4608914350055280388 : Nat := 0
def PySem.W.Fast.tw15632890433513167031 : Nat := 0
def PySem.W.Fast.tw3547075188473102007 : Nat := 0
namespace L2
open PySem PySem.Spec PyProof.Rows

noncomputable abbrev Key := Sum Int Str
noncomputable def keyIs : Key → Value → Bool
  | .inl k, v => Value.isInt k v
  | .inr x, v => Value.isStrOf x v
noncomputable def keyH (w : World) : Key → Int
  | .inl k => hashInt k
  | .inr x => hashStr w x
theorem keyIs_shape : ∀ {k : Key} {v : Value}, keyIs k v = true → (∃ i t, k = Sum.inl i ∧ v = Value.int i t) ∨ (∃ x t, k = Sum.inr x ∧ v = Value.str x t)
  | .inl i, v, h => by
    obtain ⟨t, e⟩ := Value.isInt_shape (k := i) (v := v) h
    exact .inl ⟨i, t, rfl, e⟩
  | .inr x, v, h => by
    obtain ⟨t, e⟩ := Value.isStrOf_shape (x := x) (v := v) h
    exact .inr ⟨x, t, rfl, e⟩
theorem key_ll (a b : Int) : decide ((Sum.inl a : Key) = Sum.inl b) = (a == b) := by
  by_cases e : a = b
  · subst e; simp
  · have h : ¬ (Sum.inl a : Key) = Sum.inl b := fun q => e (Sum.inl.inj q)
    rw [decide_eq_false h]
    exact (beq_eq_false_iff_ne.mpr e).symm
theorem key_rr (a b : Str) : decide ((Sum.inr a : Key) = Sum.inr b) = decide (a = b) := by
  by_cases e : a = b
  · subst e; simp
  · have h : ¬ (Sum.inr a : Key) = Sum.inr b := fun q => e (Sum.inr.inj q)
    rw [decide_eq_false h, decide_eq_false e]
theorem key_lr (a : Int) (b : Str) : decide ((Sum.inl a : Key) = Sum.inr b) = false := decide_eq_false (fun q => nomatch q)
theorem key_rl (a : Str) (b : Int) : decide ((Sum.inr a : Key) = Sum.inl b) = false := decide_eq_false (fun q => nomatch q)

noncomputable def mixKind (prog : Program) (w : World) : PySem.KeyKind prog w Key where
  is := keyIs
  hash := keyH w
  inj := fun v a b ha hb => by
    rcases keyIs_shape ha with ⟨i, t, rfl, rfl⟩ | ⟨x, t, rfl, rfl⟩
    · rcases keyIs_shape hb with ⟨j, u, rfl, e⟩ | ⟨y, u, rfl, e⟩
      · injection e with e1 _; rw [e1]
      · exact nomatch e
    · rcases keyIs_shape hb with ⟨j, u, rfl, e⟩ | ⟨y, u, rfl, e⟩
      · exact nomatch e
      · injection e with e1 _; rw [e1]
  byValue := fun k v h => by
    rcases keyIs_shape h with ⟨i, t, rfl, rfl⟩ | ⟨x, t, rfl, rfl⟩ <;> rfl
  pyHash := fun hv h => by
    rcases keyIs_shape hv with ⟨i, t, rfl, rfl⟩ | ⟨x, t, rfl, rfl⟩
    · exact wpAny_pyHash_int h
    · exact wpAny_pyHash_str h
  eqBool := fun hu hv h => by
    rcases keyIs_shape hu with ⟨i, t, rfl, rfl⟩ | ⟨x, t, rfl, rfl⟩
    · rcases keyIs_shape hv with ⟨j, u, rfl, rfl⟩ | ⟨y, u, rfl, rfl⟩
      · rw [key_ll] at h; exact wpAny_eqBool_int h
      · rw [key_lr] at h; exact SeqAt.EqAt.int_str i t y u _ _ _ _ h
    · rcases keyIs_shape hv with ⟨j, u, rfl, rfl⟩ | ⟨y, u, rfl, rfl⟩
      · rw [key_rl] at h; exact SeqAt.EqAt.str_int x t j u _ _ _ _ h
      · rw [key_rr] at h; exact wpAny_eqBool_str h
  «strs» := fun k x t v h => by
    rcases keyIs_shape h with ⟨i, u, rfl, e⟩ | ⟨y, u, rfl, e⟩
    · exact nomatch e
    · injection e with e1 _
      subst e1
      cases v <;> rfl

end L2

namespace L2
open PySem PySem.Spec PyProof.Rows

inductive V where
  | non | bl (b : Bool) | int (i : Int) | str (x : Str) | byt (b : Array UInt8) | flt (b : UInt64) | ref (a : Addr) | ty (n : String)
  deriving DecidableEq

noncomputable def RelV : V → Value → Prop
  | .non, u => u = Value.none
  | .bl b, u => u = Value.bool b
  | .int i, u => ∃ t, u = Value.int i t
  | .str x, u => ∃ t, u = Value.str x t
  | .byt b, u => ∃ t, u = Value.bytes b t
  | .flt b, u => ∃ t, u = Value.float b t
  | .ref a, u => u = Value.ref a
  | .ty n, u => u = Value.type n

noncomputable abbrev Vals : List V → List Value → Prop := Paired RelV
theorem Vals.length {xs : List V} {us : List Value} (r : Vals xs us) : xs.length = us.length := Paired.length r
theorem Vals.get : ∀ {xs : List V} {us : List Value} {i : Nat} {x : V}, Vals xs us → xs[i]? = some x → ∃ u, us[i]? = some u ∧ RelV x u
  | _, _, _, _, .nil, e => by simp at e
  | _, _, 0, _, .cons r _, e => by simp at e; subst e; exact ⟨_, rfl, r⟩
  | _, _, i + 1, x, .cons _ t, e => by
    obtain ⟨u, h1, h2⟩ := Vals.get (i := i) (x := x) t (by simpa using e)
    exact ⟨u, by simpa using h1, h2⟩
theorem Vals.set {x : V} {u : Value} (r : RelV x u) : ∀ {xs : List V} {us : List Value} (i : Nat), Vals xs us → Vals (xs.set i x) (us.set i u)
  | _, _, _, .nil => .nil
  | _, _, 0, .cons _ t => .cons r t
  | _, _, i + 1, .cons q t => .cons q (Vals.set r i t)
theorem Vals.append : ∀ {xs ys : List V} {us ws : List Value}, Vals xs us → Vals ys ws → Vals (xs ++ ys) (us ++ ws)
  | _, _, _, _, .nil, s => s
  | _, _, _, _, .cons r t, s => .cons r (Vals.append t s)
theorem Vals.take : ∀ {xs : List V} {us : List Value} (n : Nat), Vals xs us → Vals (xs.take n) (us.take n)
  | _, _, 0, _ => .nil
  | _, _, _ + 1, .nil => .nil
  | _, _, n + 1, .cons r t => .cons r (Vals.take n t)
theorem Vals.drop : ∀ {xs : List V} {us : List Value} (n : Nat), Vals xs us → Vals (xs.drop n) (us.drop n)
  | _, _, 0, r => r
  | _, _, _ + 1, .nil => .nil
  | _, _, n + 1, .cons _ t => Vals.drop n t
noncomputable def RelO : Option V → Option Value → Prop
  | some v, some u => RelV v u
  | none, none => True
  | _, _ => False
noncomputable def KV {κ : Type} : List (κ × V) → List (κ × Value) → Prop := Paired fun (p : κ × V) (q : κ × Value) => p.1 = q.1 ∧ RelV p.2 q.2

noncomputable def kV : Key → V
  | .inl i => .int i
  | .inr x => .str x

inductive HO where
    | lst (xs : List V)
    | tup (xs : List V)
    | dK (kvs : List (Key × V)) | dT (kvs : List (List Key × V))
    | set (S : Int → Bool) (n : Nat)
    | ins (C dx : Addr) (fs : List (Str × V))
    | own (x : Addr)
    | xd (fs : List (Str × V))
    | met (f x : Addr)
    | rng (lo hi : Int)
    | frz (o : Obj) (u : HO)
    | tbl (ps : Array Value)
    | ext (φ : Heap → Prop)

noncomputable abbrev Hp := Addr → Option HO
noncomputable def upd (H : Hp) (a : Addr) (o : HO) : Hp := fun b => if b = a then some o else H b
theorem upd_same {H : Hp} {a : Addr} {o : HO} : upd H a o a = some o := by unfold upd; rw [if_pos rfl]
theorem upd_ne {H : Hp} {a b : Addr} {o : HO} (h : b ≠ a) : upd H a o b = H b := by unfold upd; rw [if_neg h]
theorem ne_of_none {H : Hp} {a b : Addr} {o : HO} (h : H a = some o) (h' : H b = none) : a ≠ b := by
  intro e; subst e; rw [h] at h'; cases h'

section
variable (P : Program) (w : World)
noncomputable def ObjOk (H : Hp) (h : Heap) (a : Addr) : HO → Prop
  | .lst xs => xs.length ≤ sizeLine ∧ ∃ (its : List Value) (n : Nat), Vals xs its ∧ h.get? a = some { cls := .type "list", data := .seq its.toArray n }
  | .tup xs => xs.length ≤ sizeLine ∧ ∃ its : List Value, Vals xs its ∧ IsTup h a its.toArray
  | .dK kvs => kvs.length ≤ sizeLine ∧ (a == sysModules) = false ∧ ∃ vs, KV kvs vs ∧ h.DictOf (mixKind P w) a vs
  | .dT kvs => kvs.length ≤ sizeLine ∧ (a == sysModules) = false ∧ ∃ xs : List (List Key × Addr × Value),
      Paired (fun (p : List Key × V) (q : List Key × Addr × Value) => p.1 = q.1 ∧ H q.2.1 = some (.tup (p.1.map kV)) ∧ RelV p.2 q.2.2) kvs xs ∧
      ∃ o es ep, h.get? a = some o ∧ o.ExactDict ∧ o.data = .dict es ep ∧ es.toList = xs.map (entryOfKey (tupleKind (mixKind P w))) ∧ (xs.map (·.1)).Nodup
  | .set S n => h.SetOf (intKind P w) a S n
  | .ins C dx fs => H dx = some (.own a) ∧ fs.length ≤ 1000 ∧ dx ≠ a ∧ h.get? a = some (PySem.W.instObj C dx) ∧
      ∃ mA, h.Ns1 dx mA ∧ (∀ f, RelO (fs.lookup f) (mA f)) ∧ PySem.Within mA (fs.map (·.1))
  | .own _ => ∃ o, h.get? a = some o
  | .xd fs => ∃ mA, h.Ns1 a mA ∧ ∀ f, RelO (fs.lookup f) (mA f)
  | .rng lo hi => ∃ t u v, h.get? a = some { cls := .type "range", data := .fields #[.int lo t, .int hi u, .int 1 v] }
  | .frz o u => h.get? a = some o ∧ ObjOk H h a u
  | .tbl ps => h.get? a = some { cls := .none, data := .fields ps }
  | .met f x => h.get? a = some (PySem.W.methodObj (.ref f) (.ref x))
  | .ext φ => φ h ∧ (∃ o, h.get? a = some o) ∧ ∀ h1 h2 : Heap, φ h1 → (∀ o, h1.get? a = some o → h2.get? a = some o) → φ h2
noncomputable def HOk (H : Hp) (h : Heap) : Prop := ∀ a o, H a = some o → ObjOk P w H h a o
end

section
variable {P : Program} {w : World} {H H' : Hp} {h h' : Heap} {a : Addr} {o : HO}
theorem ObjOk.lt (x : ObjOk P w H h a o) : a < h.objs.size := by
  cases o with
  | lst xs => obtain ⟨_, _, _, _, e⟩ := x; exact Heap.lt_size e
  | tup xs => obtain ⟨_, _, _, p⟩ := x; exact p.lt
  | dK kvs => obtain ⟨_, _, _, _, o, _, _, e, _⟩ := x; exact Heap.lt_size e
  | dT kvs => obtain ⟨_, _, _, _, o, _, _, e, _⟩ := x; exact Heap.lt_size e
  | set S n => obtain ⟨o, _, _, _, e, _⟩ := x; exact Heap.lt_size e
  | ins C dx fs => obtain ⟨_, _, _, e, _⟩ := x; exact Heap.lt_size e
  | own y => obtain ⟨_, e⟩ := x; exact Heap.lt_size e
  | xd fs => obtain ⟨_, ⟨_, _, _, e, _⟩, _⟩ := x; exact Heap.lt_size e
  | rng lo hi => obtain ⟨_, _, _, e⟩ := x; exact Heap.lt_size e
  | frz ob u => obtain ⟨e, _⟩ := x; exact Heap.lt_size e
  | tbl ps => exact Heap.lt_size (show h.get? a = some _ from x)
  | met f y => exact Heap.lt_size (show h.get? a = some _ from x)
  | ext φ => obtain ⟨_, ⟨_, e⟩, _⟩ := x; exact Heap.lt_size e
theorem Paired.mapP {α β : Type} {F G : α → β → Prop} : ∀ {l₁ : List α} {l₂ : List β}, Paired F l₁ l₂ → (∀ a b, F a b → G a b) → Paired G l₁ l₂
  | _, _, .nil, _ => .nil
  | _, _, .cons r t, f => .cons (f _ _ r) (Paired.mapP t f)
theorem ObjOk.stay (x : ObjOk P w H h a o) (k : ∀ b u, (b = a ∨ H b = some (.own a)) → h.get? b = some u → h'.get? b = some u)
    (ho : ∀ b, H b = some (.own a) → H' b = some (.own a)) (ht : ∀ b xs, H b = some (.tup xs) → H' b = some (.tup xs)) : ObjOk P w H' h' a o := by
  induction o with
  | lst xs => obtain ⟨z, its, n, r, e⟩ := x; exact ⟨z, its, n, r, k _ _ (.inl rfl) e⟩
  | tup xs => obtain ⟨z, its, r, ob, e, c⟩ := x; exact ⟨z, its, r, ob, k _ _ (.inl rfl) e, c⟩
  | dK kvs => obtain ⟨z, y, vs, r, ob, es, ep, e, c⟩ := x; exact ⟨z, y, vs, r, ob, es, ep, k _ _ (.inl rfl) e, c⟩
  | dT kvs =>
    obtain ⟨z, y, xs, r, ob, es, ep, e, c⟩ := x
    exact ⟨z, y, xs, Paired.mapP r fun p q z => ⟨z.1, ht _ _ z.2.1, z.2.2⟩, ob, es, ep, k _ _ (.inl rfl) e, c⟩
  | set S n => obtain ⟨ob, es, ep, t, e, c⟩ := x; exact ⟨ob, es, ep, t, k _ _ (.inl rfl) e, c⟩
  | ins C dx fs =>
    obtain ⟨d, z, ne, e, mA, ⟨od, es, ep, e2, c⟩, r⟩ := x
    exact ⟨ho _ d, z, ne, k _ _ (.inl rfl) e, mA, ⟨od, es, ep, k _ _ (.inr d) e2, c⟩, r⟩
  | own y => obtain ⟨ob, e⟩ := x; exact ⟨ob, k _ _ (.inl rfl) e⟩
  | xd fs => obtain ⟨mA, ⟨od, es, ep, e, c⟩, r⟩ := x; exact ⟨mA, ⟨od, es, ep, k _ _ (.inl rfl) e, c⟩, r⟩
  | rng lo hi => obtain ⟨t, u, v, e⟩ := x; exact ⟨t, u, v, k _ _ (.inl rfl) e⟩
  | frz ob u ih => obtain ⟨e, q⟩ := x; exact ⟨k _ _ (.inl rfl) e, ih q⟩
  | tbl ps =>
    have e : h.get? a = some { cls := .none, data := .fields ps } := x
    show h'.get? a = some { cls := .none, data := .fields ps }
    exact k a _ (.inl rfl) e
  | met f y =>
    have e : h.get? a = some (PySem.W.methodObj (.ref f) (.ref y)) := x
    show h'.get? a = some (PySem.W.methodObj (.ref f) (.ref y))
    exact k a _ (.inl rfl) e
  | ext φ => obtain ⟨p, ⟨o, e⟩, st⟩ := x; exact ⟨st _ _ p fun o q => k _ _ (.inl rfl) q, ⟨o, k _ _ (.inl rfl) e⟩, st⟩
theorem HOk.lt (x : HOk P w H h) (e : H a = some o) : a < h.objs.size := (x a o e).lt
theorem HOk.fresh (x : HOk P w H h) (e : h.objs.size ≤ a) : H a = none := by
  cases q : H a with
  | none => rfl
  | some u => exact absurd (Nat.lt_of_lt_of_le (x.lt q) e) (Nat.lt_irrefl _)
theorem HOk.kept (x : HOk P w H h) (k : ∀ b u, h.get? b = some u → h'.get? b = some u) : HOk P w H h' := fun a o e =>
  (x a o e).stay (fun b u _ q => k b u q) (fun _ q => q) fun _ _ q => q
theorem HOk.laid (x : HOk P w H h) (k : ∀ b u, h.get? b = some u → h'.get? b = some u) (hp : h.objs.size ≤ a) (new : ObjOk P w (upd H a o) h' a o) : HOk P w (upd H a o) h' := fun b u e => by
  have hn := x.fresh hp
  by_cases hb : b = a
  · subst hb; rw [upd_same] at e; cases e; exact new
  · rw [upd_ne hb] at e
    exact (x b u e).stay (fun c v _ q => k c v q) (fun c q => by rw [upd_ne (ne_of_none q hn)]; exact q) fun c xs q => by rw [upd_ne (ne_of_none q hn)]; exact q
end

noncomputable def Rd (H : Hp) (a : Addr) (u : HO) : Prop := H a = some u ∨ ∃ o, H a = some (.frz o u)
theorem Rd.of {H : Hp} {a : Addr} {u : HO} (h : H a = some u) : Rd H a u := .inl h
theorem Rd.ok {P : Program} {w : World} {H : Hp} {h : Heap} {a : Addr} {u : HO} (r : Rd H a u) (x : HOk P w H h) : ObjOk P w H h a u := by
  rcases r with r | ⟨o, r⟩
  · exact x a u r
  · obtain ⟨_, q⟩ := x a _ r
    exact q
noncomputable def Mut : Option HO → Prop
  | some (.lst _) => True
  | some (.dK _) => True
  | some (.dT _) => True
  | some (.set _ _) => True
  | some (.ins _ _ _) => True
  | some (.ext _) => True
  | _ => False
section
variable {P : Program} {w : World} {H : Hp} {h h' : Heap} {x e : Addr} {o' : HO}
theorem HOk.write (ok : HOk P w H h) (mu : Mut (H x)) (he : e = x ∨ H e = some (.own x)) (k : ∀ b u, b ≠ e → h.get? b = some u → h'.get? b = some u) (heo : ∃ u, h'.get? e = some u)
    (new : ObjOk P w (upd H x o') h' x o') : HOk P w (upd H x o') h' := fun b u q => by
  have nown : ∀ c y, H c = some (.own y) → c ≠ x := fun c y r z => by subst z; rw [r] at mu; exact mu
  have ntup : ∀ c xs, H c = some (.tup xs) → c ≠ x := fun c xs r z => by subst z; rw [r] at mu; exact mu
  by_cases hb : b = x
  · subst hb; rw [upd_same] at q; cases q; exact new
  · rw [upd_ne hb] at q
    by_cases hbe : b = e
    · have q' : H b = some (.own x) := by
        rcases he with z | z
        · exact absurd (hbe.trans z) hb
        · rw [hbe]; exact z
      rw [q] at q'; cases q'
      obtain ⟨v, hv⟩ := heo
      exact ⟨v, by rw [hbe]; exact hv⟩
    · refine (ok b u q).stay (fun c v hc r => k c v ?_ r) (fun c r => by rw [upd_ne (nown c b r)]; exact r) fun c xs r => by rw [upd_ne (ntup c xs r)]; exact r
      rcases hc with rfl | hc
      · exact hbe
      · rintro rfl
        rcases he with z | z
        · exact nown c b hc z
        · rw [hc] at z; cases z; exact hb rfl
end

structure Un (fs ex : List Addr) (H H' : Hp) (h h' : Heap) : Prop where
  keep : ∀ b o, h.get? b = some o → H b = none → b ∉ fs → b ∉ ex → h'.get? b = some o
  slot : ∀ b o, h.get? b = some o → H b = none → b ∈ fs → b ∉ ex → ∃ sl, h'.get? b = some { o with slots := sl }
  free : ∀ b o, h.get? b = some o → H b = none → b ∉ ex → H' b = none
  there : ∀ b o, h.get? b = some o → b ∉ ex → ∃ o', h'.get? b = some o'
  tups : ∀ b xs, H b = some (.tup xs) → H' b = some (.tup xs)
  frzs : ∀ b o u, H b = some (.frz o u) → H' b = some (.frz o u)
  tbls : ∀ b ps, H b = some (.tbl ps) → ∃ more, H' b = some (.tbl (ps ++ more))
section
variable {fs fs' ex ex' : List Addr} {H H1 H2 : Hp} {h h1 h2 h' : Heap} {a x e : Addr} {o : HO}
theorem Un.any (u : Un fs ex H H1 h h1) {b : Addr} {ob : Obj} (q : h.get? b = some ob) (n : H b = none) (hx : b ∉ ex) : ∃ sl, h1.get? b = some { ob with slots := sl } := by
  by_cases hb : b ∈ fs
  · exact u.slot b ob q n hb hx
  · exact ⟨ob.slots, u.keep b ob q n hb hx⟩
theorem Un.trans (a : Un fs ex H H1 h h1) (b : Un fs ex H1 H2 h1 h2) : Un fs ex H H2 h h2 where
  keep := fun c ob q n hc hx => b.keep c ob (a.keep c ob q n hc hx) (a.free c ob q n hx) hc hx
  slot := fun c ob q n hc hx => by
    obtain ⟨sl, e1⟩ := a.slot c ob q n hc hx
    obtain ⟨sl', e2⟩ := b.slot c _ e1 (a.free c ob q n hx) hc hx
    exact ⟨sl', e2⟩
  free := fun c ob q n hx => by
    obtain ⟨o', e1⟩ := a.there c ob q hx
    exact b.free c o' e1 (a.free c ob q n hx) hx
  there := fun c ob q hx => by
    obtain ⟨o', e1⟩ := a.there c ob q hx
    exact b.there c o' e1 hx
  tups := fun c xs q => b.tups c xs (a.tups c xs q)
  frzs := fun c ob xs q => b.frzs c ob xs (a.frzs c ob xs q)
  tbls := fun c ps q => by
    obtain ⟨m1, e1⟩ := a.tbls c ps q
    obtain ⟨m2, e2⟩ := b.tbls c _ e1
    exact ⟨m1 ++ m2, by rw [e2, Array.append_assoc]⟩
theorem Un.kept (k : ∀ b u, h.get? b = some u → h'.get? b = some u) : Un fs ex H H h h' :=
  ⟨fun b ob q _ _ _ => k b ob q, fun b ob q _ _ _ => ⟨ob.slots, k b ob q⟩, fun _ _ _ n _ => n, fun b ob q _ => ⟨ob, k b ob q⟩, fun _ _ q => q, fun _ _ _ q => q, fun _ ps q => ⟨#[], by rw [q]; simp⟩⟩
theorem Un.refl : Un fs ex H H h h := Un.kept fun _ _ q => q
theorem Un.laid (k : ∀ b u, h.get? b = some u → h'.get? b = some u) (hp : h.objs.size ≤ a) (hn : H a = none) : Un fs ex H (upd H a o) h h' where
  keep := fun b u q _ _ _ => k b u q
  slot := fun b u q _ _ _ => ⟨u.slots, k b u q⟩
  free := fun b u q n _ => by rw [upd_ne (Nat.ne_of_lt (Nat.lt_of_lt_of_le (Heap.lt_size q) hp))]; exact n
  there := fun b u q _ => ⟨u, k b u q⟩
  tups := fun b xs q => by rw [upd_ne (ne_of_none q hn)]; exact q
  frzs := fun b u xs q => by rw [upd_ne (ne_of_none q hn)]; exact q
  tbls := fun b ps q => ⟨#[], by rw [upd_ne (ne_of_none q hn), q]; simp⟩
theorem Un.write (mu : Mut (H x)) (he : e = x ∨ H e = some (.own x)) (k : ∀ b u, b ≠ e → h.get? b = some u → h'.get? b = some u) (heo : ∃ u, h'.get? e = some u) : Un fs ex H (upd H x o) h h' := by
  have hx : ∀ b, H b = none → b ≠ x := fun b n z => by subst z; rw [n] at mu; exact mu
  have hb : ∀ b, H b = none → b ≠ e := fun b n z => by
    subst z
    rcases he with r | r
    · exact hx b n r
    · rw [n] at r; cases r
  have hm : ∀ b u, H b = some u → ¬ Mut (some u) → b ≠ x := fun b u q nm z => by subst z; rw [q] at mu; exact nm mu
  refine ⟨fun b u q n _ _ => k b u (hb b n) q, fun b u q n _ _ => ⟨u.slots, k b u (hb b n) q⟩, fun b u q n _ => by rw [upd_ne (hx b n)]; exact n, fun b u q _ => ?_,
    fun b xs q => by rw [upd_ne (hm b _ q fun z => z)]; exact q, fun b u xs q => by rw [upd_ne (hm b _ q fun z => z)]; exact q, fun b ps q => ⟨#[], by rw [upd_ne (hm b _ q fun z => z), q]; simp⟩⟩
  by_cases hbe : b = e
  · subst hbe; exact heo
  · exact ⟨u, k b u hbe q⟩
theorem Un.mono (u : Un fs ex H H1 h h1) (hs : ∀ b ∈ fs, b ∈ fs') (hx : ∀ b ∈ ex, b ∈ ex') : Un fs' ex' H H1 h h1 :=
  ⟨fun b ob q n hb he => u.keep b ob q n (fun z => hb (hs b z)) fun z => he (hx b z), fun _ _ q n _ he => u.any q n fun z => he (hx _ z), fun b ob q n he => u.free b ob q n fun z => he (hx b z), fun b ob q he => u.there b ob q fun z => he (hx b z), u.tups, u.frzs, u.tbls⟩
end

noncomputable def trk (h : Heap) (H : Hp) : List Addr := (List.range h.objs.size).filter fun a => (H a).isSome
noncomputable def hidT (h : Heap) (H : Hp) : Heap := PySem.W.hideAll h (trk h H)
theorem hidT_size (h : Heap) (H : Hp) : (hidT h H).objs.size = h.objs.size := PySem.W.hideAll_size _ _
theorem hidT_get {h : Heap} {H : Hp} {b : Addr} {o : Obj} (e : h.get? b = some o) (n : H b = none) : (hidT h H).get? b = some o :=
  PySem.W.hideAll_get _ e fun hm => by
    have q : (H b).isSome = true := (List.mem_filter.mp hm).2
    rw [n] at q; simp at q
theorem of_hidT {h : Heap} {H : Hp} {b : Addr} {o : Obj} (e : (hidT h H).get? b = some o) : h.get? b = some o ∧ H b = none := by
  have e' : h.get? b = some o := PySem.W.of_hideAll (trk h H) e
  refine ⟨e', ?_⟩
  cases q : H b with
  | none => rfl
  | some x =>
    have hm : b ∈ trk h H := List.mem_filter.mpr ⟨List.mem_range.mpr (Heap.lt_size e'), by simp [q]⟩
    have z : (hidT h H).get? b = none := PySem.W.hideAll_none (trk h H) hm
    rw [z] at e; cases e

noncomputable def allNews (g h : Heap) (L : Addr) : List (Addr × Obj) := (List.range h.objs.size).filterMap fun a => if a = L ∨ (g.get? a).isSome = true then none else (h.get? a).map fun o => (a, o)
noncomputable def rest (g h : Heap) (L d : Addr) : List (Addr × Obj) := (allNews g h L).filter fun p => decide (p.1 ≠ d)
end L2

namespace L2
open PySem PySem.Spec PyProof.Rows

structure Mod (K : PySem.W.Frag) (mg : Str → Option Value) (base : Heap) : Prop where
  kin : K.In base
  glob : base.Ns mainGlobals mg
  blt : ∃ mb, base.Ns builtinsNs mb ∧ ∀ x : Str, x ≠ "__name__" → mb x = bootBuiltins x
  nolimit : base.NoLimit

structure Cx where
  prog : Program
  w : World
  K : PySem.W.Frag
  mg : Str → Option Value
  base : Heap
  A : Around
  N : List Str
  s₀ : Shared
  H₀ : Hp
  env : Env
  outer : List Env
  stack : List Env
  ex : List Addr
  fn : Str → Bool
  calm : Bool
  pn : List (Addr × Obj)
  xe : Value → Shared → Prop
noncomputable def frs (l : List Env) : List Addr := l.filterMap (·.frame)
noncomputable abbrev Cx.fs (X : Cx) : List Addr := frs X.outer

noncomputable def Vis (sc : Scope) (x : Str) : Prop := sc.names.lookup x = some .local ∨ sc.names.lookup x = some .cell ∨ sc.names.lookup x = some .free
noncomputable def Loc (sc : Scope) (x : Str) : Prop := sc.names.lookup x = some .local ∨ sc.names.lookup x = some .cell
noncomputable def Look (env : Env) (h : Heap) (m : Str → Option Value) (x : Str) (u : Value) : Prop :=
  (env.kindOf x = some .local ∧ m x = some u) ∨ ((env.kindOf x = some .cell ∨ env.kindOf x = some .free) ∧ ∃ c, env.cells.lookup x = some c ∧ h.IsCell c (some u))

structure Cx.Ok (X : Cx) : Prop where
  mod : Mod X.K X.mg X.base
  kind : X.env.scope.kind = .function
  glob : X.env.globals = mainGlobals
  blt : X.env.builtins = builtinsNs
  above : X.s₀.heap.objs.size ≤ X.env.locals
  inj : ∀ x y c, X.env.cells.lookup x = some c → X.env.cells.lookup y = some c → x = y
  has : ∀ x, (X.env.kindOf x = some .cell ∨ X.env.kindOf x = some .free) → ∃ c, X.env.cells.lookup x = some c
  cab : ∀ x c, X.fn x = true → X.env.cells.lookup x = some c → X.s₀.heap.objs.size ≤ c
  hd : X.calm = true → X.A.handled = none
  frames : X.A.frames = some X.stack
  stk : X.stack = X.outer ∨ (X.stack = X.env :: X.outer ∧ X.env.frame = some X.env.locals)
  exf : ∀ b ∈ X.ex, b ≠ X.env.locals ∧ ∀ x c, X.env.cells.lookup x = some c → c ≠ b
  bs : ∀ b o, X.base.get? b = some o → X.s₀.heap.get? b = some o ∧ X.H₀ b = none
  bsz : X.base.objs.size ≤ X.s₀.heap.objs.size
  noex : ∀ b o, X.base.get? b = some o → b ∉ X.ex
  exfs : ∀ b ∈ X.ex, b ∉ X.fs
  funs : X.s₀.heap.FunFrames X.base X.outer
  frf : ∀ b ∈ X.fs, X.H₀ b = none

structure Inv (X : Cx) (pins : List (Addr × Obj)) (σ : List (Option V)) (H : Hp) (s : Shared) : Prop where
  ok : X.Ok
  os : s.os = X.s₀.os
  bare : AllBare s.gens
  base : Un X.fs X.ex X.H₀ H X.s₀.heap s.heap
  loc : ∃ m, s.heap.Ns X.env.locals m ∧ ∀ (i : Nat) (x : Str) (v : V), X.N[i]? = some x → σ[i]? = some (some v) → Vis X.env.scope x → ∃ u, RelV v u ∧ Look X.env s.heap m x u
  cell : ∀ x c, X.env.cells.lookup x = some c → ∃ v, s.heap.IsCell c v
  free : H X.env.locals = none
  freeC : ∀ x c, X.env.cells.lookup x = some c → H c = none
  pin : ∀ p ∈ X.pn ++ pins, s.heap.get? p.1 = some p.2 ∧ H p.1 = none ∧ p.1 ≠ X.env.locals ∧ p.1 ∉ X.fs ∧ ∀ v, p.2.data ≠ .cell v
  hok : HOk X.prog X.w H s.heap
  len : σ.length = X.N.length

section
variable {X : Cx} {pins : List (Addr × Obj)} {σ : List (Option V)} {H H' : Hp} {s : Shared} {h' : Heap}

theorem Cx.Ok.nofr (ok : X.Ok) {b : Addr} {o : Obj} (e : X.base.get? b = some o) : b ∉ X.fs := fun hb => by
  have := (ok.funs.mem hb).1
  rw [e] at this; cases this
theorem Inv.bs (I : Inv X pins σ H s) : ∀ b o, X.base.get? b = some o → s.heap.get? b = some o ∧ H b = none := fun b o e =>
  ⟨I.base.keep b o (I.ok.bs b o e).1 (I.ok.bs b o e).2 (I.ok.nofr e) (I.ok.noex b o e), I.base.free b o (I.ok.bs b o e).1 (I.ok.bs b o e).2 (I.ok.noex b o e)⟩
theorem Inv.bk (I : Inv X pins σ H s) : ∀ b o, X.base.get? b = some o → s.heap.get? b = some o := fun b o e => (I.bs b o e).1
theorem Inv.mod (I : Inv X pins σ H s) : Mod X.K X.mg X.base := I.ok.mod
theorem Inv.kIn (I : Inv X pins σ H s) : X.K.In s.heap := I.ok.mod.kin.keeps I.bk
theorem Inv.nolimit (I : Inv X pins σ H s) : s.heap.NoLimit := I.ok.mod.nolimit.keeps I.bk
theorem Inv.fr (I : Inv X pins σ H s) : ∃ m, Fr X.base X.env.locals s.heap m :=
  let ⟨m, hn, _⟩ := I.loc
  ⟨m, hn, I.bk, Nat.le_trans I.ok.bsz I.ok.above⟩
theorem Inv.lt (I : Inv X pins σ H s) : X.env.locals < s.heap.objs.size := let ⟨_, hn, _⟩ := I.loc; hn.lt
theorem Inv.sz (I : Inv X pins σ H s) : X.s₀.heap.objs.size ≤ s.heap.objs.size := Nat.le_trans I.ok.above (Nat.le_of_lt I.lt)
theorem Inv.nofs (I : Inv X pins σ H s) {a : Addr} (h : s.heap.objs.size ≤ a) : a ∉ X.fs := fun hb => by
  obtain ⟨_, o, ho, _⟩ := I.ok.funs.mem hb
  exact absurd (Nat.lt_of_lt_of_le (Heap.lt_size ho) (Nat.le_trans I.sz h)) (Nat.lt_irrefl _)
theorem Inv.cne (I : Inv X pins σ H s) : ∀ x c, X.env.cells.lookup x = some c → c ≠ X.env.locals := fun x c e z => by
  obtain ⟨v, o, ho, hd⟩ := I.cell x c e
  obtain ⟨m, ⟨o', es, ep, ho', hd', _⟩, _⟩ := I.loc
  rw [z, ho'] at ho; cases ho; rw [hd'] at hd; cases hd
theorem Inv.funs (I : Inv X pins σ H s) : s.heap.FunFrames X.base X.outer := by
  have all : ∀ (l : List Env), (∀ b ∈ frs l, b ∈ X.fs) → X.s₀.heap.FunFrames X.base l → s.heap.FunFrames X.base l := by
    intro l
    induction l with
    | nil => intro _ _; trivial
    | cons env r ih =>
      intro hs hl
      obtain ⟨hk, ⟨L, o, hf, hn, ho, hd⟩, hr⟩ := hl
      have hL : L ∈ X.fs := hs L (by unfold frs; rw [List.filterMap_cons, hf]; exact List.mem_cons_self)
      obtain ⟨sl, e⟩ := I.base.slot L o ho (I.ok.frf L hL) hL fun z => I.ok.exfs L z hL
      exact ⟨hk, ⟨L, _, hf, hn, e, hd⟩, ih (fun b hb => hs b (by unfold frs; rw [List.filterMap_cons, hf]; exact List.mem_cons_of_mem _ hb)) hr⟩
  exact all X.outer (fun _ hb => hb) I.ok.funs

theorem Inv.stack (I : Inv X pins σ H s) : s.heap.FunFrames X.base X.stack := by
  rcases I.ok.stk with e | ⟨e, hf⟩
  · rw [e]; exact I.funs
  · rw [e]
    obtain ⟨m, hn, _⟩ := I.loc
    refine .cons (by rw [I.ok.kind]; decide) hf hn ?_ I.funs
    exact Heap.get?_none_of_le (Nat.le_trans I.ok.bsz I.ok.above)
theorem Inv.stkSub (I : Inv X pins σ H s) : ∀ b ∈ frs X.stack, b ∈ X.env.locals :: X.fs := fun b hb => by
  rcases I.ok.stk with e | ⟨e, hf⟩
  · rw [e] at hb; exact List.mem_cons_of_mem _ hb
  · rw [e] at hb
    unfold frs at hb
    rw [List.filterMap_cons, hf] at hb
    exact hb
theorem Inv.stkFree (I : Inv X pins σ H s) : ∀ b ∈ frs X.stack, H b = none := fun b hb => by
  rcases List.mem_cons.mp (I.stkSub b hb) with e | hb
  · rw [e]; exact I.free
  · obtain ⟨_, o, ho, _⟩ := I.ok.funs.mem hb
    exact I.base.free b o ho (I.ok.frf b hb) fun z => I.ok.exfs b z hb

theorem Inv.step {g' : Array GenState} {t' : Nat} {d' : Drawn} {ch : List Addr} (I : Inv X pins σ H s)
    (hch : ∀ b ∈ ch, (b ∈ X.ex ∨ X.s₀.heap.objs.size ≤ b) ∧ b ≠ X.env.locals ∧ (∀ x c, X.env.cells.lookup x = some c → c ≠ b) ∧ ∀ p ∈ X.pn ++ pins, p.1 ≠ b)
    (keep : ∀ b o, b ≠ X.env.locals → b ∉ X.fs → b ∉ ch → s.heap.get? b = some o → H b = none → h'.get? b = some o)
    (slot : ∀ b o, b ≠ X.env.locals → b ∈ X.fs → b ∉ ch → s.heap.get? b = some o → H b = none → ∃ sl, h'.get? b = some { o with slots := sl }) (free : ∀ b o, b ∉ ch → s.heap.get? b = some o → H b = none → H' b = none)
    (there : ∀ b o, b ∉ ch → s.heap.get? b = some o → ∃ o', h'.get? b = some o')
    (tups : ∀ b xs, H b = some (.tup xs) → H' b = some (.tup xs)) (frzs : ∀ b o u, H b = some (.frz o u) → H' b = some (.frz o u)) (tbls : ∀ b ps, H b = some (.tbl ps) → ∃ more, H' b = some (.tbl (ps ++ more)))
    (ns : ∀ m, s.heap.Ns X.env.locals m → h'.Ns X.env.locals m) (hok : HOk X.prog X.w H' h') (hg : AllBare g') :
    Inv X pins σ H' { s with heap := h', gens := g', drawn := d', toks := t' } := by
  have neL : ∀ b o, X.s₀.heap.get? b = some o → b ≠ X.env.locals := fun b o e => Nat.ne_of_lt (Nat.lt_of_lt_of_le (Heap.lt_size e) I.ok.above)
  have neC : ∀ b o, X.s₀.heap.get? b = some o → b ∉ X.ex → b ∉ ch := fun b o e hx hb => by
    rcases (hch b hb).1 with z | z
    · exact hx z
    · exact absurd (Nat.lt_of_lt_of_le (Heap.lt_size e) z) (Nat.lt_irrefl _)
  have cellK : ∀ x c, X.env.cells.lookup x = some c → ∀ v, s.heap.IsCell c v → h'.IsCell c v := fun x c e v ⟨o, ho, hd⟩ => by
    have nch : c ∉ ch := fun z => (hch c z).2.2.1 x c e rfl
    by_cases hc : c ∈ X.fs
    · obtain ⟨sl, q⟩ := slot c o (I.cne x c e) hc nch ho (I.freeC x c e)
      exact ⟨_, q, hd⟩
    · exact ⟨o, keep c o (I.cne x c e) hc nch ho (I.freeC x c e), hd⟩
  refine ⟨I.ok, I.os, hg, ⟨fun b o e n hb hx => ?_, fun b o e n hb hx => ?_, fun b o e n hx => ?_, fun b o e hx => ?_, fun b xs e => tups b xs (I.base.tups b xs e), fun b o xs e => frzs b o xs (I.base.frzs b o xs e), fun b ps e => ?_⟩, ?_, fun x c e => ?_, ?_, fun x c e => ?_, fun p hp => ?_, hok, I.len⟩
  · exact keep b o (neL b o e) hb (neC b o e hx) (I.base.keep b o e n hb hx) (I.base.free b o e n hx)
  · obtain ⟨sl, e1⟩ := I.base.slot b o e n hb hx
    obtain ⟨sl', e2⟩ := slot b _ (neL b o e) hb (neC b o e hx) e1 (I.base.free b o e n hx)
    exact ⟨sl', e2⟩
  · obtain ⟨o', e1⟩ := I.base.there b o e hx
    exact free b o' (neC b o e hx) e1 (I.base.free b o e n hx)
  · obtain ⟨o', e1⟩ := I.base.there b o e hx
    exact there b o' (neC b o e hx) e1
  · obtain ⟨m1, e1⟩ := I.base.tbls b ps e
    obtain ⟨m2, e2⟩ := tbls b _ e1
    exact ⟨m1 ++ m2, by rw [e2, Array.append_assoc]⟩
  · obtain ⟨m, hn, hl⟩ := I.loc
    refine ⟨m, ns m hn, fun i x v e1 e2 e3 => ?_⟩
    obtain ⟨u, r, l⟩ := hl i x v e1 e2 e3
    refine ⟨u, r, ?_⟩
    rcases l with l | ⟨k, c, e, z⟩
    · exact .inl l
    · exact .inr ⟨k, c, e, cellK x c e _ z⟩
  · obtain ⟨v, z⟩ := I.cell x c e
    exact ⟨v, cellK x c e v z⟩
  · obtain ⟨m, ⟨o, _, _, ho, _⟩, _⟩ := I.loc
    exact free _ o (fun z => (hch _ z).2.1 rfl) ho I.free
  · obtain ⟨v, o, ho, hd⟩ := I.cell x c e
    exact free c o (fun z => (hch c z).2.2.1 x c e rfl) ho (I.freeC x c e)
  · obtain ⟨e, n, ne, nf, d⟩ := I.pin p hp
    have nch : p.1 ∉ ch := fun z => (hch p.1 z).2.2.2 p hp rfl
    exact ⟨keep p.1 p.2 ne nf nch e n, free p.1 p.2 nch e n, ne, nf, d⟩
theorem Inv.un {t' : Nat} (I : Inv X pins σ H s) (u : Un X.fs [] H H' s.heap h') (hok : HOk X.prog X.w H' h') : Inv X pins σ H' { s with heap := h', toks := t' } := by
  obtain ⟨m, ⟨o, es, ep, ho, r⟩, _⟩ := id I.loc
  obtain ⟨sl, hL⟩ := u.any ho I.free (by simp)
  exact I.step (g' := s.gens) (d' := s.drawn) (ch := []) (fun _ z => nomatch z) (fun b o _ hb _ e n => u.keep b o e n hb (by simp)) (fun b o _ hb _ e n => u.slot b o e n hb (by simp)) (fun b o _ e n => u.free b o e n (by simp)) (fun b o _ e => u.there b o e (by simp)) u.tups u.frzs u.tbls (fun m' hm => by
    obtain ⟨o', es', ep', ho', r'⟩ := hm
    rw [ho] at ho'; cases ho'
    exact ⟨_, es', ep', hL, r'⟩) hok I.bare
theorem Inv.call {g' : Array GenState} {t' : Nat} {d' : Drawn} {ch : List Addr} (I : Inv X pins σ H s) (u : Un (frs X.stack) ch H H' s.heap h') (hok : HOk X.prog X.w H' h') (hg : AllBare g')
    (hch : ∀ b ∈ ch, (b ∈ X.ex ∨ X.s₀.heap.objs.size ≤ b) ∧ b ≠ X.env.locals ∧ (∀ x c, X.env.cells.lookup x = some c → c ≠ b) ∧ ∀ p ∈ X.pn ++ pins, p.1 ≠ b) :
    Inv X pins σ H' { s with heap := h', gens := g', drawn := d', toks := t' } := by
  obtain ⟨m, ⟨o, es, ep, ho, r⟩, _⟩ := id I.loc
  obtain ⟨sl, hL⟩ := u.any ho I.free fun z => (hch _ z).2.1 rfl
  exact I.step (ch := ch) hch (fun b o hL hb hc e n => u.keep b o e n (fun z => (List.mem_cons.mp (I.stkSub b z)).elim hL hb) hc) (fun b o _ _ hc e n => u.any e n hc) (fun b o hc e n => u.free b o e n hc) (fun b o hc e => u.there b o e hc) u.tups u.frzs u.tbls (fun m' hm => by
    obtain ⟨o', es', ep', ho', r'⟩ := hm
    rw [ho] at ho'; cases ho'
    exact ⟨_, es', ep', hL, r'⟩) hok hg
theorem Inv.turned {t' : Nat} {it : Addr} (I : Inv X pins σ H s) (k : ∀ b o, b ≠ it → s.heap.get? b = some o → h'.get? b = some o) (hn : H it = none) (hL : it ≠ X.env.locals)
    (h1 : it ∈ X.ex ∨ X.s₀.heap.objs.size ≤ it) (h2 : ∀ x c, X.env.cells.lookup x = some c → c ≠ it) (h3 : ∀ p ∈ X.pn ++ pins, p.1 ≠ it) : Inv X pins σ H { s with heap := h', toks := t' } := by
  have nit : ∀ b u, H b = some u → b ≠ it := fun b u e z => by rw [z, hn] at e; cases e
  refine I.step (g' := s.gens) (d' := s.drawn) (ch := [it]) (fun b hb => ?_) (fun b o _ _ hc e _ => k b o (fun z => hc (by simp [z])) e) (fun b o _ _ hc e _ => ⟨o.slots, k b o (fun z => hc (by simp [z])) e⟩) (fun _ _ _ _ n => n)
    (fun b o hc e => ⟨o, k b o (fun z => hc (by simp [z])) e⟩) (fun _ _ e => e) (fun _ _ _ e => e) (fun b ps e => ⟨#[], by rw [e]; simp⟩) (fun m hm => ?_) (fun b u e => ?_) I.bare
  · have e : b = it := by simpa using hb
    subst e
    exact ⟨h1, hL, h2, h3⟩
  · obtain ⟨o, es, ep, ho, r⟩ := hm
    exact ⟨o, es, ep, k _ o (Ne.symm hL) ho, r⟩
  · refine (I.hok b u e).stay (fun c v hc q => k c v ?_ q) (fun _ q => q) fun _ _ q => q
    rcases hc with z | z
    · rw [z]; exact nit b u e
    · exact nit c _ z
theorem Inv.tok (I : Inv X pins σ H s) (t : Nat) : Inv X pins σ H { s with toks := t } := I.un (h' := s.heap) (t' := t) Un.refl I.hok
theorem Inv.kept {t' : Nat} (I : Inv X pins σ H s) (k : ∀ b u, s.heap.get? b = some u → h'.get? b = some u) : Inv X pins σ H { s with heap := h', toks := t' } := I.un (Un.kept k) (I.hok.kept k)
theorem Inv.laid {a : Addr} {o : HO} {t' : Nat} (I : Inv X pins σ H s) (k : ∀ b u, s.heap.get? b = some u → h'.get? b = some u) (hp : s.heap.objs.size ≤ a) (new : ObjOk X.prog X.w (upd H a o) h' a o) :
    Inv X pins σ (upd H a o) { s with heap := h', toks := t' } := I.un (Un.laid k hp (I.hok.fresh hp)) (I.hok.laid k hp new)
theorem Inv.write {x e : Addr} {o : HO} {t' : Nat} (I : Inv X pins σ H s) (mu : Mut (H x)) (he : e = x ∨ H e = some (.own x)) (k : ∀ b u, b ≠ e → s.heap.get? b = some u → h'.get? b = some u) (heo : ∃ u, h'.get? e = some u)
    (new : ObjOk X.prog X.w (upd H x o) h' x o) : Inv X pins σ (upd H x o) { s with heap := h', toks := t' } := I.un (Un.write mu he k heo) (I.hok.write mu he k heo new)
theorem Inv.weak {σ' : List (Option V)} (I : Inv X pins σ H s) (hl : σ'.length = σ.length) (w : ∀ (i : Nat) v, σ'[i]? = some (some v) → σ[i]? = some (some v)) : Inv X pins σ' H s :=
  ⟨I.ok, I.os, I.bare, I.base, let ⟨m, hn, hl'⟩ := I.loc; ⟨m, hn, fun i x v e1 e2 e3 => hl' i x v e1 (w i v e2) e3⟩, I.cell, I.free, I.freeC, I.pin, I.hok, hl.trans I.len⟩
theorem Inv.pins_of {pins' : List (Addr × Obj)} (I : Inv X pins σ H s) (h : ∀ p ∈ pins', s.heap.get? p.1 = some p.2 ∧ H p.1 = none ∧ p.1 ≠ X.env.locals ∧ p.1 ∉ X.fs ∧ ∀ v, p.2.data ≠ .cell v) : Inv X pins' σ H s :=
  ⟨I.ok, I.os, I.bare, I.base, I.loc, I.cell, I.free, I.freeC, fun p hp => (List.mem_append.mp hp).elim (fun z => I.pin p (List.mem_append_left _ z)) (h p), I.hok, I.len⟩

theorem nodup_ix {N : List Str} (hN : N.Nodup) {i j : Nat} {x : Str} (a : N[i]? = some x) (b : N[j]? = some x) : i = j := by
  obtain ⟨h1, e1⟩ := List.getElem?_eq_some_iff.mp a
  obtain ⟨h2, e2⟩ := List.getElem?_eq_some_iff.mp b
  exact (List.getElem_inj hN).mp (e1.trans e2.symm)

theorem store_ok2 {M : Model} {A : Around} {E : Value → Shared → Prop} {i : Nat} {x : Str} {v : V} {u : Value} {Q : Unit → Shared → Prop} (I : Inv X pins σ H s) (hN : X.N.Nodup) (hi : X.N[i]? = some x) (hx : Loc X.env.scope x) (r : RelV v u)
    (h : ∀ s', Inv X pins (σ.set i (some v)) H s' → (∃ a, Heap.SameBut a s.heap s'.heap ∧ (a = X.env.locals ∨ X.env.cells.lookup x = some a)) → Q () s') (hf : X.fn x = true ∨ X.env.scope.names.lookup x = some .local := by first | exact .inl rfl | exact .inr rfl | assumption) : wpAny M A (storeName X.env x u) Q E s := by
  obtain ⟨m, hn, hl⟩ := id I.loc
  have hcls : (X.env.scope.kind == .class || (X.env.scope.kind == .module && X.env.locals != X.env.globals)) = false := by rw [I.ok.kind]; rfl
  have hiσ : i < σ.length := by rw [I.len]; exact (List.getElem?_eq_some_iff.mp hi).1
  have cne := I.cne
  have tracked : ∀ {a : Addr} {h' : Heap}, (∃ o, s.heap.get? a = some o ∧ H a = none) → Heap.SameBut a s.heap h' → HOk X.prog X.w H h' := fun {a h'} ha hs b ob e => by
    obtain ⟨_, _, hfree⟩ := ha
    refine (I.hok b ob e).stay (fun c w' hc q => (hs.2 c ?_).trans q) (fun _ q => q) fun _ _ q => q
    rintro rfl
    rcases hc with rfl | hc
    · rw [hfree] at e; cases e
    · rw [hfree] at hc; cases hc
  rcases hx with hk | hk
  · refine wpAny_storeName_local hk hn (fun h' hn' hs => ?_) hcls
    obtain ⟨oL, _, _, hoL, _⟩ := id hn
    refine h _ ⟨I.ok, I.os, I.bare, ⟨fun b o e n hb hx => ?_, fun b o e n hb hx => ?_, I.base.free, fun b o e hx => ?_, I.base.tups, I.base.frzs, I.base.tbls⟩, ⟨_, hn', fun j y v' e1 e2 e3 => ?_⟩, fun y c e => ?_, I.free, I.freeC, fun p hp => ?_, tracked ⟨oL, hoL, I.free⟩ hs, by simpa using I.len⟩ ⟨_, hs, .inl rfl⟩
    · exact (hs.2 b (Nat.ne_of_lt (Nat.lt_of_lt_of_le (Heap.lt_size e) I.ok.above))).trans (I.base.keep b o e n hb hx)
    · obtain ⟨sl, e1⟩ := I.base.slot b o e n hb hx
      exact ⟨sl, (hs.2 b (Nat.ne_of_lt (Nat.lt_of_lt_of_le (Heap.lt_size e) I.ok.above))).trans e1⟩
    · obtain ⟨o', e1⟩ := I.base.there b o e hx
      exact ⟨o', (hs.2 b (Nat.ne_of_lt (Nat.lt_of_lt_of_le (Heap.lt_size e) I.ok.above))).trans e1⟩
    · by_cases hj : j = i
      · subst hj
        rw [hi] at e1; cases e1
        rw [List.getElem?_set_self hiσ] at e2
        cases e2
        exact ⟨u, r, .inl ⟨hk, by simp⟩⟩
      · rw [List.getElem?_set_ne (Ne.symm hj)] at e2
        obtain ⟨u', r', q⟩ := hl j y v' e1 e2 e3
        refine ⟨u', r', ?_⟩
        rcases q with ⟨k, e⟩ | ⟨k, c, e, z⟩
        · refine .inl ⟨k, ?_⟩
          have : y ≠ x := fun e => hj (nodup_ix hN e1 (e ▸ hi))
          simp [this, e]
        · exact .inr ⟨k, c, e, z.sameBut hs (cne y c e)⟩
    · obtain ⟨w', z⟩ := I.cell y c e
      exact ⟨w', z.sameBut hs (cne y c e)⟩
    · obtain ⟨e, n, ne, nf, d⟩ := I.pin p hp
      exact ⟨(hs.2 p.1 ne).trans e, n, ne, nf, d⟩
  · have hfn : X.fn x = true := by
      rcases hf with z | z
      · exact z
      · rw [z] at hk; cases hk
    obtain ⟨c, hc⟩ := I.ok.has x (.inl hk)
    obtain ⟨w', z⟩ := I.cell x c hc
    refine wpAny_storeName_cell I.ok.kind hk hc z (fun h' hc' hs => ?_)
    obtain ⟨oc, hoc, hocd⟩ := id z
    refine h { s with heap := h' } ⟨I.ok, I.os, I.bare, ⟨fun b o e n hb hx => ?_, fun b o e n hb hx => ?_, I.base.free, fun b o e hx => ?_, I.base.tups, I.base.frzs, I.base.tbls⟩, ⟨m, hn.sameBut hs (Ne.symm (cne x c hc)), fun j y v' e1 e2 e3 => ?_⟩, fun y c' e => ?_, I.free, I.freeC, fun p hp => ?_, tracked ⟨oc, hoc, I.freeC x c hc⟩ hs, by simpa using I.len⟩ ⟨c, hs, .inr hc⟩
    · exact (hs.2 b (Nat.ne_of_lt (Nat.lt_of_lt_of_le (Heap.lt_size e) (I.ok.cab x c hfn hc)))).trans (I.base.keep b o e n hb hx)
    · obtain ⟨sl, e1⟩ := I.base.slot b o e n hb hx
      exact ⟨sl, (hs.2 b (Nat.ne_of_lt (Nat.lt_of_lt_of_le (Heap.lt_size e) (I.ok.cab x c hfn hc)))).trans e1⟩
    · obtain ⟨o', e1⟩ := I.base.there b o e hx
      exact ⟨o', (hs.2 b (Nat.ne_of_lt (Nat.lt_of_lt_of_le (Heap.lt_size e) (I.ok.cab x c hfn hc)))).trans e1⟩
    · by_cases hj : j = i
      · subst hj
        rw [hi] at e1; cases e1
        rw [List.getElem?_set_self hiσ] at e2
        cases e2
        exact ⟨u, r, .inr ⟨.inl hk, c, hc, hc'⟩⟩
      · rw [List.getElem?_set_ne (Ne.symm hj)] at e2
        obtain ⟨u', r', q⟩ := hl j y v' e1 e2 e3
        refine ⟨u', r', ?_⟩
        rcases q with q | ⟨k, c', e, z'⟩
        · exact .inl q
        · refine .inr ⟨k, c', e, z'.sameBut hs ?_⟩
          rintro rfl
          exact hj (nodup_ix hN e1 (I.ok.inj _ _ _ e hc ▸ hi))
    · by_cases hcc : c' = c
      · subst hcc; exact ⟨_, hc'⟩
      · obtain ⟨w2, z2⟩ := I.cell y c' e
        exact ⟨w2, z2.sameBut hs hcc⟩
    · obtain ⟨e, n, ne, nf, d⟩ := I.pin p hp
      refine ⟨(hs.2 p.1 ?_).trans e, n, ne, nf, d⟩
      intro q
      rw [q, hoc] at e
      have q' : oc = p.2 := Option.some.inj e
      exact d w' (by rw [← q']; exact hocd)
theorem store_ok {M : Model} {A : Around} {E : Value → Shared → Prop} {i : Nat} {x : Str} {v : V} {u : Value} {Q : Unit → Shared → Prop} (I : Inv X pins σ H s) (hN : X.N.Nodup) (hi : X.N[i]? = some x) (hx : Loc X.env.scope x) (r : RelV v u)
    (h : ∀ s', Inv X pins (σ.set i (some v)) H s' → Q () s') (hf : X.fn x = true ∨ X.env.scope.names.lookup x = some .local := by first | exact .inl rfl | exact .inr rfl | assumption) : wpAny M A (storeName X.env x u) Q E s :=
  store_ok2 I hN hi hx r (fun s' I' _ => h s' I') hf
theorem Inv.call' {s' : Shared} {ch : List Addr} (I : Inv X pins σ H s) (ho : s'.os = s.os) (u : Un (frs X.stack) ch H H' s.heap s'.heap) (hok : HOk X.prog X.w H' s'.heap) (hg : AllBare s'.gens)
    (hch : ∀ b ∈ ch, (b ∈ X.ex ∨ X.s₀.heap.objs.size ≤ b) ∧ b ≠ X.env.locals ∧ (∀ x c, X.env.cells.lookup x = some c → c ≠ b) ∧ ∀ p ∈ X.pn ++ pins, p.1 ≠ b) : Inv X pins σ H' s' := by
  obtain ⟨h', g', d', t', o'⟩ := s'
  have e : o' = s.os := ho
  subst e
  exact I.call (g' := g') (t' := t') (d' := d') u hok hg hch
end

noncomputable abbrev XK := Value → Option Addr → Hp → Prop
noncomputable abbrev St := List (Option V)
noncomputable abbrev VK := V → Hp → Prop
noncomputable abbrev TE := St → Hp → VK → Prop
noncomputable abbrev TT := St → Hp → (Bool → Hp → Prop) → Prop
noncomputable abbrev TA := St → Hp → (List V → Hp → Prop) → Prop
structure Ends where
  nx : St → Hp → Prop
  rt : VK
  bk : St → Hp → Prop := fun _ _ => False
  ct : St → Hp → Prop := fun _ _ => False
noncomputable abbrev TS := Ends → St → Hp → Prop

noncomputable def EP (X : Cx) (pins : List (Addr × Obj)) (σ : St) (Q : VK) (u : Value) (s' : Shared) : Prop := ∃ v H', Inv X pins σ H' s' ∧ RelV v u ∧ Q v H'
noncomputable def TP (X : Cx) (pins : List (Addr × Obj)) (σ : St) (Q : Bool → Hp → Prop) (b : Bool) (s' : Shared) : Prop := ∃ H', Inv X pins σ H' s' ∧ Q b H'
noncomputable def AP (X : Cx) (pins : List (Addr × Obj)) (σ : St) (Q : List V → Hp → Prop) (us : List Value) (s' : Shared) : Prop := ∃ vs H', Inv X pins σ H' s' ∧ Vals vs us ∧ Q vs H'
noncomputable def SP (X : Cx) (pins : List (Addr × Obj)) (D : Ends) (f : Flow) (s' : Shared) : Prop :=
  match f with
  | .next => ∃ σ' H', Inv X pins σ' H' s' ∧ D.nx σ' H'
  | .brk => ∃ σ' H', Inv X pins σ' H' s' ∧ D.bk σ' H'
  | .cont => ∃ σ' H', Inv X pins σ' H' s' ∧ D.ct σ' H'
  | .ret u => ∃ v σ' H', Inv X pins σ' H' s' ∧ RelV v u ∧ D.rt v H'

noncomputable def PE (X : Cx) (e : Expr) (t : TE) : Prop :=
  ∀ (pins : List (Addr × Obj)) (s : Shared) (σ : St) (H : Hp) (Q : VK), Inv X pins σ H s → t σ H Q → wpAny (model X.prog X.w) X.A (eval e X.env) (EP X pins σ Q) X.xe s
noncomputable def PT (X : Cx) (e : Expr) (t : TT) : Prop :=
  ∀ (pins : List (Addr × Obj)) (s : Shared) (σ : St) (H : Hp) (Q : Bool → Hp → Prop), Inv X pins σ H s → t σ H Q → wpAny (model X.prog X.w) X.A (isTrue e X.env (eval e X.env)) (TP X pins σ Q) X.xe s
noncomputable def PW (X : Cx) (e : Expr) (t : TT) : Prop :=
  ∀ (whole : Sem Value) (pins : List (Addr × Obj)) (s : Shared) (σ : St) (H : Hp) (Q : Bool → Hp → Prop), Inv X pins σ H s → t σ H Q → wpAny (model X.prog X.w) X.A (isTrue e X.env whole) (TP X pins σ Q) X.xe s
theorem PW.pt {X : Cx} {e : Expr} {t : TT} (h : PW X e t) : PT X e t := h _
noncomputable def PA (X : Cx) (es : List Expr) (t : TA) : Prop :=
  ∀ (pos : Pos) (pins : List (Addr × Obj)) (s : Shared) (σ : St) (H : Hp) (Q : List V → Hp → Prop), Inv X pins σ H s → t σ H Q → wpAny (model X.prog X.w) X.A (spliced (backTo pos (starEach es X.env))) (AP X pins σ Q) X.xe s
noncomputable def PS (X : Cx) (st : Stmt) (t : TS) : Prop :=
  ∀ (pins : List (Addr × Obj)) (s : Shared) (σ : St) (H : Hp) (D : Ends), Inv X pins σ H s → t D σ H → wpAny (model X.prog X.w) X.A (exec st X.env) (SP X pins D) X.xe s
noncomputable def PSs (X : Cx) (st : List Stmt) (t : TS) : Prop :=
  ∀ (pins : List (Addr × Obj)) (s : Shared) (σ : St) (H : Hp) (D : Ends), Inv X pins σ H s → t D σ H → wpAny (model X.prog X.w) X.A (execs st X.env) (SP X pins D) X.xe s
theorem thn {α : Type} {t : Sem α} {Q Q' : α → Shared → Prop} {M : Model} {A : Around} {E : Value → Shared → Prop} {s : Shared} (h : wpAny M A t Q E s) (hQ : ∀ a s, Q a s → Q' a s) : wpAny M A t Q' E s := wpAny_mono h hQ fun _ _ x => x
end L2

namespace L2
open PySem PySem.Spec PyProof.Rows
section
variable {X : Cx}

noncomputable def tVar (i : Nat) : TE := fun σ H Q => ∃ v, σ[i]? = some (some v) ∧ Q v H
noncomputable def tC (v : V) : TE := fun _ H Q => Q v H
theorem pe_var {i : Nat} {x : Str} {pos : Pos} (hN : X.N[i]? = some x) (hv : Vis X.env.scope x) (hd : (x == ("__debug__" : Str)) = false := by decide) (hcd : (x == ("__classdict__" : Str)) = false := by decide) : PE X (.Name x pos) (tVar i) := by
  intro pins s σ H Q I h
  obtain ⟨v, e, h⟩ := h
  obtain ⟨m, hn, hl⟩ := I.loc
  obtain ⟨u, r, l⟩ := hl i x v hN e hv
  have fin : EP X pins σ Q u s := ⟨v, H, I, r, h⟩
  rcases l with ⟨hk, hm⟩ | ⟨hk, c, hc, hcell⟩
  · exact wpAny_Name (wpAny_loadName_local I.ok.kind hk hn hm fin) hd
  · rcases hk with hk | hk
    · exact wpAny_Name (wpAny_loadName_cell I.ok.kind hk hc hcell fin) hd
    · exact wpAny_Name (wpAny_loadName_free I.ok.kind hk hc hcell fin hcd) hd
theorem pe_int {i j pos} : PE X (.Constant (.int i) j pos) (tC (.int i)) := fun _ _ _ H _ I h => wpAny_Constant_int ⟨.int i, H, I.tok _, ⟨_, rfl⟩, h⟩
theorem pe_bl {b j pos} : PE X (.Constant (.bool b) j pos) (tC (.bl b)) := fun _ _ _ H _ I h => Constant_bool ⟨.bl b, H, I, rfl, h⟩
theorem pe_non {j pos} : PE X (.Constant .none j pos) (tC .non) := fun _ _ _ H _ I h => Constant_none ⟨.non, H, I, rfl, h⟩
theorem pe_str {x j pos} : PE X (.Constant (.str x) j pos) (tC (.str x)) := fun _ _ _ H _ I h => Calls.Constant_str ⟨.str x, H, I.tok _, ⟨_, rfl⟩, h⟩

noncomputable def Gl (X : Cx) (x : Str) : Prop := X.env.kindOf x = some .globalImplicit
theorem ld_glob {E : Value → Shared → Prop} {pins : List (Addr × Obj)} {s : Shared} {σ : St} {H : Hp} {x : Str} {u : Value} {pos : Pos} {Q : Value → Shared → Prop} (I : Inv X pins σ H s) (hg : Gl X x) (hm : X.mg x = some u) (h : Q u s)
    (hd : (x == ("__debug__" : Str)) = false := by decide) : wpAny (model X.prog X.w) X.A (eval (.Name x pos) X.env) Q E s :=
  Calls.Name_function_global I.ok.kind hg (Calls.loadGlobal_global (by rw [I.ok.glob]; exact I.mod.glob.keeps I.bk) hm h) hd
theorem ld_blt {E : Value → Shared → Prop} {pins : List (Addr × Obj)} {s : Shared} {σ : St} {H : Hp} {x : Str} {u : Value} {pos : Pos} {Q : Value → Shared → Prop} (I : Inv X pins σ H s) (hg : Gl X x) (hm : X.mg x = none) (hv : bootBuiltins x = some u) (h : Q u s)
    (hn : x ≠ "__name__" := by decide) (hd : (x == ("__debug__" : Str)) = false := by decide) : wpAny (model X.prog X.w) X.A (eval (.Name x pos) X.env) Q E s := by
  obtain ⟨mb, h1, h2⟩ := I.mod.blt
  exact Calls.Name_function_global I.ok.kind hg (Calls.loadGlobal_builtin (by rw [I.ok.glob]; exact I.mod.glob.keeps I.bk) hm (by rw [I.ok.blt]; exact h1.keeps I.bk) ((h2 x hn).trans hv) h) hd
theorem pe_glob {x : Str} {v : V} {u : Value} {pos : Pos} (hg : Gl X x) (hm : X.mg x = some u) (r : RelV v u) (hd : (x == ("__debug__" : Str)) = false := by decide) : PE X (.Name x pos) (tC v) :=
  fun _ _ _ H _ I h => ld_glob I hg hm ⟨v, H, I, r, h⟩ hd
theorem pe_bltn {x : Str} {v : V} {u : Value} {pos : Pos} (hg : Gl X x) (hm : X.mg x = none) (hv : bootBuiltins x = some u) (r : RelV v u) (hn : x ≠ "__name__" := by decide) (hd : (x == ("__debug__" : Str)) = false := by decide) : PE X (.Name x pos) (tC v) :=
  fun _ _ _ H _ I h => ld_blt I hg hm hv ⟨v, H, I, r, h⟩ hn hd

variable {a b : Expr} {ta tb : TE} {pos : Pos}
variable {tA tB' : TT} {rest : List Expr}
noncomputable def tAnd (t u : TT) : TT := fun σ H Q => t σ H fun c H1 => if c = true then u σ H1 Q else Q false H1
noncomputable def tOr (t u : TT) : TT := fun σ H Q => t σ H fun c H1 => if c = true then Q true H1 else u σ H1 Q
noncomputable def tNot (t : TT) : TT := fun σ H Q => t σ H fun c H1 => Q (!c) H1
theorem pw_and1 (ha : PT X a tA) : PW X (.BoolOp .And [a] pos) tA := by
  intro wh pins s σ H Q I h
  refine isTrue_and (thn (ha pins s σ H Q I h) fun c s1 e => ?_)
  cases c with
  | true => exact isTrue_and_nil e
  | false => exact e
theorem pw_or1 (ha : PT X a tA) : PW X (.BoolOp .Or [a] pos) tA := by
  intro wh pins s σ H Q I h
  refine isTrue_or (thn (ha pins s σ H Q I h) fun c s1 e => ?_)
  cases c with
  | false => exact isTrue_or_nil e
  | true => exact e
theorem pw_and (ha : PT X a tA) (hb : PW X (.BoolOp .And (b :: rest) pos) tB') : PW X (.BoolOp .And (a :: b :: rest) pos) (tAnd tA tB') := by
  intro wh pins s σ H Q I h
  refine isTrue_and (thn (ha pins s σ H _ I h) fun c s1 ⟨H1, I1, q1⟩ => ?_)
  cases c with
  | true => exact hb wh pins s1 σ H1 Q I1 q1
  | false => exact ⟨H1, I1, q1⟩
theorem pw_or (ha : PT X a tA) (hb : PW X (.BoolOp .Or (b :: rest) pos) tB') : PW X (.BoolOp .Or (a :: b :: rest) pos) (tOr tA tB') := by
  intro wh pins s σ H Q I h
  refine isTrue_or (thn (ha pins s σ H _ I h) fun c s1 ⟨H1, I1, q1⟩ => ?_)
  cases c with
  | true => exact ⟨H1, I1, q1⟩
  | false => exact hb wh pins s1 σ H1 Q I1 q1
theorem pt_not (ha : PT X a tA) : PT X (.UnaryOp .Not a pos) (tNot tA) := by
  intro pins s σ H Q I h
  exact isTrue_not (ha pins s σ H (fun c H1 => Q (!c) H1) I h)
noncomputable def tAndV (ta tb : TE) : TE := fun σ H Q => ta σ H fun x H1 => ∃ c, x = .bl c ∧ if c = true then tb σ H1 Q else Q (.bl false) H1
noncomputable def tNotV (ta : TE) : TE := fun σ H Q => ta σ H fun x H1 => ∃ c, x = .bl c ∧ Q (.bl (!c)) H1
theorem pe_one {op} {t : TE} (h : PE X a t) : PE X (.BoolOp op [a] pos) t := fun pins s σ H Q I hw => BoolOp_one (h pins s σ H Q I hw)
theorem pe_and (ha : PE X a ta) (hb : PE X (.BoolOp .And (b :: rest) pos) tb) : PE X (.BoolOp .And (a :: b :: rest) pos) (tAndV ta tb) := by
  intro pins s σ H Q I h
  refine BoolOp_and (thn (ha pins s σ H _ I h) fun v s1 ⟨x, H1, I1, r1, q1⟩ => ?_)
  obtain ⟨c, rfl, q1⟩ := q1
  cases r1
  refine wpAny_truthy_bool ?_
  cases c with
  | true => exact hb pins s1 σ H1 Q I1 q1
  | false => exact ⟨.bl false, H1, I1, rfl, q1⟩
theorem pe_not (ha : PE X a ta) : PE X (.UnaryOp .Not a pos) (tNotV ta) := by
  intro pins s σ H Q I h
  refine UnaryOp_ (thn (ha pins s σ H _ I h) fun v s1 ⟨x, H1, I1, r1, q1⟩ => ?_)
  obtain ⟨c, rfl, q1⟩ := q1
  cases r1
  exact not_of (wpAny_truthy_bool ⟨.bl (!c), H1, I1, rfl, q1⟩)
noncomputable def tIf (t : TT) (ta tb : TE) : TE := fun σ H Q => t σ H fun c H1 => if c = true then ta σ H1 Q else tb σ H1 Q
theorem pe_ifExp {c : Expr} (hc : PT X c tA) (ha : PE X a ta) (hb : PE X b tb) : PE X (.IfExp c a b pos) (tIf tA ta tb) := by
  intro pins s σ H Q I h
  refine wpAny_IfExp (thn (hc pins s σ H _ I h) fun d s1 ⟨H1, I1, q1⟩ => ?_)
  cases d with
  | true => exact ha pins s1 σ H1 Q I1 q1
  | false => exact hb pins s1 σ H1 Q I1 q1
end
end L2

namespace L2
open PySem PySem.Spec PyProof.Rows

noncomputable def SqL (K : PySem.W.Frag) (H : Hp) (a : Addr) (xs : List V) : Prop :=
  Rd H a (.lst xs) ∨
    ∃ (o : Obj) (its : Array Value) (n : Nat), K.lookup a = some o ∧ o.cls = .type "list" ∧ o.dict = none ∧ o.data = .seq its n ∧ its.size ≤ sizeLine ∧ Vals xs its.toList
noncomputable def SqT (K : PySem.W.Frag) (H : Hp) (a : Addr) (xs : List V) : Prop :=
  Rd H a (.tup xs) ∨
    ∃ (o : Obj) (its : Array Value) (n : Nat), K.lookup a = some o ∧ o.cls = .type "tuple" ∧ o.data = .seq its n ∧ its.size ≤ sizeLine ∧ Vals xs its.toList
noncomputable def absV : Value → Option V
  | .none => some .non
  | .bool b => some (.bl b)
  | .int i _ => some (.int i)
  | .str x _ => some (.str x)
  | .bytes b _ => some (.byt b)
  | .float b _ => some (.flt b)
  | .ref a => some (.ref a)
  | .type n => some (.ty n)
  | _ => none
theorem RelV.abs {x : V} {u : Value} (r : RelV x u) : absV u = some x := by
  cases x with
  | non => cases r; rfl
  | bl _ => cases r; rfl
  | int _ => obtain ⟨t, rfl⟩ := r; rfl
  | str _ => obtain ⟨t, rfl⟩ := r; rfl
  | byt _ => obtain ⟨t, rfl⟩ := r; rfl
  | flt _ => obtain ⟨t, rfl⟩ := r; rfl
  | ref _ => cases r; rfl
  | ty _ => cases r; rfl
theorem RelV.inj {x y : V} {u : Value} (r : RelV x u) (q : RelV y u) : x = y := Option.some.inj (r.abs.symm.trans q.abs)
theorem Vals.inj : ∀ {xs ys : List V} {us : List Value}, Vals xs us → Vals ys us → xs = ys
  | _, _, _, .nil, .nil => rfl
  | _, _, _, .cons r t, .cons r' t' => by rw [r.inj r', Vals.inj t t']
section
variable {X : Cx} {pins : List (Addr × Obj)} {σ : St} {H : Hp} {s : Shared} {a : Addr} {xs ys : List V}
theorem SqL.of {K : PySem.W.Frag} (h : H a = some (.lst xs)) : SqL K H a xs := .inl (.inl h)
theorem SqT.of {K : PySem.W.Frag} (h : H a = some (.tup xs)) : SqT K H a xs := .inl (.inl h)
theorem Inv.list (I : Inv X pins σ H s) (h : SqL X.K H a xs) : ∃ its : List Value, Vals xs its ∧ PlainL s.heap a its.toArray ∧ xs.length ≤ sizeLine := by
  rcases h with h | ⟨o, its, n, hk, hc, hd, hs, hz, r⟩
  · obtain ⟨z, its, n, r, e⟩ := h.ok I.hok
    exact ⟨its, r, ⟨_, n, e, rfl, rfl, rfl⟩, z⟩
  · refine ⟨its.toList, r, ⟨o, n, I.kIn a o hk, hc, hd, by simpa using hs⟩, ?_⟩
    have e := r.length
    simp only [Array.length_toList] at e
    omega
theorem Inv.tuple (I : Inv X pins σ H s) (h : SqT X.K H a xs) : ∃ its : List Value, Vals xs its ∧ IsTup s.heap a its.toArray ∧ xs.length ≤ sizeLine := by
  rcases h with h | ⟨o, its, n, hk, hc, hs, hz, r⟩
  · obtain ⟨z, its, r, p⟩ := h.ok I.hok
    exact ⟨its, r, p, z⟩
  · refine ⟨its.toList, r, ⟨o, I.kIn a o hk, hc, n, by simpa using hs⟩, ?_⟩
    have e := r.length
    simp only [Array.length_toList] at e
    omega
theorem Inv.list_inj (I : Inv X pins σ H s) (h : SqL X.K H a xs) (h' : SqL X.K H a ys) : xs = ys := by
  obtain ⟨its, r, ⟨o, n, e, _, _, d⟩, _⟩ := I.list h
  obtain ⟨its', r', ⟨o', n', e', _, _, d'⟩, _⟩ := I.list h'
  rw [e] at e'; cases e'
  rw [d] at d'
  injection d' with d1 _
  have : its = its' := by simpa using congrArg Array.toList d1
  subst this
  exact r.inj r'
theorem Inv.tuple_inj (I : Inv X pins σ H s) (h : SqT X.K H a xs) (h' : SqT X.K H a ys) : xs = ys := by
  obtain ⟨its, r, ⟨o, e, _, n, d⟩, _⟩ := I.tuple h
  obtain ⟨its', r', ⟨o', e', _, n', d'⟩, _⟩ := I.tuple h'
  rw [e] at e'; cases e'
  rw [d] at d'
  injection d' with d1 _
  have : its = its' := by simpa using congrArg Array.toList d1
  subst this
  exact r.inj r'
end

noncomputable abbrev Cx.wish (X : Cx) (E : Value → Shared → Prop) : Cx := { X with xe := E }
noncomputable abbrev Cx.nox (X : Cx) : Cx := X.wish fun _ _ => False
theorem Cx.Ok.wish {X : Cx} (ok : X.Ok) (E : Value → Shared → Prop) : (X.wish E).Ok :=
  ⟨ok.mod, ok.kind, ok.glob, ok.blt, ok.above, ok.inj, ok.has, ok.cab, ok.hd, ok.frames, ok.stk, ok.exf, ok.bs, ok.bsz, ok.noex, ok.exfs, ok.funs, ok.frf⟩
theorem Cx.Ok.unwish {X : Cx} {E : Value → Shared → Prop} (ok : (X.wish E).Ok) : X.Ok :=
  ⟨ok.mod, ok.kind, ok.glob, ok.blt, ok.above, ok.inj, ok.has, ok.cab, ok.hd, ok.frames, ok.stk, ok.exf, ok.bs, ok.bsz, ok.noex, ok.exfs, ok.funs, ok.frf⟩
section
variable {X : Cx} {pins : List (Addr × Obj)} {σ : St} {H : Hp} {s : Shared} {E : Value → Shared → Prop}
theorem Inv.wish (I : Inv X pins σ H s) (E : Value → Shared → Prop) : Inv (X.wish E) pins σ H s := ⟨I.ok.wish E, I.os, I.bare, I.base, I.loc, I.cell, I.free, I.freeC, I.pin, I.hok, I.len⟩
theorem Inv.unwish (I : Inv (X.wish E) pins σ H s) : Inv X pins σ H s := ⟨I.ok.unwish, I.os, I.bare, I.base, I.loc, I.cell, I.free, I.freeC, I.pin, I.hok, I.len⟩
theorem SP.unwish {D : Ends} {f : Flow} {s' : Shared} (h : SP (X.wish E) pins D f s') : SP X pins D f s' := by
  cases f with
  | next => obtain ⟨σ', H', I, q⟩ := h; exact ⟨σ', H', I.unwish, q⟩
  | brk => obtain ⟨σ', H', I, q⟩ := h; exact ⟨σ', H', I.unwish, q⟩
  | cont => obtain ⟨σ', H', I, q⟩ := h; exact ⟨σ', H', I.unwish, q⟩
  | ret u => obtain ⟨v, σ', H', I, r, q⟩ := h; exact ⟨v, σ', H', I.unwish, r, q⟩
theorem PE.nox {e : Expr} {t : TE} (h : PE X.nox e t) : PE X e t := fun pins s σ H Q I hw =>
  wpAny_mono (h pins s σ H Q (I.wish _) hw) (fun _ _ ⟨v, H', I', r, q⟩ => ⟨v, H', I'.unwish, r, q⟩) fun _ _ z => False.elim z
theorem PT.nox {e : Expr} {t : TT} (h : PT X.nox e t) : PT X e t := fun pins s σ H Q I hw =>
  wpAny_mono (h pins s σ H Q (I.wish _) hw) (fun _ _ ⟨H', I', q⟩ => ⟨H', I'.unwish, q⟩) fun _ _ z => False.elim z
theorem PSs.nox {st : List Stmt} {t : TS} (h : PSs X.nox st t) : PSs X st t := fun pins s σ H D I hw =>
  wpAny_mono (h pins s σ H D (I.wish _) hw) (fun _ _ q => q.unwish) fun _ _ z => False.elim z
end

section
variable {X : Cx} {st : Stmt} {rest : List Stmt} {t u : TS} {e : Expr} {te : TE} {pos : Pos}
noncomputable def tNext : TS := fun D σ H => D.nx σ H
noncomputable def tSeq (t u : TS) : TS := fun D σ H => t { D with nx := u D } σ H
theorem pss_nil : PSs X [] tNext := fun _ _ σ H _ I h => wpAny_execs_nil ⟨σ, H, I, h⟩
theorem pss_cons (h1 : PS X st t) (h2 : PSs X rest u) : PSs X (st :: rest) (tSeq t u) := by
  intro pins s σ H D I h
  refine wpAny_execs_cons (thn (h1 pins s σ H { D with nx := u D } I h) fun f s1 q => ?_)
  cases f with
  | next =>
    obtain ⟨σ', H', I', q⟩ := q
    exact h2 pins s1 σ' H' D I' q
  | ret v => exact q
  | brk => exact q
  | cont => exact q
theorem pss_one (h1 : PS X st t) : PSs X [st] t := by
  intro pins s σ H D I h
  refine wpAny_execs_cons (thn (h1 pins s σ H D I h) fun f s1 q => ?_)
  cases f with
  | next => exact wpAny_execs_nil q
  | ret v => exact q
  | brk => exact q
  | cont => exact q
theorem Inv.quiet {pins : List (Addr × Obj)} {σ : St} {H : Hp} {s : Shared} (I : Inv X pins σ H s) : interactive X.env = false := by simp [interactive, I.ok.kind]
noncomputable def tDrop (te : TE) : TS := fun D σ H => te σ H fun _ H1 => D.nx σ H1
theorem ps_expr (he : PE X e te) (hs : swapsWith e none pos.line X.env = pure false := by rfl) : PS X (.Expr e pos) (tDrop te) := by
  intro pins s σ H D I h
  exact wpAny_Expr_any (thn (he pins s σ H _ I h) fun v s1 ⟨x, H1, I1, r1, q1⟩ => ⟨σ, H1, I1, q1⟩) I.quiet hs
noncomputable def tRet (te : TE) : TS := fun D σ H => te σ H D.rt
theorem ps_ret (he : PE X e te) : PS X (.Return (some e) pos) (tRet te) := by
  intro pins s σ H D I h
  exact wpAny_Return_some (thn (he pins s σ H _ I h) fun v s1 ⟨x, H1, I1, r1, q1⟩ => ⟨x, σ, H1, I1, r1, q1⟩)
noncomputable def tIfS (c : TT) (t u : TS) : TS := fun D σ H => c σ H fun b H1 => if b = true then t D σ H1 else u D σ H1
theorem ps_if {c : Expr} {a b : List Stmt} {tc : TT} (hc : PT X c tc) (ha : PSs X a t) (hb : PSs X b u) : PS X (.If c a b pos) (tIfS tc t u) := by
  intro pins s σ H D I h
  refine wpAny_If (thn (hc pins s σ H _ I h) fun d s1 ⟨H1, I1, q1⟩ => ?_)
  cases d with
  | true => exact ha pins s1 σ H1 D I1 q1
  | false => exact hb pins s1 σ H1 D I1 q1
end

noncomputable abbrev TG := V → St → Hp → (St → Hp → Prop) → Prop
noncomputable abbrev TGs := List V → St → Hp → (St → Hp → Prop) → Prop
noncomputable def PG (X : Cx) (target : Expr) (t : TG) : Prop :=
  ∀ (pins : List (Addr × Obj)) (s : Shared) (σ : St) (H : Hp) (v : V) (u : Value) (Q : St → Hp → Prop), Inv X pins σ H s → RelV v u → t v σ H Q →
    wpAny (model X.prog X.w) X.A (assign target X.env u) (fun _ s' => ∃ σ' H', Inv X pins σ' H' s' ∧ Q σ' H') X.xe s
noncomputable def PGs (X : Cx) (ts : List Expr) (t : TGs) : Prop :=
  ∀ (pins : List (Addr × Obj)) (s : Shared) (σ : St) (H : Hp) (vs : List V) (us : List Value) (Q : St → Hp → Prop), Inv X pins σ H s → Vals vs us → t vs σ H Q →
    wpAny (model X.prog X.w) X.A (assignInOrder ((assignEach ts X.env).map (·.2)) us) (fun _ s' => ∃ σ' H', Inv X pins σ' H' s' ∧ Q σ' H') X.xe s
noncomputable abbrev TSet := V → V → V → Hp → (Hp → Prop) → Prop
noncomputable def PSet (X : Cx) (t : TSet) : Prop :=
  ∀ (pins : List (Addr × Obj)) (s : Shared) (σ : St) (H : Hp) (o i v : V) (ov iv u : Value) (Q : Hp → Prop), Inv X pins σ H s → RelV o ov → RelV i iv → RelV v u → t o i v H Q →
    wpAny (model X.prog X.w) X.A (setItem ov iv u) (fun _ s' => ∃ H', Inv X pins σ H' s' ∧ Q H') X.xe s
section
variable {X : Cx} {pos : Pos}
noncomputable def gName (i : Nat) : TG := fun v σ H Q => Q (σ.set i (some v)) H
theorem pg_name {i : Nat} {x : Str} (hN : X.N.Nodup) (hi : X.N[i]? = some x) (hx : Loc X.env.scope x) (hf : X.fn x = true ∨ X.env.scope.names.lookup x = some .local := by first | exact .inl rfl | exact .inr rfl | assumption) : PG X (.Name x pos) (gName i) := by
  intro pins s σ H v u Q I r h
  exact wpAny_assign_Name (store_ok I hN hi hx r (fun s' I' => ⟨_, H, I', h⟩) hf)
noncomputable def gNil : TGs := fun vs σ H Q => vs = [] ∧ Q σ H
noncomputable def gCons (t : TG) (u : TGs) : TGs := fun vs σ H Q => ∃ v r, vs = v :: r ∧ t v σ H fun σ' H' => u r σ' H' Q
theorem pgs_nil : PGs X [] gNil := by
  intro pins s σ H vs us Q I r h
  obtain ⟨e, h⟩ := h
  subst e
  cases r
  exact assignInOrder_nil ⟨σ, H, I, h⟩
theorem pgs_cons {e : Expr} {es : List Expr} {t : TG} {u : TGs} (h1 : PG X e t) (h2 : PGs X es u)
    (hs : (assignEach (e :: es) X.env).map (·.2) = assign e X.env :: (assignEach es X.env).map (·.2) := by rfl) : PGs X (e :: es) (gCons t u) := by
  intro pins s σ H vs us Q I r h
  obtain ⟨v, vr, e1, h⟩ := h
  subst e1
  cases r with
  | cons r rr =>
    rw [hs]
    refine assignInOrder_cons (thn (h1 pins s σ H _ _ _ I r h) fun _ s1 ⟨σ1, H1, I1, q1⟩ => ?_)
    exact h2 pins s1 σ1 H1 _ _ Q I1 rr q1
noncomputable def gTup (K : PySem.W.Frag) (n : Nat) (t : TGs) : TG := fun v σ H Q => ∃ a xs, v = .ref a ∧ SqT K H a xs ∧ xs.length = n ∧ t xs σ H Q
theorem pg_tup {es : List Expr} {k : Nat} {t : TGs} {n : Nat} (hc : X.calm = true) (h : PGs X es t)
    (hn : (assignEach es X.env).length = n := by rfl) (hst : (assignEach es X.env).findIdx? (·.1) = none := by rfl) : PG X (.Tuple es k pos) (gTup X.K n t) := by
  intro pins s σ H v u Q I r hw
  obtain ⟨a, xs, e1, hq, hl, hw⟩ := hw
  subst e1
  cases r
  obtain ⟨its, rv, ht, hz⟩ := I.tuple hq
  refine assign_Tuple_tuple (I.ok.hd hc) ht (by simp [hn, ← hl, rv.length]) hst fun h' hx => ?_
  have I1 : Inv X pins σ H { s with heap := h' } := I.kept (t' := s.toks) fun b o e => hx b o (Nat.ne_of_lt (Heap.lt_size e)) e
  exact h pins _ σ H xs _ Q I1 (by simpa using rv) hw
noncomputable def gSub (to ti : TE) (t : TSet) : TG := fun v σ H Q => to σ H fun o H1 => ti σ H1 fun i H2 => t o i v H2 fun H3 => Q σ H3
theorem pg_sub {o i : Expr} {to ti : TE} {t : TSet} (ho : PE X o to) (hi : PE X i ti) (hs : PSet X t)
    (ha : ∀ v, assign (.Subscript o i pos) X.env v = (do
      let ov ← holding [v] (eval o X.env)
      let iv ← holding [v, ov] (eval i X.env)
      standAt pos
      holding [v, ov, iv] (setItem ov iv v)
      release [v, ov, iv] []) := by intro _; rfl) : PG X (.Subscript o i pos) (gSub to ti t) := by
  intro pins s σ H v u Q I r h
  rw [ha]
  refine wpAny_bind (wpAny_holding (thn (ho pins s σ H _ I h) fun ov s1 ⟨x, H1, I1, r1, q1⟩ => ?_))
  refine wpAny_bind (wpAny_holding (thn (hi pins s1 σ H1 _ I1 q1) fun iv s2 ⟨y, H2, I2, r2, q2⟩ => ?_))
  refine wpAny_bind (wpAny_standAt (wpAny_bind (wpAny_holding (thn (hs pins s2 σ H2 x y v ov iv u _ I2 r1 r2 r q2) fun _ s3 ⟨H3, I3, q3⟩ => ?_))))
  exact wpAny_release ⟨σ, H3, I3, q3⟩
noncomputable def tAsg (te : TE) (g : TG) : TS := fun D σ H => te σ H fun x H1 => g x σ H1 D.nx
theorem ps_asg {tg e : Expr} {te : TE} {g : TG} (he : PE X e te) (hg : PG X tg g) (hs : swapsWithSole [tg] e pos.line X.env = pure false := by rfl) (hw : swappedStores [tg] e X.env = pure none := by rfl)
    (h1 : (assignEach [tg] X.env).map (·.2) = [assign tg X.env] := by rfl) : PS X (.Assign [tg] e pos) (tAsg te g) := by
  intro pins s σ H D I h
  refine wpAny_Assign_stores (thn (he pins s σ H _ I h) fun v s1 ⟨x, H1, I1, r1, q1⟩ => ?_) hs hw
  rw [h1]
  exact thn (hg pins s1 σ H1 x v _ I1 r1 q1) fun _ s2 q => q
theorem ps_set {i : Nat} {x : Str} {e : Expr} {te : TE} {pos' : Pos} (hN : X.N.Nodup) (hi : X.N[i]? = some x) (hx : Loc X.env.scope x) (he : PE X e te) (hs : swapsWith e (some (.Name x pos')) pos.line X.env = pure false := by rfl) (hf : X.fn x = true ∨ X.env.scope.names.lookup x = some .local := by first | exact .inl rfl | exact .inr rfl | assumption) :
    PS X (.Assign [.Name x pos'] e pos) (tAsg te (gName i)) := by
  intro pins s σ H D I h
  refine wpAny_Assign_Name (thn (he pins s σ H _ I h) fun v s1 ⟨y, H1, I1, r1, q1⟩ => ?_) hs
  exact store_ok I1 hN hi hx r1 (fun s2 I2 => ⟨_, H1, I2, q1⟩) hf
end

section
variable {X : Cx} {pos : Pos}
noncomputable def tWhile (c : TT) (tb : TS) : TS := fun D σ H => ∃ W : Nat → St → Hp → Prop, (∃ m, W m σ H) ∧ ∀ m σ H, W m σ H →
  c σ H fun b H1 => if b = true then ∃ N : St → Hp → Prop, (∀ σ' H', N σ' H' → ∃ m', m' < m ∧ W m' σ' H') ∧ tb { D with nx := N, ct := N, bk := D.nx } σ H1 else D.nx σ H1
theorem ps_while {c : Expr} {body : List Stmt} {tc : TT} {tb : TS} (hp : PassesOwn (model X.prog X.w) X.A X.env X.xe) (hc : PT X c tc) (hb : PSs X body tb) : PS X (.While c body [] pos) (tWhile tc tb) := by
  intro pins s σ H D I h
  obtain ⟨W, ⟨m0, w0⟩, turn⟩ := h
  refine wpAny_While (codeAny_whileLoop (fun n s' => ∃ σ' H', Inv X pins σ' H' s' ∧ W n σ' H') ?_ m0 ⟨σ, H, I, w0⟩)
  rintro n s1 ⟨σ1, H1, I1, w1⟩
  refine wpAny_passesOwn hp (thn (hc pins s1 σ1 H1 _ I1 (turn n σ1 H1 w1)) fun b s2 ⟨H2, I2, q2⟩ => ?_)
  cases b with
  | true =>
    obtain ⟨N, hN, q2⟩ := q2
    rw [if_pos rfl]
    refine wpAny_passesOwn hp (thn (hb pins s2 σ1 H2 _ I2 q2) fun f s3 q3 => ?_)
    cases f with
    | next =>
      obtain ⟨σ3, H3, I3, n3⟩ := q3
      obtain ⟨m', hm, w3⟩ := hN σ3 H3 n3
      exact ⟨m', hm, σ3, H3, I3, w3⟩
    | cont =>
      obtain ⟨σ3, H3, I3, n3⟩ := q3
      obtain ⟨m', hm, w3⟩ := hN σ3 H3 n3
      exact ⟨m', hm, σ3, H3, I3, w3⟩
    | brk => exact q3
    | ret v => exact q3
  | false =>
    rw [if_neg Bool.false_ne_true]
    exact wpAny_execs_nil ⟨σ1, H2, I2, q2⟩
end

structure It where
  go : Nat → Hp → Prop
  yld : Nat → Hp → V → Hp → Prop
  stop : Nat → Hp → Prop
noncomputable def FpOk (X : Cx) (pins : List (Addr × Obj)) (H : Hp) (b : Addr) : Prop :=
  H b = none ∧ b ≠ X.env.locals ∧ b ∉ X.fs ∧ (b ∈ X.ex ∨ X.s₀.heap.objs.size ≤ b) ∧ (∀ x c, X.env.cells.lookup x = some c → c ≠ b) ∧ ∀ p ∈ X.pn ++ pins, p.1 ≠ b
theorem Inv.fpOk {X : Cx} {pins : List (Addr × Obj)} {σ : St} {H H' : Hp} {s : Shared} {b : Addr} (I : Inv X pins σ H s) (hb : s.heap.objs.size ≤ b) (hn : H' b = none) : FpOk X pins H' b := by
  refine ⟨hn, Nat.ne_of_gt (Nat.lt_of_lt_of_le I.lt hb), I.nofs hb, .inr (Nat.le_trans I.sz hb), fun x c e z => ?_, fun p hp z => ?_⟩
  · obtain ⟨v, q⟩ := I.cell x c e
    exact absurd (Nat.lt_of_lt_of_le q.lt (by rw [z]; exact hb)) (Nat.lt_irrefl _)
  · exact absurd (Nat.lt_of_lt_of_le (Heap.lt_size (I.pin p hp).1) (by rw [z]; exact hb)) (Nat.lt_irrefl _)
structure Turn (P : Program) (w : World) (K : PySem.W.Frag) (tg : Expr) (J : It) (fp : List Addr) (it : Addr) (tn : Nat → Heap → Prop) : Prop where
  mem : it ∈ fp
  obj : ∀ i h, tn i h → ∀ b ∈ fp, ∃ o, h.get? b = some o ∧ ∀ v, o.data ≠ .cell v
  keep : ∀ i h h', tn i h → (∀ b ∈ fp, ∀ o, h.get? b = some o → h'.get? b = some o) → tn i h'
  item : ∀ (X : Cx), X.prog = P → X.w = w → X.K = K → X.calm = true → ∀ (i : Nat) (pins : List (Addr × Obj)) (s : Shared) (σ : St) (H : Hp) (E : Value → Shared → Prop), Inv X pins σ H s → (∀ b ∈ fp, FpOk X pins H b) → tn i s.heap → J.go i H →
    wpAny (model P w) X.A (pyNext (.ref it)) (fun r s1 => ∃ u, r = some u ∧
      wpAny (model P w) X.A (letOwnedTupleGo tg (.ref it) u) (fun _ s2 => ∃ x H', Inv X pins σ H' s2 ∧ RelV x u ∧ J.yld i H x H' ∧ tn (i + 1) s2.heap ∧ ∀ b ∈ fp, H' b = none) E s1) E s
  done : ∀ (X : Cx), X.prog = P → X.w = w → X.K = K → X.calm = true → ∀ (i : Nat) (pins : List (Addr × Obj)) (s : Shared) (σ : St) (H : Hp) (E : Value → Shared → Prop), Inv X pins σ H s → (∀ b ∈ fp, FpOk X pins H b) → tn i s.heap → J.stop i H →
    wpAny (model P w) X.A (pyNext (.ref it)) (fun r s1 => r = none ∧ Inv X pins σ H s1) E s
  self : ∀ (A : Around) (i : Nat) (s : Shared) (Q : Value → Shared → Prop) (E : Value → Shared → Prop), tn i s.heap → Q (.ref it) s → wpAny (model P w) A (pyIter (.ref it)) Q E s
noncomputable abbrev TI := St → Hp → (It → Hp → Prop) → Prop
noncomputable def PIE (X : Cx) (pins : List (Addr × Obj)) (σ : St) (tg : Expr) (R : It → Hp → Prop) (itv : Value) (s2 : Shared) : Prop :=
  ∃ (it : Addr) (fp : List Addr) (tn : Nat → Heap → Prop) (J : It) (H' : Hp), itv = .ref it ∧ Inv X pins σ H' s2 ∧ Turn X.prog X.w X.K tg J fp it tn ∧ tn 0 s2.heap ∧ (∀ b ∈ fp, FpOk X pins H' b) ∧ R J H'
noncomputable def PI (X : Cx) (tg iter : Expr) (wi : TI) : Prop :=
  ∀ (pins : List (Addr × Obj)) (s : Shared) (σ : St) (H : Hp) (R : It → Hp → Prop), Inv X pins σ H s → wi σ H R →
    wpAny (model X.prog X.w) X.A (eval iter X.env) (fun v s1 => wpAny (model X.prog X.w) X.A (pyIter v) (PIE X pins σ tg R) X.xe s1) X.xe s

theorem go_of {M : Model} {A : Around} {E : Value → Shared → Prop} {s : Shared} {tg : Expr} {it : Addr} {u : Value} {o : Obj} {n : String} {vs : Array Value} {Q : Unit → Shared → Prop} (ho : s.heap.get? it = some o) (hc : o.cls = .type n) (hd : o.data = .fields vs)
    (hn : ["enumerate", "zip", "dict_itemiterator", "dict_reverseitemiterator", "odict_iterator", "itertools.zip_longest", "itertools.pairwise"].contains n = false) (hQ : Q () s) : wpAny M A (letOwnedTupleGo tg (.ref it) u) Q E s := by
  unfold letOwnedTupleGo
  cases tg <;> first
    | exact wpAny_pure hQ
    | (cases u <;> first
        | exact wpAny_pure hQ
        | (refine wpAny_bind (wpAny_load ho ?_)
           rw [hc, hd]
           show wpAny M A (if (["enumerate", "zip", "dict_itemiterator", "dict_reverseitemiterator", "odict_iterator", "itertools.zip_longest", "itertools.pairwise"].contains n && vs[0]? == some (rawInt _)) = true then _ else _) Q E s
           rw [if_neg (by intro h; rw [hn, Bool.false_and] at h; cases h)]
           exact wpAny_pure hQ))

noncomputable def Itl (K : PySem.W.Frag) (a : Addr) : It :=
  ⟨fun i H => ∃ xs x, SqL K H a xs ∧ xs[i]? = some x, fun i H x H' => H' = H ∧ ∀ xs, SqL K H a xs → xs[i]? = some x, fun i H => ∃ xs, SqL K H a xs ∧ xs.length ≤ i⟩
noncomputable def Itt (K : PySem.W.Frag) (a : Addr) : It :=
  ⟨fun i H => ∃ xs x, SqT K H a xs ∧ xs[i]? = some x, fun i H x H' => H' = H ∧ ∀ xs, SqT K H a xs → xs[i]? = some x, fun i H => ∃ xs, SqT K H a xs ∧ xs.length ≤ i⟩
noncomputable def Itr (lo : Int) (n : Nat) : It := ⟨fun i _ => i < n, fun i H x H' => H' = H ∧ x = .int (lo + i), fun i _ => n ≤ i⟩
theorem turn_list {P : Program} {w : World} {K : PySem.W.Frag} {tg : Expr} (a it : Addr) : Turn P w K tg (Itl K a) [it] it (fun i h => h.IsListIter it a i) where
  mem := by simp
  obj := fun i h st b hb => by
    have e : b = it := by simpa using hb
    subst e
    obtain ⟨o, e, c, d⟩ := st
    exact ⟨o, e, fun v z => by rw [d] at z; cases z⟩
  keep := fun i h h' st k => st.at fun o e => k it (by simp) o e
  item := by
    intro X hP hw hK hc i pins s σ H E I hf st hg
    subst hP hw hK
    obtain ⟨xs, x, hq, hx⟩ := hg
    obtain ⟨its, rv, p, hz⟩ := I.list hq
    obtain ⟨u, hu, ru⟩ := rv.get hx
    obtain ⟨f0, f1, f2, f3, f4, f5⟩ := hf it (by simp)
    refine wpAny_pyNext_list_item st p.isList (x := u) (by simpa using hu) fun h' st' sb => ?_
    have I1 : Inv X pins σ H { s with heap := h' } := I.turned (t' := s.toks) (fun b o hb e => (sb.2 b hb).trans e) f0 f1 f3 f4 f5
    obtain ⟨o, e, c, d⟩ := id st'
    exact ⟨u, rfl, go_of (s := { s with heap := h' }) e c d (by decide) ⟨x, H, I1, ru, ⟨rfl, fun ys hy => by rw [I.list_inj hy hq]; exact hx⟩, st', fun b hb => (hf b hb).1⟩⟩
  done := by
    intro X hP hw hK hc i pins s σ H E I hf st hg
    subst hP hw hK
    obtain ⟨xs, hq, hx⟩ := hg
    obtain ⟨its, rv, p, hz⟩ := I.list hq
    obtain ⟨f0, f1, f2, f3, f4, f5⟩ := hf it (by simp)
    have hl := rv.length
    exact wpAny_pyNext_list_end (I.ok.hd hc) st p.isList (by simp; omega) fun h' eb => ⟨rfl, I.turned (t' := s.toks) (fun b o hb e => eb b o hb e) f0 f1 f3 f4 f5⟩
  self := fun _ _ _ _ _ st h => wpAny_pyIter_listiter st h
theorem turn_tuple {P : Program} {w : World} {K : PySem.W.Frag} {tg : Expr} (a it : Addr) : Turn P w K tg (Itt K a) [it] it (fun i h => h.IsTupleIter it a i) where
  mem := by simp
  obj := fun i h st b hb => by
    have e : b = it := by simpa using hb
    subst e
    obtain ⟨o, e, c, d⟩ := st
    exact ⟨o, e, fun v z => by rw [d] at z; cases z⟩
  keep := fun i h h' st k => st.at fun o e => k it (by simp) o e
  item := by
    intro X hP hw hK hc i pins s σ H E I hf st hg
    subst hP hw hK
    obtain ⟨xs, x, hq, hx⟩ := hg
    obtain ⟨its, rv, p, hz⟩ := I.tuple hq
    obtain ⟨u, hu, ru⟩ := rv.get hx
    obtain ⟨f0, f1, f2, f3, f4, f5⟩ := hf it (by simp)
    refine wpAny_pyNext_tuple_item st (show s.heap.IsTuple a its.toArray from p) (x := u) (by simpa using hu) fun h' st' sb => ?_
    have I1 : Inv X pins σ H { s with heap := h' } := I.turned (t' := s.toks) (fun b o hb e => (sb.2 b hb).trans e) f0 f1 f3 f4 f5
    obtain ⟨o, e, c, d⟩ := id st'
    exact ⟨u, rfl, go_of (s := { s with heap := h' }) e c d (by decide) ⟨x, H, I1, ru, ⟨rfl, fun ys hy => by rw [I.tuple_inj hy hq]; exact hx⟩, st', fun b hb => (hf b hb).1⟩⟩
  done := by
    intro X hP hw hK hc i pins s σ H E I hf st hg
    subst hP hw hK
    obtain ⟨xs, hq, hx⟩ := hg
    obtain ⟨its, rv, p, hz⟩ := I.tuple hq
    obtain ⟨f0, f1, f2, f3, f4, f5⟩ := hf it (by simp)
    have hl := rv.length
    exact wpAny_pyNext_tuple_end (I.ok.hd hc) st (show s.heap.IsTuple a its.toArray from p) (by simp; omega) fun h' eb => ⟨rfl, I.turned (t' := s.toks) (fun b o hb e => eb b o hb e) f0 f1 f3 f4 f5⟩
  self := fun _ _ _ _ _ st h => wpAny_pyIter_tupleiter st h
theorem turn_range {P : Program} {w : World} {K : PySem.W.Frag} {tg : Expr} (it : Addr) (lo : Int) (n : Nat) : Turn P w K tg (Itr lo n) [it] it (fun i h => IsRangeIter h it (lo + (i : Nat) * 1) ((n : Int) - (i : Nat)) 1) where
  mem := by simp
  obj := fun i h st b hb => by
    have e : b = it := by simpa using hb
    subst e
    exact ⟨_, st, fun v z => by
      have z' : Data.fields _ = Data.cell v := z
      cases z'⟩
  keep := fun i h h' st k => k it (by simp) _ st
  item := by
    intro X hP hw hK hc i pins s σ H E I hf st hg
    subst hP hw hK
    obtain ⟨f0, f1, f2, f3, f4, f5⟩ := hf it (by simp)
    have W := Walks.range (prog := X.prog) (w := X.w) (I.ok.hd hc) it lo 1 n
    refine W.item i s _ _ hg st fun v h' tk hv st' kk => ?_
    obtain ⟨t, rfl⟩ := hv
    have I1 : Inv X pins σ H { s with heap := h', toks := tk } := I.turned (fun b o hb e => kk b o (by simpa using hb) e) f0 f1 f3 f4 f5
    refine ⟨_, rfl, go_of (s := { s with heap := h', toks := tk }) (n := "range_iterator") st' rfl rfl (by decide) ⟨.int (lo + i), H, I1, ⟨t, ?_⟩, ⟨rfl, rfl⟩, st', fun b hb => (hf b hb).1⟩⟩
    rw [Int.mul_one]
  done := by
    intro X hP hw hK hc i pins s σ H E I hf st hg
    subst hP hw hK
    obtain ⟨f0, f1, f2, f3, f4, f5⟩ := hf it (by simp)
    exact wpAny_pyNext_range_end (I.ok.hd hc) st (by have : n ≤ i := hg; omega) fun h' eb => ⟨rfl, I.turned (t' := s.toks) (fun b o hb e => eb b o hb e) f0 f1 f3 f4 f5⟩
  self := fun _ _ _ _ _ st h => wpAny_pyIter_rangeiter st h
end L2

namespace L2
open PySem PySem.Spec PyProof.Rows
section
variable {X : Cx} {tg : Expr}
theorem range_it {pins : List (Addr × Obj)} {σ : St} {H : Hp} {s : Shared} {R : It → Hp → Prop} {E : Value → Shared → Prop} {lo hi : Int} {t u v : Tok} {tk : Nat} (I : Inv X pins σ H s) (h1 : -(2 ^ 62) ≤ lo) (h2 : lo < 2 ^ 62) (h3 : -(2 ^ 62) ≤ hi) (h4 : hi < 2 ^ 62)
    (q : R (Itr lo (hi - lo).toNat) H) : wpAny (model X.prog X.w) X.A (pyIter (.ref s.heap.objs.size)) (PIE X pins σ tg R) E { s with heap := s.heap.push { cls := .type "range", data := .fields #[.int lo t, .int hi u, .int 1 v] }, toks := tk } := by
  refine wpAny_pyIter_range (IsRange.new ..) (small_one h1 h2 h3 h4) ?_
  have I1 : Inv X pins σ H { s with heap := s.heap.push { cls := .type "range", data := .fields #[.int lo t, .int hi u, .int 1 v] }, toks := tk } := I.kept fun b o e => Heap.get?_push_of_some _ e
  refine ⟨(s.heap.push { cls := .type "range", data := .fields #[.int lo t, .int hi u, .int 1 v] }).objs.size, [(s.heap.push { cls := .type "range", data := .fields #[.int lo t, .int hi u, .int 1 v] }).objs.size], _, _, H, rfl,
    I1.kept (t' := tk) fun b o e => Heap.get?_push_of_some _ e, turn_range _ lo (hi - lo).toNat, ?_, fun b hb => ?_, q⟩
  · have e1 : lo + ((0 : Nat) : Int) * 1 = lo := by simp
    have e2 : (((hi - lo).toNat : Nat) : Int) - ((0 : Nat) : Int) = Builtin.Range.rangeSize lo hi 1 := by rw [rangeSize_one]; split <;> omega
    show IsRangeIter _ _ (lo + ((0 : Nat) : Int) * 1) ((((hi - lo).toNat : Nat) : Int) - ((0 : Nat) : Int)) 1
    rw [e1, e2]
    exact Heap.get?_push_size _ rfl
  · have e : b = (s.heap.push { cls := .type "range", data := .fields #[.int lo t, .int hi u, .int 1 v] }).objs.size := by simpa using hb
    subst e
    exact I1.fpOk (Nat.le_refl _) (I1.hok.fresh (Nat.le_refl _))
noncomputable def iRng1 (ta : TA) : TI := fun σ H R => ta σ H fun vs H1 => ∃ j : Int, vs = [.int j] ∧ -(2 ^ 62) ≤ j ∧ j < 2 ^ 62 ∧ R (Itr 0 j.toNat) H1
theorem pi_range1 {a : Expr} {ta : TA} {p pos : Pos} (hg : Gl X "range") (hm : X.mg "range" = none) (ha : PA X [a] ta) (hs : starEach [a] X.env = [(false, eval a X.env)] := by rfl) : PI X tg (.Call (.Name "range" p) [a] [] pos) (iRng1 ta) := by
  intro pins s σ H R I h
  refine Call_ (ld_blt I hg hm boot_range (PyProof.Rows.callWith_type1 (thn (ha pos pins s σ H _ I h) fun us s1 ⟨vs, H1, I1, r1, q1⟩ => ?_) hs rfl))
  obtain ⟨j, e, q1, q2, q⟩ := q1
  subst e
  cases r1 with
  | cons r rr =>
    cases rr
    obtain ⟨t, rfl⟩ := r
    exact call_range_1 (range_it I1 (by omega) (by omega) q1 q2 (by simpa using q))
noncomputable def tFor (wi : TI) (g : TG) (tb : TS) : TS := fun D σ H => wi σ H fun J H1 => ∃ W : Nat → Nat → St → Hp → Prop, (∃ m, W 0 m σ H1) ∧ ∀ i m σ H, W i m σ H →
  (J.stop i H ∧ D.nx σ H) ∨ (J.go i H ∧ ∃ N : St → Hp → Prop, (∀ σ' H', N σ' H' → ∃ m', m' < m ∧ W (i + 1) m' σ' H') ∧ ∀ x H', J.yld i H x H' → g x σ H' fun σ2 H2 => tb { D with nx := N, ct := N, bk := D.nx } σ2 H2)
noncomputable def pinsAt (fp : List Addr) (h : Heap) : List (Addr × Obj) := fp.filterMap fun b => (h.get? b).map fun o => (b, o)
theorem mem_pinsAt {fp : List Addr} {h : Heap} {b : Addr} {o : Obj} (hb : b ∈ fp) (e : h.get? b = some o) : (b, o) ∈ pinsAt fp h := List.mem_filterMap.mpr ⟨b, hb, by rw [e]; rfl⟩
theorem of_pinsAt {fp : List Addr} {h : Heap} {p : Addr × Obj} (hp : p ∈ pinsAt fp h) : p.1 ∈ fp ∧ h.get? p.1 = some p.2 := by
  obtain ⟨b, hb, e⟩ := List.mem_filterMap.mp hp
  cases q : h.get? b with
  | none => rw [q] at e; cases e
  | some o =>
    rw [q] at e
    have e' : (b, o) = p := Option.some.inj e
    subst e'
    exact ⟨hb, q⟩
theorem Inv.pinned {pins : List (Addr × Obj)} {σ : St} {H : Hp} {s : Shared} {fp : List Addr} (I : Inv X pins σ H s) (hf : ∀ b ∈ fp, FpOk X pins H b) (ho : ∀ b ∈ fp, ∃ o, s.heap.get? b = some o ∧ ∀ v, o.data ≠ .cell v) : Inv X (pins ++ pinsAt fp s.heap) σ H s :=
  I.pins_of fun p hp => (List.mem_append.mp hp).elim (fun z => I.pin p (List.mem_append_right _ z)) fun z => by
    obtain ⟨hb, e⟩ := of_pinsAt z
    obtain ⟨f0, f1, f2, _⟩ := hf p.1 hb
    obtain ⟨o, e', d⟩ := ho p.1 hb
    rw [e] at e'; cases e'
    exact ⟨e, f0, f1, f2, d⟩
theorem Inv.unpinned {pins pl : List (Addr × Obj)} {σ : St} {H : Hp} {s : Shared} (I : Inv X (pins ++ pl) σ H s) : Inv X pins σ H s := I.pins_of fun p hp => I.pin p (List.mem_append_right _ (List.mem_append_left _ hp))
theorem ps_for {iter : Expr} {body : List Stmt} {wi : TI} {g : TG} {tb : TS} {pos : Pos} (hp : PassesOwn (model X.prog X.w) X.A X.env X.xe) (hc : X.calm = true) (hi : PI X tg iter wi) (hg : PG X tg g) (hb : PSs X body tb)
    (hs : ∀ x, foldedSetIterable iter X.env x = pure x := by intro _; rfl) : PS X (.For tg iter body [] pos) (tFor wi g tb) := by
  intro pins s σ H D I h
  refine wpAny_For (thn (hi pins s σ H _ I h) fun v s1 h1 => thn h1 fun itv s2 h2 => ?_) hs
  obtain ⟨it, fp, tn, J, H2, e, I2, T, st2, f2, W, ⟨m0, w0⟩, turn⟩ := h2
  subst e
  
  have stat : ∀ {H' : Hp}, (∀ b ∈ fp, H' b = none) → ∀ b ∈ fp, FpOk X pins H' b := fun hn b hb => ⟨hn b hb, (f2 b hb).2⟩
  refine codeAny_forLoop_any (fun n s' => ∃ i σ' H', Inv X pins σ' H' s' ∧ tn i s'.heap ∧ (∀ b ∈ fp, H' b = none) ∧ W i n σ' H') ?_ m0 ⟨0, σ, H2, I2, st2, fun b hb => (f2 b hb).1, w0⟩
  rintro n s3 ⟨i, σ3, H3, I3, st3, fr3, w3⟩
  rcases turn i n σ3 H3 w3 with ⟨stop, qn⟩ | ⟨go, N, hN, step⟩
  · refine wpAny_passesOwn hp (thn (T.done X rfl rfl rfl hc i pins s3 σ3 H3 X.xe I3 (stat fr3) st3 stop) fun r s4 ⟨hr, I4⟩ => ?_)
    subst hr
    exact wpAny_execs_nil ⟨σ3, H3, I4, qn⟩
  · refine wpAny_passesOwn hp (thn (T.item X rfl rfl rfl hc i pins s3 σ3 H3 X.xe I3 (stat fr3) st3 go) fun r s4 ⟨u, hr, h4⟩ => ?_)
    subst hr
    refine wpAny_passesOwn hp (thn h4 fun _ s5 ⟨x, H5, I5, r5, y5, st5, fr5⟩ => ?_)
    have I5' := I5.pinned (stat fr5) (T.obj _ _ st5)
    refine wpAny_passesOwn hp (thn (hg _ s5 σ3 H5 x u _ I5' r5 (step x H5 y5)) fun _ s6 ⟨σ6, H6, I6, q6⟩ => ?_)
    refine wpAny_passesOwn hp (thn (hb _ s6 σ6 H6 _ I6 q6) fun f s7 q7 => ?_)
    have again : ∀ {σ7 : St} {H7 : Hp}, Inv X (pins ++ pinsAt fp s5.heap) σ7 H7 s7 → N σ7 H7 → ∃ m, m < n ∧ ∃ i σ' H', Inv X pins σ' H' s7 ∧ tn i s7.heap ∧ (∀ b ∈ fp, H' b = none) ∧ W i m σ' H' := fun {σ7 H7} I7 n7 => by
      obtain ⟨m', hm, w7⟩ := hN σ7 H7 n7
      refine ⟨m', hm, i + 1, σ7, H7, I7.unpinned, T.keep _ _ _ st5 fun b hb o e => (I7.pin (b, o) (List.mem_append_right _ (List.mem_append_right _ (mem_pinsAt hb e)))).1, fun b hb => ?_, w7⟩
      obtain ⟨o, e, d⟩ := T.obj _ _ st5 b hb
      exact (I7.pin (b, o) (List.mem_append_right _ (List.mem_append_right _ (mem_pinsAt hb e)))).2.1
    cases f with
    | next => obtain ⟨σ7, H7, I7, n7⟩ := q7; exact again I7 n7
    | cont => obtain ⟨σ7, H7, I7, n7⟩ := q7; exact again I7 n7
    | brk => obtain ⟨σ7, H7, I7, q7⟩ := q7; exact ⟨σ7, H7, I7.unpinned, q7⟩
    | ret v => obtain ⟨x7, σ7, H7, I7, r7, q7⟩ := q7; exact ⟨x7, σ7, H7, I7.unpinned, r7, q7⟩
end

end L2

namespace L2
open PySem PySem.Spec PyProof.Rows

noncomputable abbrev R2 := V → V → Hp → VK → Prop
noncomputable def OpR (X : Cx) (f : Value → Value → Sem Value) (r : R2) : Prop :=
  ∀ (pins : List (Addr × Obj)) (s : Shared) (σ : St) (H : Hp) (x y : V) (v u : Value) (Q : VK), Inv X pins σ H s → RelV x v → RelV y u → r x y H Q →
    wpAny (model X.prog X.w) X.A (f v u) (EP X pins σ Q) X.xe s
noncomputable def CallR (X : Cx) (f : Value) (r : List V → Hp → VK → Prop) : Prop :=
  ∀ (pins : List (Addr × Obj)) (s : Shared) (σ : St) (H : Hp) (xs : List V) (us : List Value) (Q : VK), Inv X pins σ H s → Vals xs us → r xs H Q →
    wpAny (model X.prog X.w) X.A (call f us) (EP X pins σ Q) X.xe s
noncomputable def TruR (X : Cx) (r : V → Hp → (Bool → Hp → Prop) → Prop) : Prop :=
  ∀ (pins : List (Addr × Obj)) (s : Shared) (σ : St) (H : Hp) (x : V) (v : Value) (Q : Bool → Hp → Prop), Inv X pins σ H s → RelV x v → r x H Q →
    wpAny (model X.prog X.w) X.A (truthy v) (TP X pins σ Q) X.xe s

noncomputable def tOp (r : R2) (ta tb : TE) : TE := fun σ H Q => ta σ H fun x H1 => tb σ H1 fun y H2 => r x y H2 Q
noncomputable def rI (C : Int → Int → Prop) (g : Int → Int → V) : R2 := fun x y H Q => ∃ i j, x = .int i ∧ y = .int j ∧ C i j ∧ Q (g i j) H
noncomputable def rI0 (g : Int → Int → V) : R2 := fun x y H Q => ∃ i j, x = .int i ∧ y = .int j ∧ Q (g i j) H
section
variable {X : Cx} {a b c : Expr} {ta tb tc : TE} {pos : Pos}

theorem binT (ha : PE X a ta) (hb : PE X b tb) {pins : List (Addr × Obj)} {s : Shared} {σ : St} {H : Hp} {R : V → V → Hp → Prop} (I : Inv X pins σ H s)
    (h : ta σ H fun x H1 => tb σ H1 fun y H2 => R x y H2) {Q : Value → Shared → Prop} {f : Value → Value → Sem Value}
    (hf : ∀ v u s2 x y H2, Inv X pins σ H2 s2 → RelV x v → RelV y u → R x y H2 → wpAny (model X.prog X.w) X.A (f v u) Q X.xe s2) :
    wpAny (model X.prog X.w) X.A (eval a X.env) (fun v s₁ => wpAny (model X.prog X.w) X.A (eval b X.env) (fun u s₂ => wpAny (model X.prog X.w) X.A (f v u) Q X.xe s₂) X.xe s₁) X.xe s := by
  refine thn (ha pins s σ H _ I h) fun v s1 ⟨x, H1, I1, r1, q1⟩ => ?_
  refine thn (hb pins s1 σ H1 _ I1 q1) fun u s2 ⟨y, H2, I2, r2, q2⟩ => ?_
  exact hf v u s2 x y H2 I2 r1 r2 q2

theorem pe_op {op : Operator} {r : R2} (ho : OpR X (binaryOp op) r) (ha : PE X a ta) (hb : PE X b tb) : PE X (.BinOp a op b pos) (tOp r ta tb) := by
  intro pins s σ H Q I h
  exact wpAny_BinOp (binT ha hb I h fun v u s2 x y H2 I2 rx ry q => ho pins s2 σ H2 x y v u Q I2 rx ry q)
theorem opI {f : Value → Value → Sem Value} {C : Int → Int → Prop} {g : Int → Int → Int}
    (rule : ∀ (i j : Int) (t u : Tok) (s : Shared) (Q : Value → Shared → Prop) (E : Value → Shared → Prop), C i j → Q (.int (g i j) s.toks) { s with toks := s.toks + 1 } → wpAny (model X.prog X.w) X.A (f (.int i t) (.int j u)) Q E s) :
    OpR X f (rI C fun i j => .int (g i j)) := by
  intro pins s σ H x y v u Q I rx ry h
  obtain ⟨i, j, rfl, rfl, hc, q⟩ := h
  obtain ⟨t, rfl⟩ := rx
  obtain ⟨t', rfl⟩ := ry
  exact rule i j t t' s _ _ hc ⟨.int (g i j), H, I.tok _, ⟨_, rfl⟩, q⟩
theorem opI0 {f : Value → Value → Sem Value} {g : Int → Int → Int}
    (rule : ∀ (i j : Int) (t u : Tok) (s : Shared) (Q : Value → Shared → Prop) (E : Value → Shared → Prop), Q (.int (g i j) s.toks) { s with toks := s.toks + 1 } → wpAny (model X.prog X.w) X.A (f (.int i t) (.int j u)) Q E s) :
    OpR X f (rI0 fun i j => .int (g i j)) := by
  intro pins s σ H x y v u Q I rx ry h
  obtain ⟨i, j, rfl, rfl, q⟩ := h
  obtain ⟨t, rfl⟩ := rx
  obtain ⟨t', rfl⟩ := ry
  exact rule i j t t' s _ _ ⟨.int (g i j), H, I.tok _, ⟨_, rfl⟩, q⟩
theorem opB0 {f : Value → Value → Sem Value} {g : Int → Int → Bool}
    (rule : ∀ (i j : Int) (t u : Tok) (s : Shared) (Q : Value → Shared → Prop) (E : Value → Shared → Prop), Q (.bool (g i j)) s → wpAny (model X.prog X.w) X.A (f (.int i t) (.int j u)) Q E s) :
    OpR X f (rI0 fun i j => .bl (g i j)) := by
  intro pins s σ H x y v u Q I rx ry h
  obtain ⟨i, j, rfl, rfl, q⟩ := h
  obtain ⟨t, rfl⟩ := rx
  obtain ⟨t', rfl⟩ := ry
  exact rule i j t t' s _ _ ⟨.bl (g i j), H, I, rfl, q⟩

noncomputable def CPow (i j : Int) : Prop := 0 ≤ j ∧ j ≤ 1000000 ∧ i.natAbs < 2 ^ 64
noncomputable def CMul (i j : Int) : Prop := (-(2 ^ 64) < i ∧ i < 2 ^ 64) ∨ (-(2 ^ 64) < j ∧ j < 2 ^ 64)
theorem CMul.ok {i j : Int} (h : CMul i j) : IntMulOk i j := by
  rcases h with ⟨h1, h2⟩ | ⟨h1, h2⟩
  · exact .of_left (intBits_le_64 h1 h2)
  · exact .of_right (intBits_le_64 h1 h2)
theorem op_add : OpR X (binaryOp .Add) (rI0 fun i j => .int (i + j)) := opI0 fun _ _ _ _ _ _ _ q => add_int q
theorem op_mul : OpR X (binaryOp .Mult) (rI CMul fun i j => .int (i * j)) := opI fun _ _ _ _ _ _ _ hc q => mul_int q hc.ok
theorem op_mod : OpR X (binaryOp .Mod) (rI (fun _ j => 0 < j) fun i j => .int (i % j)) := opI fun i j _ _ _ _ _ hc q => by
  have h1 : (0 : Int) < j := hc
  exact mod_int' (by omega) (by rw [Int.fmod_eq_emod_of_nonneg i (by omega)]; exact q)
theorem op_pow : OpR X (binaryOp .Pow) (rI CPow fun i j => .int (i ^ j.toNat)) := opI fun _ _ _ _ _ _ _ hc q => pow_int_small hc.1 hc.2.1 hc.2.2 q
theorem op_shl : OpR X (binaryOp .LShift) (rI CPow fun i j => .int (i * 2 ^ j.toNat)) := opI fun _ _ _ _ _ _ _ hc q => lshift_int_small hc.1 hc.2.1 hc.2.2 q
end

noncomputable def scal : V → V → Bool
  | .non, .non => true | .non, .int _ => true | .int _, .non => true | .non, .bl _ => true | .bl _, .non => true | .non, .str _ => true | .str _, .non => true
  | .int _, .int _ => true | .bl _, .bl _ => true | .str _, .str _ => true | .byt _, .byt _ => true
  | .int _, .str _ => true | .str _, .int _ => true | .bl _, .str _ => true | .str _, .bl _ => true
  | _, _ => false
noncomputable def rEq : R2 := fun x y H Q => scal x y = true ∧ Q (.bl (decide (x = y))) H
noncomputable def rNe : R2 := fun x y H Q => scal x y = true ∧ Q (.bl (!decide (x = y))) H

theorem dec_int {i j : Int} : decide (V.int i = V.int j) = (i == j) := by
  rw [Bool.eq_iff_iff]
  simp
theorem dec_bl {i j : Bool} : decide (V.bl i = V.bl j) = (i == j) := by
  rw [Bool.eq_iff_iff]
  simp
theorem dec_str {i j : Str} : decide (V.str i = V.str j) = (i == j) := by
  rw [Bool.eq_iff_iff]
  simp
theorem dec_byt {i j : Array UInt8} : decide (V.byt i = V.byt j) = (i.toList == j.toList) := by
  rw [Bool.eq_iff_iff]
  cases i
  cases j
  simp

section
variable {X : Cx} {a b c : Expr} {ta tb tc : TE} {pos : Pos}
theorem fin_bl {pins : List (Addr × Obj)} {σ : St} {H : Hp} {s : Shared} {Q : VK} {k k' : Bool} (I : Inv X pins σ H s) (q : Q (.bl k) H) (e : k = k') : EP X pins σ Q (.bool k') s := by
  subst e
  exact ⟨.bl k, H, I, rfl, q⟩
theorem op_eq : OpR X (compareOp .Eq) rEq := by
  intro pins s σ H x y v u Q I rx ry h
  obtain ⟨hs, q⟩ := h
  cases x with
  | non =>
    cases rx
    cases y with
    | non => cases ry; exact PySem.EqNone.eq_none_none (fin_bl I q (by simp))
    | bl j => cases ry; exact PySem.EqNone.eq_none_bool (fin_bl I q (by simp))
    | int j => obtain ⟨t', rfl⟩ := ry; exact PySem.EqNone.eq_none_int (fin_bl I q (by simp))
    | str j => obtain ⟨t', rfl⟩ := ry; exact PySem.EqNone.eq_none_str (fin_bl I q (by simp))
    | _ => exact absurd (show false = true from hs) Bool.false_ne_true
  | bl i =>
    cases rx
    cases y with
    | non => cases ry; exact PySem.EqNone.eq_bool_none (fin_bl I q (by simp))
    | bl j => cases ry; exact eq_bool (fin_bl I q dec_bl)
    | str j => obtain ⟨t', rfl⟩ := ry; exact PySem.EqMixed.eq_bool_str (fin_bl I q (by simp))
    | _ => exact absurd (show false = true from hs) Bool.false_ne_true
  | int i =>
    obtain ⟨t, rfl⟩ := rx
    cases y with
    | non => cases ry; exact PySem.EqNone.eq_int_none (fin_bl I q (by simp))
    | int j => obtain ⟨t', rfl⟩ := ry; exact eq_int (fin_bl I q dec_int)
    | str j => obtain ⟨t', rfl⟩ := ry; exact PySem.EqMixed.eq_int_str (fin_bl I q (by simp))
    | _ => exact absurd (show false = true from hs) Bool.false_ne_true
  | str i =>
    obtain ⟨t, rfl⟩ := rx
    cases y with
    | non => cases ry; exact PySem.EqNone.eq_str_none (fin_bl I q (by simp))
    | bl j => cases ry; exact PySem.EqMixed.eq_str_bool (fin_bl I q (by simp))
    | int j => obtain ⟨t', rfl⟩ := ry; exact PySem.EqMixed.eq_str_int (fin_bl I q (by simp))
    | str j => obtain ⟨t', rfl⟩ := ry; exact eq_str (fin_bl I q dec_str)
    | _ => exact absurd (show false = true from hs) Bool.false_ne_true
  | byt i =>
    obtain ⟨t, rfl⟩ := rx
    cases y with
    | byt j => obtain ⟨t', rfl⟩ := ry; exact PySem.W.eq_bytes (fin_bl I q dec_byt)
    | _ => exact absurd (show false = true from hs) Bool.false_ne_true
  | _ => cases y <;> exact absurd (show false = true from hs) Bool.false_ne_true
theorem op_ne : OpR X (compareOp .NotEq) rNe := by
  intro pins s σ H x y v u Q I rx ry h
  obtain ⟨hs, q⟩ := h
  cases x with
  | non =>
    cases rx
    cases y with
    | non => cases ry; exact PySem.EqNone.ne_none_none (fin_bl I q (by simp))
    | bl j => cases ry; exact PySem.EqNone.ne_none_bool (fin_bl I q (by simp))
    | int j => obtain ⟨t', rfl⟩ := ry; exact PySem.EqNone.ne_none_int (fin_bl I q (by simp))
    | str j => obtain ⟨t', rfl⟩ := ry; exact PySem.EqNone.ne_none_str (fin_bl I q (by simp))
    | _ => exact absurd (show false = true from hs) Bool.false_ne_true
  | bl i =>
    cases rx
    cases y with
    | non => cases ry; exact PySem.EqNone.ne_bool_none (fin_bl I q (by simp))
    | bl j => cases ry; exact ne_bool (fin_bl I q (congrArg not dec_bl))
    | str j => obtain ⟨t', rfl⟩ := ry; exact PySem.EqMixed.ne_bool_str (fin_bl I q (by simp))
    | _ => exact absurd (show false = true from hs) Bool.false_ne_true
  | int i =>
    obtain ⟨t, rfl⟩ := rx
    cases y with
    | non => cases ry; exact PySem.EqNone.ne_int_none (fin_bl I q (by simp))
    | int j => obtain ⟨t', rfl⟩ := ry; exact ne_int (fin_bl I q (congrArg not dec_int))
    | str j => obtain ⟨t', rfl⟩ := ry; exact PySem.EqMixed.ne_int_str (fin_bl I q (by simp))
    | _ => exact absurd (show false = true from hs) Bool.false_ne_true
  | str i =>
    obtain ⟨t, rfl⟩ := rx
    cases y with
    | non => cases ry; exact PySem.EqNone.ne_str_none (fin_bl I q (by simp))
    | bl j => cases ry; exact PySem.EqMixed.ne_str_bool (fin_bl I q (by simp))
    | int j => obtain ⟨t', rfl⟩ := ry; exact PySem.EqMixed.ne_str_int (fin_bl I q (by simp))
    | str j => obtain ⟨t', rfl⟩ := ry; exact ne_str (fin_bl I q (congrArg not dec_str))
    | _ => exact absurd (show false = true from hs) Bool.false_ne_true
  | byt i =>
    obtain ⟨t, rfl⟩ := rx
    cases y with
    | byt j => obtain ⟨t', rfl⟩ := ry; exact PySem.W.ne_bytes (fin_bl I q (congrArg not dec_byt))
    | _ => exact absurd (show false = true from hs) Bool.false_ne_true
  | _ => cases y <;> exact absurd (show false = true from hs) Bool.false_ne_true

theorem op_lt : OpR X (compareOp .Lt) (rI0 fun i j => .bl (decide (i < j))) := opB0 fun _ _ _ _ _ _ _ q => lt_int q
theorem op_le : OpR X (compareOp .LtE) (rI0 fun i j => .bl (decide (i ≤ j))) := opB0 fun _ _ _ _ _ _ _ q => le_int q
theorem op_gt : OpR X (compareOp .Gt) (rI0 fun i j => .bl (decide (j < i))) := opB0 fun _ _ _ _ _ _ _ q => gt_int q
theorem op_ge : OpR X (compareOp .GtE) (rI0 fun i j => .bl (decide (j ≤ i))) := opB0 fun _ _ _ _ _ _ _ q => ge_int q
theorem op_isN : OpR X (compareOp .Is) (fun x y H Q => y = .non ∧ Q (.bl (decide (x = .non))) H) := by
  intro pins s σ H x y v u Q I rx ry h
  obtain ⟨rfl, q⟩ := h
  cases ry
  refine is_none_gen (fin_bl I q ?_)
  cases x <;> first
    | (cases rx; rfl)
    | (obtain ⟨t, rfl⟩ := rx; rfl)
theorem op_notN : OpR X (compareOp .IsNot) (fun x y H Q => y = .non ∧ Q (.bl (!decide (x = .non))) H) := by
  intro pins s σ H x y v u Q I rx ry h
  obtain ⟨rfl, q⟩ := h
  cases ry
  refine isnot_none_gen (fin_bl I q ?_)
  cases x <;> first
    | (cases rx; rfl)
    | (obtain ⟨t, rfl⟩ := rx; rfl)

theorem nomark (b : Expr) {op : CmpOp} (h : op ≠ .In := by decide) (h2 : op ≠ .NotIn := by decide) : behindInMarks op b = false := by
  have e1 : (op == CmpOp.In) = false := by cases op <;> first | rfl | exact absurd rfl h
  have e2 : (op == CmpOp.NotIn) = false := by cases op <;> first | rfl | exact absurd rfl h2
  cases b <;> simp [behindInMarks, e1, e2]
theorem pe_cmpR {op : CmpOp} {r : R2} (ho : OpR X (compareOp op) r) (ha : PE X a ta) (hb : PE X b tb) (hm : behindInMarks op b = false) : PE X (.Compare a [op] [b] pos) (tOp r ta tb) := by
  intro pins s σ H Q I h
  exact wpAny_Compare1 (binT ha hb I h fun v u s2 x y H2 I2 rx ry q => ho pins s2 σ H2 x y v u Q I2 rx ry q) hm
noncomputable def tTest (t : TE) : TT := fun σ H Q => t σ H fun x H' => ∃ k, x = .bl k ∧ Q k H'
theorem pt_cmpR {op : CmpOp} {r : R2} (ho : OpR X (compareOp op) r) (ha : PE X a ta) (hb : PE X b tb) (hm : behindInMarks op b = false) : PT X (.Compare a [op] [b] pos) (tTest (tOp r ta tb)) := by
  intro pins s σ H Q I h
  refine wpAny_isTrue_Compare1 (thn (ha pins s σ H _ I h) fun v s1 ⟨x, H1, I1, r1, q1⟩ => thn (hb pins s1 σ H1 _ I1 q1) fun u s2 ⟨y, H2, I2, r2, q2⟩ =>
    thn (ho pins s2 σ H2 x y v u _ I2 r1 r2 q2) fun c s3 ⟨z, H3, I3, r3, k, e, q3⟩ => ?_) hm
  subst e
  cases r3
  exact wpAny_truthy_bool ⟨H3, I3, q3⟩
noncomputable def tChain (r r' : R2) (ta tb tc : TE) : TE := fun σ H Q => ta σ H fun x H1 => tb σ H1 fun y H2 => r x y H2 fun z H3 => ∃ k, z = .bl k ∧
  (if k = true then tc σ H3 fun w' H4 => r' y w' H4 Q else Q (.bl false) H3)
theorem pe_chain {op op' : CmpOp} {r r' : R2} (ho : OpR X (compareOp op) r) (ho' : OpR X (compareOp op') r') (ha : PE X a ta) (hb : PE X b tb) (hc : PE X c tc)
    (hm : lastMarks [op, op'] [b, c] = false := by with_unfolding_all rfl) : PE X (.Compare a [op, op'] [b, c] pos) (tChain r r' ta tb tc) := by
  intro pins s σ H Q I h
  refine Compare_chain (thn (ha pins s σ H _ I h) fun v s1 ⟨x, H1, I1, r1, q1⟩ => chain_link (thn (hb pins s1 σ H1 _ I1 q1) fun u s2 ⟨y, H2, I2, r2, q2⟩ =>
    thn (ho pins s2 σ H2 x y v u _ I2 r1 r2 q2) fun d s3 ⟨z, H3, I3, r3, k, e, q3⟩ => ?_)) hm
  subst e
  cases r3
  refine wpAny_truthy_bool ?_
  cases k with
  | false => exact ite_ff ⟨.bl false, H3, I3, rfl, q3⟩
  | true => exact ite_tt (chain_last (thn (hc pins s3 σ H3 _ I3 q3) fun w' s4 ⟨z', H4, I4, r4, q4⟩ => ho' pins s4 σ H4 y z' u w' Q I4 r2 r4 q4))
noncomputable def TruV (K : PySem.W.Frag) (x : V) (H : Hp) (k : Bool) : Prop :=
  match x with
  | .non => k = false
  | .bl b => k = b
  | .int i => k = (i != 0)
  | .str y => y.length ≤ sizeLine ∧ k = ((y.length : Int) != 0)
  | .byt y => y.size ≤ sizeLine ∧ k = ((y.size : Int) != 0)
  | .ref p => (∃ xs, SqL K H p xs ∧ k = !xs.isEmpty) ∨ (∃ xs, SqT K H p xs ∧ k = !xs.isEmpty) ∨ ∃ kvs, H p = some (.dK kvs) ∧ k = !kvs.isEmpty
  | _ => False
theorem isEmpty_kv {κ : Type} {kvs : List (κ × V)} {vs : List (κ × Value)} (r : KV kvs vs) : (!vs.isEmpty) = !kvs.isEmpty := by
  cases r <;> rfl
theorem isEmpty_of {xs : List V} {its : List Value} (r : Vals xs its) : (!its.toArray.isEmpty) = !xs.isEmpty := by
  cases r <;> simp
theorem line63 : (sizeLine : Nat) < 2 ^ 63 := by rw [sizeLine_eq]; decide
theorem tru_ok : TruR X (fun x H Q => ∃ k, TruV X.K x H k ∧ Q k H) := by
  intro pins s σ H x v Q I rx h
  obtain ⟨k, e, q⟩ := h
  have hl := line63
  have hs : sizeLine = 16777216 := sizeLine_eq
  cases x with
  | non =>
    cases rx
    have e' : k = false := e
    subst e'
    exact truthy_none ⟨H, I, q⟩
  | bl b =>
    cases rx
    have e' : k = b := e
    subst e'
    exact wpAny_truthy_bool ⟨H, I, q⟩
  | int i =>
    obtain ⟨t, rfl⟩ := rx
    have e' : k = (i != 0) := e
    subst e'
    exact PySem.P.truthy_int ⟨H, I, q⟩
  | str y =>
    obtain ⟨t, rfl⟩ := rx
    obtain ⟨hy, e'⟩ : y.length ≤ sizeLine ∧ k = ((y.length : Int) != 0) := e
    subst e'
    exact PySem.P.truthy_str (by omega) ⟨H, I.tok _, q⟩
  | byt y =>
    obtain ⟨t, rfl⟩ := rx
    obtain ⟨hy, e'⟩ : y.size ≤ sizeLine ∧ k = ((y.size : Int) != 0) := e
    subst e'
    exact PySem.W.truthy_bytes (by omega) ⟨H, I.tok _, q⟩
  | ref p =>
    cases rx
    have e' : (∃ xs, SqL X.K H p xs ∧ k = !xs.isEmpty) ∨ (∃ xs, SqT X.K H p xs ∧ k = !xs.isEmpty) ∨ ∃ kvs, H p = some (.dK kvs) ∧ k = !kvs.isEmpty := e
    rcases e' with ⟨xs, hx, e'⟩ | ⟨xs, hx, e'⟩ | ⟨kvs, hx, e'⟩
    · subst e'
      obtain ⟨its, r, pl, hz⟩ := I.list hx
      have hlen := r.length
      exact wpAny_truthy_list pl.isList (by simp only [List.size_toArray]; omega) ⟨H, I.tok _, by rw [isEmpty_of r]; exact q⟩
    · subst e'
      obtain ⟨its, r, pl, hz⟩ := I.tuple hx
      have hlen := r.length
      exact truthy_tuple pl (by simp only [List.size_toArray]; omega) ⟨H, I.tok _, by rw [isEmpty_of r]; exact q⟩
    · subst e'
      obtain ⟨hz, hS, vs, r, m⟩ : kvs.length ≤ sizeLine ∧ (p == sysModules) = false ∧ ∃ vs, KV kvs vs ∧ s.heap.DictOf (mixKind X.prog X.w) p vs := I.hok p _ hx
      have hlen : kvs.length = vs.length := Paired.length r
      exact wpAny_truthy_dict hS m (by omega) ⟨H, I.tok _, by rw [isEmpty_kv r]; exact q⟩
  | _ => exact (show False from e).elim
theorem pt_truth (ha : PE X a ta) (he : ∀ whole, isTrue a X.env whole = (do let v ← whole; standAt a.pos; holding [v] (truthy v))) :
    PT X a (fun σ H Q => ta σ H fun x H' => ∃ k, TruV X.K x H' k ∧ Q k H') := by
  intro pins s σ H Q I h
  exact isTrue_plain (thn (ha pins s σ H _ I h) fun v s1 ⟨x, H1, I1, r1, q1⟩ => tru_ok pins s1 σ H1 x v Q I1 r1 q1) (he _)

theorem op_add_str : OpR X (binaryOp .Add) (fun x y H Q => ∃ i j, x = .str i ∧ y = .str j ∧ i.length + j.length ≤ sizeLine ∧ Q (.str (i ++ j)) H) := by
  intro pins s σ H x y v u Q I rx ry h
  obtain ⟨i, j, rfl, rfl, hz, q⟩ := h
  obtain ⟨t, rfl⟩ := rx
  obtain ⟨t', rfl⟩ := ry
  exact add_str (fun t' tk => ⟨.str (i ++ j), H, I.tok _, ⟨_, rfl⟩, q⟩) hz
theorem vals1 {x : V} {us : List Value} (r : Vals [x] us) : ∃ u, us = [u] ∧ RelV x u := by
  cases r with
  | cons r1 r2 => cases r2; exact ⟨_, rfl, r1⟩
theorem vals2 {x y : V} {us : List Value} (r : Vals [x, y] us) : ∃ u w', us = [u, w'] ∧ RelV x u ∧ RelV y w' := by
  cases r with
  | cons r1 r2 =>
    cases r2 with
    | cons r3 r4 => cases r4; exact ⟨_, _, rfl, r1, r3⟩
theorem call_max2 (hc : X.calm = true) : CallR X (.builtin "max") (fun xs H Q => ∃ i j, xs = [.int i, .int j] ∧ Q (.int (if j > i then j else i)) H) := by
  intro pins s σ H xs us Q I r h
  obtain ⟨i, j, rfl, q⟩ := h
  obtain ⟨u, w', rfl, ⟨t, rfl⟩, ⟨t', rfl⟩⟩ := vals2 r
  refine max_two_ints (I.ok.hd hc) fun h' tk k => ⟨_, H, I.kept k, ?_, q⟩
  by_cases hj : j > i
  · rw [if_pos hj, if_pos hj]; exact ⟨_, rfl⟩
  · rw [if_neg hj, if_neg hj]; exact ⟨_, rfl⟩
theorem call_min2 (hc : X.calm = true) : CallR X (.builtin "min") (fun xs H Q => ∃ i j, xs = [.int i, .int j] ∧ Q (.int (if j < i then j else i)) H) := by
  intro pins s σ H xs us Q I r h
  obtain ⟨i, j, rfl, q⟩ := h
  obtain ⟨u, w', rfl, ⟨t, rfl⟩, ⟨t', rfl⟩⟩ := vals2 r
  refine min_two_ints (I.ok.hd hc) fun h' tk k => ⟨_, H, I.kept k, ?_, q⟩
  by_cases hj : j < i
  · rw [if_pos hj, if_pos hj]; exact ⟨_, rfl⟩
  · rw [if_neg hj, if_neg hj]; exact ⟨_, rfl⟩
theorem call_str_int : CallR X (.type "str") (fun xs H Q => ∃ i, xs = [.int i] ∧ i.natAbs.log2 < 1920 ∧ Q (.str (toString i)) H) := by
  intro pins s σ H xs us Q I r h
  obtain ⟨i, rfl, hz, q⟩ := h
  obtain ⟨u, rfl, t, rfl⟩ := vals1 r
  exact PySem.P.str_of_int hz ⟨.str _, H, I.tok _, ⟨_, rfl⟩, q⟩
end
end L2

namespace L2
open PySem PySem.Spec PyProof.Rows

structure ObjM (h : Heap) (x dx C : Addr) (mA : Str → Option Value) : Prop where
  obj : h.get? x = some (PySem.W.instObj C dx)
  ns : h.Ns1 dx mA
  ne : dx ≠ x

theorem lookIn_ns {h : Heap} {dx : Addr} {mA : Str → Option Value} (n : h.Ns1 dx mA) : ∃ od, h.get? dx = some od ∧ ∀ name, PySem.W.lookIn name od = some (mA name) := by
  obtain ⟨o, es, ep, ho, hd, hk, _, hm⟩ := n
  refine ⟨o, ho, fun name => ?_⟩
  have e := hm name
  unfold nsFind findBy at e
  rw [← Array.find?_toList] at e
  unfold PySem.W.lookIn
  rw [hd]
  dsimp only
  split
  · rename_i y q
    rw [q] at e
    exact congrArg some e
  · rename_i q
    rw [q] at e
    have a : es.toList.any (·.refKey) = false := by
      rw [List.any_eq_false]
      intro y hy
      obtain ⟨z, t, hkey⟩ := hk y (Array.mem_toList_iff.mp hy)
      simp [DictEntry.refKey, hkey]
    have a' : ¬ es.toList.any (·.refKey) = true := by rw [a]; exact Bool.false_ne_true
    rw [if_neg a']
    exact congrArg some e

theorem ObjM.look {h : Heap} {x dx C : Addr} {mA : Str → Option Value} (I : ObjM h x dx C mA) : ∃ od, PySem.W.InstAt h x (PySem.W.instObj C dx) C (some od) ∧ ∀ name, PySem.W.lookIn name od = some (mA name) :=
  let ⟨od, ho, hl⟩ := lookIn_ns I.ns
  ⟨od, ⟨I.obj, rfl, rfl, ho⟩, hl⟩

section
variable {prog : Program} {w : World} {A : Around} {E : Value → Shared → Prop} {s : Shared} {K : PySem.W.Frag} {x dx C f : Addr} {mA : Str → Option Value} {name : Str} {v : Value}

end

theorem handed_of {v : V} {u : Value} (r : RelV v u) : PySem.W.handedIn u = true := by
  cases v with
  | non => cases (show u = Value.none from r); rfl
  | bl b => cases (show u = Value.bool b from r); rfl
  | int i => obtain ⟨t, e⟩ := (show ∃ t, u = Value.int i t from r); cases e; rfl
  | str x => obtain ⟨t, e⟩ := (show ∃ t, u = Value.str x t from r); cases e; rfl
  | byt b => obtain ⟨t, e⟩ := (show ∃ t, u = Value.bytes b t from r); cases e; rfl
  | flt b => obtain ⟨t, e⟩ := (show ∃ t, u = Value.float b t from r); cases e; rfl
  | ref a => cases (show u = Value.ref a from r); rfl
  | ty n => cases (show u = Value.type n from r); rfl

section
variable {P : Program} {w : World} {H H' : Hp} {h h' : Heap} {a C dx : Addr} {fs fs' : List (Str × V)}
end

structure Cls (K : PySem.W.Frag) (C : Addr) : Prop where
  pg : PySem.W.plainGet K C Str.empty = true
  hd : PySem.W.hasDictIn K C = true
  po : PySem.W.plainOver K C = true
  sa : PySem.W.findIn K (.ref C) "__setattr__" = some (some (.builtin "object.__setattr__"))
theorem Cls.get {K : PySem.W.Frag} {C : Addr} (c : Cls K C) (f : Str) : PySem.W.plainGet K C f = true := c.pg
noncomputable def NoAttr (K : PySem.W.Frag) (C : Addr) (f : Str) : Prop := PySem.W.findIn K (.ref C) f = some none
structure Con (K : PySem.W.Frag) (C : Addr) (f : Str) (v : V) (u : Value) : Prop where
  at_ : PySem.W.findIn K (.ref C) f = some (some u)
  rel : RelV v u
  get : PySem.W.specialIn K u "__get__" = some none
  cp : PySem.W.copiedNames.contains f = false
structure Meth (K : PySem.W.Frag) (C : Addr) (m : Str) (f : Addr) : Prop where
  at_ : PySem.W.findIn K (.ref C) m = some (some (.ref f))
  fn : PySem.W.isFn K (.ref f) = true
  kp : PySem.W.keepIn K (.ref f) = true

section
variable {X : Cx} {pins : List (Addr × Obj)} {σ : St} {H : Hp} {s : Shared} {a C dx : Addr} {fs : List (Str × V)} {f : Str} {v : V} {A : Around} {E : Value → Shared → Prop}

theorem Inv.made (I : Inv X pins σ H s) : Inv X pins σ (upd (upd H s.heap.objs.size (.own (s.heap.objs.size + 1))) (s.heap.objs.size + 1) (.ins C s.heap.objs.size []))
    { s with heap := (s.heap.push PySem.W.emptyDict).push (PySem.W.instObj C s.heap.objs.size) } := by
  have e1 : (s.heap.push PySem.W.emptyDict).get? s.heap.objs.size = some PySem.W.emptyDict := Heap.get?_push_size s.heap rfl
  have e2 : ((s.heap.push PySem.W.emptyDict).push (PySem.W.instObj C s.heap.objs.size)).get? (s.heap.objs.size + 1) = some (PySem.W.instObj C s.heap.objs.size) := by
    have := Heap.get?_push_size (s.heap.push PySem.W.emptyDict) (o := PySem.W.instObj C s.heap.objs.size) rfl
    rwa [Heap.size_push] at this
  have e3 : (s.heap.push PySem.W.emptyDict).Ns s.heap.objs.size (fun _ => none) := ⟨PySem.W.emptyDict, #[], _, e1, rfl, (fun e he => absurd he (by simp)), fun _ => rfl⟩
  have I1 := I.laid (a := s.heap.objs.size) (o := .own (s.heap.objs.size + 1)) (h' := s.heap.push PySem.W.emptyDict) (t' := s.toks) (fun b u q => Heap.get?_push_of_some _ q) (Nat.le_refl _) ⟨_, e1⟩
  refine I1.laid (a := s.heap.objs.size + 1) (o := .ins C s.heap.objs.size []) (t' := s.toks) (fun b u q => Heap.get?_push_of_some _ q) (Nat.le_of_eq (Heap.size_push _ _)) ?_
  have ne : s.heap.objs.size ≠ s.heap.objs.size + 1 := Nat.ne_of_lt (Nat.lt_succ_self _)
  refine ⟨by rw [upd_ne ne, upd_same], Nat.zero_le _, ne, e2, fun _ => none, (Heap.Ns1.of_empty e3).at fun o q => Heap.get?_push_of_some _ q, fun _ => True.intro, fun y hy => absurd rfl hy⟩

theorem attr_of {prog : Program} {w : World} {env : Env} {e : Expr} {f : Str} {pos : Pos} {s : Shared} {Q : Value → Shared → Prop} (hb : attributeBase e f env (eval e env) = eval e env)
    (h : wpAny (model prog w) A (eval e env) (fun o s₁ => wpAny (model prog w) A (getAttr o f true) Q E s₁) E s) : wpAny (model prog w) A (eval (.Attribute e f pos) env) Q E s :=
  Attribute_any_ h (by rw [arm_eval_Attribute, hb])
end

section
variable {X : Cx} {o e value : Expr} {f : Str} {pos pos' tpos : Pos} {ta tv : TE}
end

section
variable {X : Cx} {pins : List (Addr × Obj)} {σ : St} {H : Hp} {s : Shared} {A : Around} {E : Value → Shared → Prop} {Q : Value → Shared → Prop} {c : Value} {b : Bool}
inductive TyOf (K : PySem.W.Frag) (H : Hp) : V → Value → Prop where
  | non : TyOf K H .non (.type "NoneType")
  | bl (x : Bool) : TyOf K H (.bl x) (.type "bool")
  | int (i : Int) : TyOf K H (.int i) (.type "int")
  | str (x : Str) : TyOf K H (.str x) (.type "str")
  | flt (x : UInt64) : TyOf K H (.flt x) (.type "float")
  | lst {a : Addr} {xs : List V} (e : H a = some (.lst xs)) : TyOf K H (.ref a) (.type "list")
  | frz {a : Addr} {o : Obj} {xs : List V} (e : H a = some (.frz o (.lst xs))) : TyOf K H (.ref a) (.type "list")
  | tup {a : Addr} {xs : List V} (e : H a = some (.tup xs)) : TyOf K H (.ref a) (.type "tuple")
  | dK {a : Addr} {kvs : List (Key × V)} (e : H a = some (.dK kvs)) : TyOf K H (.ref a) (.type "dict")
  | dT {a : Addr} {kvs : List (List Key × V)} (e : H a = some (.dT kvs)) : TyOf K H (.ref a) (.type "dict")
  | ins {a C dx : Addr} {fs : List (Str × V)} (e : H a = some (.ins C dx fs)) (cl : Cls K C) (ha : PySem.W.findIn K (.ref C) "__class__" = some (some (.builtin "object.__class__")))
      (hn : PySem.W.specialIn K (.builtin "object.__class__") "__get__" = some (some (.builtin "getset_descriptor.__get__"))) (htk : PySem.W.takesIn K (.builtin "object.__class__") = some true)
      (hm : PySem.W.mroIn K C (.type "object") = some true) : TyOf K H (.ref a) (.ref C)
end
end L2

namespace L2
open PySem PySem.Spec PyProof.Rows

structure Room (k : Nat) (A : Around) : Prop where
  hd : A.handled = none
  dp : A.depth + 3 * k + 5 < recursionLimit
  un : A.units + 16 * k + 200 < cLine
theorem Room.mono {j k : Nat} {A : Around} (r : Room k A) (h : j ≤ k) : Room j A := ⟨r.hd, by have := r.dp; omega, by have := r.un; omega⟩
theorem Room.deeper {k : Nat} {A : Around} (r : Room (k + 1) A) (env : Env) : Room k (A.deeper env) :=
  ⟨r.hd, by have := r.dp; show A.depth + 1 + 3 * k + 5 < _; omega, by have := r.un; show A.units + 3 + 16 * k + 200 < _; omega⟩
theorem Room.in1 {k : Nat} {A : Around} (r : Room (k + 1) A) : Room k A.in1 :=
  ⟨r.hd, by have := r.dp; show A.depth + 3 * k + 5 < _; omega, by have := r.un; show A.units + 1 + 16 * k + 200 < _; omega⟩
theorem make_depth {A : Around} {C : Addr} {us : List Value} {kw : List (Str × Value)} : (A.under (.builtin "type.__call__" ⟨.ref C :: us, kw⟩)).depth = A.depth + 1 := by
  first | rfl | simp [Around.under, Code.weight, Code.isCreation, Code.isGuard, Code.isCaller, Code.frames, Code.isFrame, guardIds]
theorem make_units {A : Around} {C : Addr} {us : List Value} {kw : List (Str × Value)} : (A.under (.builtin "type.__call__" ⟨.ref C :: us, kw⟩)).units = A.units + 1 := by
  first | rfl | simp [Around.under, Code.cUnits, Code.frames, Code.isFrame]
theorem Room.make {k : Nat} {A : Around} (r : Room (k + 1) A) (C : Addr) (us : List Value) (kw : List (Str × Value)) : Room k (A.under (.builtin "type.__call__" ⟨.ref C :: us, kw⟩)) :=
  ⟨r.hd, by have := r.dp; rw [make_depth]; omega, by have := r.un; rw [make_units]; omega⟩
theorem Room.depth {k : Nat} {A : Around} (r : Room k A) : A.depth < recursionLimit := by have := r.dp; omega
theorem Room.units {k : Nat} {A : Around} (r : Room k A) : A.units + 64 < cLine := by have := r.un; omega
noncomputable def tNil : TA := fun _ H Q => Q [] H
noncomputable def tCons (ta : TE) (tr : TA) : TA := fun σ H Q => ta σ H fun x H1 => tr σ H1 fun xs H2 => Q (x :: xs) H2
section
variable {X : Cx} {e : Expr} {es : List Expr} {te : TE} {t : TA} {pos : Pos}
theorem pa_nil : PA X [] tNil := fun _ _ _ _ H Q I h => Calls.spliced_nil ⟨[], H, I, .nil, h⟩
theorem pa_cons (ha : PE X e te) (hr : PA X es t) (hs : starEach (e :: es) X.env = (false, eval e X.env) :: starEach es X.env := by rfl) : PA X (e :: es) (tCons te t) := by
  intro pos pins s σ H Q I h
  rw [hs]
  show wpAny _ _ (spliced ((false, eval e X.env) :: backTo pos (starEach es X.env))) _ _ s
  refine Calls.spliced_cons (thn (ha pins s σ H _ I h) fun u s1 ⟨x, H1, I1, r1, q1⟩ => ?_)
  exact thn (hr pos pins s1 σ H1 _ I1 q1) fun us s2 ⟨xs, H2, I2, r2, q2⟩ => ⟨x :: xs, H2, I2, .cons r1 r2, q2⟩

noncomputable def tTup (t : TA) : TE := fun σ H Q => t σ H fun xs H1 => xs.length ≤ sizeLine ∧ ∀ p, H1 p = none → Q (.ref p) (upd H1 p (.tup xs))
noncomputable def tLst (t : TA) : TE := fun σ H Q => t σ H fun xs H1 => xs.length ≤ sizeLine ∧ ∀ p, H1 p = none → Q (.ref p) (upd H1 p (.lst xs))
theorem pe_tup {x1} (h : PA X es t) : PE X (.Tuple es x1 pos) (tTup t) := by
  intro pins s σ H Q I hq
  refine wpAny_Tuple_spliced (thn (h pos pins s σ H _ I hq) fun us s1 ⟨xs, H1, I1, r, z, q⟩ => ⟨by rw [← r.length]; exact z, ?_⟩)
  have hf : H1 s1.heap.objs.size = none := I1.hok.fresh (Nat.le_refl _)
  refine ⟨.ref s1.heap.objs.size, upd H1 s1.heap.objs.size (.tup xs), I1.laid (t' := s1.toks) (fun b u e => Heap.get?_push_of_some _ e) (Nat.le_refl _) ?_, rfl, q _ hf⟩
  exact ⟨z, us, r, ⟨_, Heap.get?_push_size _ rfl, rfl, _, rfl⟩⟩
theorem pe_lst (h : PA X es t) : PE X (.List es pos) (tLst t) := by
  intro pins s σ H Q I hq
  refine wpAny_List_spliced (thn (h pos pins s σ H _ I hq) fun us s1 ⟨xs, H1, I1, r, z, q⟩ => ⟨by rw [← r.length]; exact z, ?_⟩)
  have hf : H1 s1.heap.objs.size = none := I1.hok.fresh (Nat.le_refl _)
  refine ⟨.ref s1.heap.objs.size, upd H1 s1.heap.objs.size (.lst xs), I1.laid (t' := s1.toks) (fun b u e => Heap.get?_push_of_some _ e) (Nat.le_refl _) ?_, rfl, q _ hf⟩
  exact ⟨z, us, 0, r, Heap.get?_push_size _ rfl⟩
end

noncomputable abbrev Sp := List V → Hp → VK → XK → Prop
noncomputable abbrev CXT := List Env → Hp → Shared → XK → Value → Shared → Prop

structure Env0 (P : Program) (w : World) (K : PySem.W.Frag) (mg : Str → Option Value) (base : Heap) (A : Around) (outer : List Env) (s : Shared) (H : Hp) : Prop where
  frames : A.frames = some outer
  mod : Mod K mg base
  bs : ∀ b o, base.get? b = some o → s.heap.get? b = some o ∧ H b = none
  bsz : base.objs.size ≤ s.heap.objs.size
  funs : s.heap.FunFrames base outer
  frf : ∀ b ∈ frs outer, H b = none
  hok : HOk P w H s.heap
  bare : AllBare s.gens
noncomputable def CE (outer : List Env) (P : Program) (w : World) (H : Hp) (s : Shared) (Q : VK) (u : Value) (s' : Shared) : Prop :=
  ∃ v H', s'.os = s.os ∧ AllBare s'.gens ∧ Un (frs outer) [] H H' s.heap s'.heap ∧ HOk P w H' s'.heap ∧ RelV v u ∧ Q v H'
noncomputable def CR (CX : CXT) (outer : List Env) (P : Program) (w : World) (H : Hp) (s : Shared) (Q : VK) (E : XK) (r : Result) (s' : Shared) : Prop :=
  match r with
  | .ok (.ret u) => CE outer P w H s Q u s'
  | .ok _ => False
  | .error e => CX outer H s E e s'
structure FnOk (P : Program) (w : World) (K : PySem.W.Frag) (mg : Str → Option Value) (base : Heap) (CX : CXT) (k : Nat) (f : Addr) (fd : FuncData) (ps : List Str) (sp : Sp) : Prop where
  len : ∀ vs H Q E, sp vs H Q E → vs.length = ps.length
  run : ∀ (A : Around) (outer : List Env) (s : Shared) (H : Hp) (args : Args) (us : List Value) (vs : List V) (Q : VK) (E : XK), Room k A → Env0 P w K mg base A outer s H → BindsTo s fd args (ps.zip us) → Vals vs us → sp vs H Q E →
    codeAny (model P w) A (.call (.ref f) args) (CR CX outer P w H s Q E) s
theorem FnOk.mono {P : Program} {w : World} {K : PySem.W.Frag} {mg : Str → Option Value} {base : Heap} {CX : CXT} {j k : Nat} {f : Addr} {fd : FuncData} {ps : List Str} {sp : Sp} (F : FnOk P w K mg base CX j f fd ps sp) (h : j ≤ k) :
    FnOk P w K mg base CX k f fd ps sp := ⟨F.len, fun A outer s H args us vs Q E hr => F.run A outer s H args us vs Q E (hr.mono h)⟩
theorem FnOk.imp {P : Program} {w : World} {K : PySem.W.Frag} {mg : Str → Option Value} {base : Heap} {CX : CXT} {k : Nat} {f : Addr} {fd : FuncData} {ps : List Str} {sp sp' : Sp} (F : FnOk P w K mg base CX k f fd ps sp)
    (h : ∀ vs H Q E, sp' vs H Q E → sp vs H Q E) : FnOk P w K mg base CX k f fd ps sp' :=
  ⟨fun vs H Q E q => F.len vs H Q E (h _ _ _ _ q), fun A outer s H args us vs Q E hr he hb hv hs => F.run A outer s H args us vs Q E hr he hb hv (h _ _ _ _ hs)⟩

theorem Env0.make {P : Program} {w : World} {K : PySem.W.Frag} {mg : Str → Option Value} {base : Heap} {A : Around} {outer : List Env} {s : Shared} {H : Hp} (e : Env0 P w K mg base A outer s H) (C : Addr) (us : List Value) (kw : List (Str × Value)) :
    Env0 P w K mg base (A.under (.builtin "type.__call__" ⟨.ref C :: us, kw⟩)) outer s H := ⟨by first | exact e.frames | (simpa [Around.under, Code.envs, Code.isFrame, pushEnvs] using e.frames), e.mod, e.bs, e.bsz, e.funs, e.frf, e.hok, e.bare⟩
theorem Env0.in1 {P : Program} {w : World} {K : PySem.W.Frag} {mg : Str → Option Value} {base : Heap} {A : Around} {outer : List Env} {s : Shared} {H : Hp} (e : Env0 P w K mg base A outer s H) :
    Env0 P w K mg base A.in1 outer s H := ⟨e.frames, e.mod, e.bs, e.bsz, e.funs, e.frf, e.hok, e.bare⟩

section
variable {X : Cx} {pins : List (Addr × Obj)} {σ : St} {H : Hp} {s s' : Shared}
theorem Inv.env0 (I : Inv X pins σ H s) : Env0 X.prog X.w X.K X.mg X.base X.A X.stack s H :=
  ⟨I.ok.frames, I.ok.mod, I.bs, Nat.le_trans I.ok.bsz I.sz, I.stack, I.stkFree, I.hok, I.bare⟩
theorem Inv.after {Q : VK} {u : Value} (I : Inv X pins σ H s) (h : CE X.stack X.prog X.w H s Q u s') : EP X pins σ Q u s' := by
  obtain ⟨v, H', os, bare, un, hok, r, q⟩ := h
  obtain ⟨hh, g, d, t, os'⟩ := s'
  obtain rfl : os' = s.os := os
  exact ⟨v, H', I.call (h' := hh) (g' := g) (d' := d) (t' := t) (ch := []) un hok bare (fun b z => absurd z (by simp)), r, q⟩
end

noncomputable def Binds (K : PySem.W.Frag) (fd : FuncData) (ps : List Str) (ds : List Value) : Prop :=
  ∀ (s : Shared) (us : List Value), K.In s.heap → (us ++ ds).length = ps.length → BindsTo s fd ⟨us, []⟩ (ps.zip (us ++ ds))
theorem Binds.all {K : PySem.W.Frag} {fd : FuncData} {ps : List Str} (h : ∀ us : List Value, us.length = ps.length → bindArgs fd ⟨us, []⟩ = pure (ps.zip us)) : Binds K fd ps [] := fun s us _ hl => by
  rw [List.append_nil] at hl ⊢
  exact .of_eq (h us hl)

section
variable {X : Cx} {CX : CXT} {k : Nat} {f C : Addr} {fd : FuncData} {ps : List Str} {sp : Sp} {dvs : List V} {ds : List Value} {E : XK} {x m : Str} {p pos apos : Pos} {e o : Expr} {es : List Expr} {ta : TE} {t : TA}

structure Mk (K : PySem.W.Frag) (C f : Addr) : Prop where
  makes : PySem.W.makesIn K C = true
  init : PySem.W.findIn K (.ref C) "__init__" = some (some (.ref f))
  fn : PySem.W.isFn K (.ref f) = true
  kp : PySem.W.keepIn K (.ref C) = true

end

section
variable {X : Cx} {CX : CXT} {k : Nat} {f C : Addr} {fd : FuncData} {ps ks : List Str} {sp : Sp} {E : XK} {x m : Str} {p pos apos kpos : Pos} {e o : Expr} {es : List Expr} {kws : List Keyword} {te ta : TE} {t tk : TA} {nm : Option Str}
structure KBinds (K : PySem.W.Frag) (fd : FuncData) (ps ks : List Str) (g : List Value → List Value → List Value) (gV : List V → List V → List V) : Prop where
  to : ∀ (s : Shared) (us ws : List Value), K.In s.heap → (g us ws).length = ps.length → BindsTo s fd ⟨us, ks.zip ws⟩ (ps.zip (g us ws))
  rel : ∀ {vs : List V} {us : List Value} {zs : List V} {ws : List Value}, Vals vs us → Vals zs ws → Vals (gV vs zs) (g us ws)
variable {g : List Value → List Value → List Value} {gV : List V → List V → List V}
end

structure FnScope (N P : List Str) (sc : Scope) : Prop where
  kind : sc.kind = .function
  co : sc.isCoroutine = false
  gen : sc.isGenerator = false
  nd : N.Nodup
  pre : N.take P.length = P
  par : ∀ x ∈ P, sc.names.lookup x = some .local ∨ sc.names.lookup x = some .cell
  nofree : ∀ y ∈ sc.names, y.2 ≠ .free

theorem bindL_out {kindOf : Str → Option NameKind} {x : Str} : ∀ {binds : List (Str × Value)} {m : Str → Option Value}, (∀ v, (x, v) ∉ binds) → bindL kindOf binds m x = m x
  | [], _, _ => rfl
  | (n, v) :: r, m, h => by
    unfold bindL
    rw [bindL_out fun w hw => h w (List.mem_cons_of_mem _ hw)]
    split
    · have : x ≠ n := by rintro rfl; exact h v List.mem_cons_self
      simp [this]
    · rfl
theorem bindC_out {kindOf : Str → Option NameKind} {x : Str} : ∀ {binds : List (Str × Value)} {m : Str → Option Value}, (∀ v, (x, v) ∉ binds) → bindC kindOf binds m x = m x
  | [], _, _ => rfl
  | (n, v) :: r, m, h => by
    unfold bindC
    rw [bindC_out fun w hw => h w (List.mem_cons_of_mem _ hw)]
    split
    · rfl
    · have : x ≠ n := by rintro rfl; exact h v List.mem_cons_self
      simp [this]
theorem bindL_get {kindOf : Str → Option NameKind} {x : Str} {v : Value} : ∀ {P : List Str} {vs : List Value} {i : Nat} {m : Str → Option Value}, P.Nodup → P[i]? = some x → vs[i]? = some v → kindOf x = some .local →
    bindL kindOf (P.zip vs) m x = some v
  | [], _, _, _, _, h, _, _ => by simp at h
  | _ :: _, [], _, _, _, _, h, _ => by simp at h
  | p :: P, w :: vs, 0, m, nd, h1, h2, hk => by
    simp at h1 h2; subst h1; subst h2
    show bindL kindOf ((p, w) :: P.zip vs) m p = _
    unfold bindL
    rw [bindL_out fun v hv => (List.nodup_cons.mp nd).1 (List.of_mem_zip hv).1, if_pos hk]
    simp
  | p :: P, w :: vs, i + 1, m, nd, h1, h2, hk => by
    show bindL kindOf ((p, w) :: P.zip vs) m x = _
    unfold bindL
    exact bindL_get (i := i) (List.nodup_cons.mp nd).2 (by simpa using h1) (by simpa using h2) hk
theorem bindC_get {kindOf : Str → Option NameKind} {x : Str} {v : Value} : ∀ {P : List Str} {vs : List Value} {i : Nat} {m : Str → Option Value}, P.Nodup → P[i]? = some x → vs[i]? = some v → kindOf x ≠ some .local →
    bindC kindOf (P.zip vs) m x = some v
  | [], _, _, _, _, h, _, _ => by simp at h
  | _ :: _, [], _, _, _, _, h, _ => by simp at h
  | p :: P, w :: vs, 0, m, nd, h1, h2, hk => by
    simp at h1 h2; subst h1; subst h2
    show bindC kindOf ((p, w) :: P.zip vs) m p = _
    unfold bindC
    rw [bindC_out fun v hv => (List.nodup_cons.mp nd).1 (List.of_mem_zip hv).1, if_neg hk]
    simp
  | p :: P, w :: vs, i + 1, m, nd, h1, h2, hk => by
    show bindC kindOf ((p, w) :: P.zip vs) m x = _
    unfold bindC
    exact bindC_get (i := i) (List.nodup_cons.mp nd).2 (by simpa using h1) (by simpa using h2) hk

noncomputable def start (N : List Str) (vs : List V) : St := vs.map some ++ List.replicate (N.length - vs.length) none

noncomputable def cxOf (CX : CXT) (P : Program) (w : World) (K : PySem.W.Frag) (mg : Str → Option Value) (base : Heap) (N : List Str) (qual : Str) (scope : Scope) (f : Addr) (cd : Value) (A : Around) (outer : List Env) (s : Shared) (H : Hp) (E : XK) : Cx where
  prog := P
  w := w
  K := K
  mg := mg
  base := base
  A := A.deeper (envOfC qual scope s.heap.objs.size f cd)
  N := N
  s₀ := s
  H₀ := H
  env := envOfC qual scope s.heap.objs.size f cd
  outer := outer
  stack := envOfC qual scope s.heap.objs.size f cd :: outer
  ex := []
  calm := true
  fn := fun _ => true
  pn := []
  xe := fun e s' => wpAny (model P w) (A.deeper (envOfC qual scope s.heap.objs.size f cd)) (leaving (envOfC qual scope s.heap.objs.size f cd) e) (fun _ s'' => CX outer H s E e s'') (fun e' s'' => CX outer H s E e' s'') s'

theorem cell_has {sc : Scope} {n : Nat} {x : Str} (h : sc.names.lookup x = some .cell) : ∃ c, (cellsFrom n sc.names []).lookup x = some c := by
  have q := PySem.W.cellsFrom_some sc.names n [] (.inl h)
  exact Option.isSome_iff_exists.mp q

theorem inv_start {CX : CXT} {P : Program} {w : World} {K : PySem.W.Frag} {mg : Str → Option Value} {base : Heap} {N ps : List Str} {qual : Str} {scope : Scope} {f : Addr} {cd : Value} {A : Around} {outer : List Env} {s s1 : Shared} {H : Hp} {E : XK} {us : List Value} {vs : List V}
    (S : FnScope N ps scope) (hd : A.handled = none) (e0 : Env0 P w K mg base A outer s H) (hl : vs.length = ps.length) (r : Vals vs us)
    (x : InCallC s s.heap.objs.size (bindL (envOfC qual scope s.heap.objs.size f cd).kindOf (ps.zip us) fun _ => none) (cellsFrom (s.heap.objs.size + 1) scope.names []) (bindC (envOfC qual scope s.heap.objs.size f cd).kindOf (ps.zip us) fun _ => none) s1) :
    Inv (cxOf CX P w K mg base N qual scope f cd A outer s H E) [] (start N vs) H s1 := by
  have hpl : ps.length ≤ N.length := by have := congrArg List.length S.pre; rw [List.length_take] at this; omega
  obtain ⟨h1, tk, rfl, hk⟩ := x.done
  have noA : ∀ b : Addr, b ∉ (cxOf CX P w K mg base N qual scope f cd A outer s H E).ex := fun b z => absurd (show b ∈ ([] : List Addr) from z) (by simp)
  refine ⟨⟨e0.mod, S.kind, rfl, rfl, Nat.le_refl _, fun y z c h1 h2 => ?_, fun y hy => ?_, fun y c _ h => ?_, fun _ => hd, Around.frames_deeper e0.frames, .inr ⟨rfl, rfl⟩, fun b z => absurd z (noA b), e0.bs, e0.bsz, fun b _ _ => noA b, fun b z => absurd z (noA b), e0.funs, e0.frf⟩,
    rfl, e0.bare, Un.kept hk, ⟨_, x.toInCall.ns, fun i y v h1 h2 h3 => ?_⟩, fun y c h => ⟨_, x.cell y c h⟩, e0.hok.fresh (Nat.le_refl _), fun y c h => ?_, fun p hp => absurd (show p ∈ ([] : List (Addr × Obj)) from hp) (by simp), e0.hok.kept hk, ?_⟩
  · exact name_of_addr x.apart (PySem.mem_of_lookup h1) (PySem.mem_of_lookup h2)
  · have hy : scope.names.lookup y = some .cell ∨ scope.names.lookup y = some .free := hy
    rcases hy with hy | hy
    · exact cell_has hy
    · exact absurd rfl (S.nofree _ (PySem.mem_of_lookup hy))
  · exact Nat.le_of_lt (x.above y c (PySem.mem_of_lookup h))
  · have hi : i < vs.length := by
      unfold start at h2
      by_cases hi : i < vs.length
      · exact hi
      · rw [List.getElem?_append_right (by simpa using hi)] at h2
        rw [List.getElem?_replicate] at h2
        split at h2 <;> cases h2
    have ha : vs[i]? = some v := by
      unfold start at h2
      rw [List.getElem?_append_left (by simpa using hi), List.getElem?_map] at h2
      cases e : vs[i]? with
      | none => rw [e] at h2; cases h2
      | some a => rw [e] at h2; cases h2; rfl
    obtain ⟨u, hu, rv⟩ := r.get ha
    have hp : ps[i]? = some y := by
      rw [← S.pre, List.getElem?_take_of_lt (by omega)]; exact h1
    have ndP : ps.Nodup := by rw [← S.pre]; exact S.nd.sublist (List.take_sublist _ _)
    refine ⟨u, rv, ?_⟩
    rcases S.par y (List.mem_of_getElem? hp) with k | k
    · exact .inl ⟨k, bindL_get ndP hp hu k⟩
    · obtain ⟨c, e⟩ := cell_has (n := s.heap.objs.size + 1) k
      refine .inr ⟨.inl k, c, e, ?_⟩
      have q := x.cell y c e
      rw [bindC_get ndP hp hu (by show scope.names.lookup y ≠ _; rw [k]; decide)] at q
      exact q
  · exact e0.hok.fresh (Nat.le_of_lt (x.above y c (PySem.mem_of_lookup h)))
  · unfold start
    show _ = N.length
    rw [List.length_append, List.length_map, List.length_replicate]
    omega

theorem fn_of {CX : CXT} {P : Program} {w : World} {K : PySem.W.Frag} {mg : Str → Option Value} {base : Heap} {k : Nat} {f : Addr} {name qual : Str} {params : Arguments} {body : List Stmt} {scope : Scope} {dV kV doc pm cdv ct oc : Value} {an od : Option Addr}
    {osl : Array (Option Value)} {N ps : List Str} {sp : Sp} (lk : K.lookup f = some ⟨oc, od, .func (PySem.W.fnOf name qual params body scope dV kV doc pm an cdv ct), osl⟩) (hcd : PySem.W.codeIn K cdv qual = true) (S : FnScope N ps scope)
    (len : ∀ vs H Q E, sp vs H Q E → vs.length = ps.length)
    (hbody : ∀ (A : Around) (outer : List Env) (s : Shared) (H : Hp) (vs : List V) (Q : VK) (E : XK), Room k (A.deeper (envOfC qual scope s.heap.objs.size f cdv)) → sp vs H Q E →
      ∃ t, PSs (cxOf CX P w K mg base N qual scope f cdv A outer s H E) body t ∧ t { nx := fun _ H' => Q .non H', rt := Q } (start N vs) H) :
    FnOk P w K mg base CX (k + 1) f (PySem.W.fnOf name qual params body scope dV kV doc pm an cdv ct) ps sp := by
  refine ⟨len, fun A outer s H args us vs Q E hr e0 hb r hsp => ?_⟩
  have hl := len _ _ _ _ hsp
  have KX : K.In s.heap := e0.mod.kin.keeps fun b o e => (e0.bs b o e).1
  have lim : s.heap.NoLimit := e0.mod.nolimit.keeps fun b o e => (e0.bs b o e).1
  have hkind : ∀ y ∈ ps.zip us, scope.names.lookup y.1 = some .local ∨ (scope.names.lookup y.1 = some .cell ∧ ((cellsFrom (s.heap.objs.size + 1) scope.names []).lookup y.1).isSome = true) := fun ⟨n, v⟩ hy => by
    rcases S.par n (List.of_mem_zip hy).1 with q | q
    · exact .inl q
    · exact .inr ⟨q, PySem.W.cellsFrom_some _ _ _ (.inl q)⟩
  refine codeAny_call_function hr.depth (KX _ _ lk) rfl S.co S.gen rfl (PySem.W.codeRec_of KX hcd) (hb _ _ _ _ ?_)
  refine wpAny_newFunctionEnv_cells S.kind hkind fun env he s1 x => ?_
  subst he
  refine ⟨lim.keeps x.toInCall.keep, codeAny_func ?_⟩
  obtain ⟨t, ht, hq⟩ := hbody A outer s H vs Q E (hr.deeper _) hsp
  have I : Inv (cxOf CX P w K mg base N qual scope f cdv A outer s H E) [] (start N vs) H s1 := inv_start S hr.hd e0 hl r x
  refine wpAny_mono (ht [] s1 (start N vs) H _ I hq) (fun fl s' hs => ?_) fun e s' hs => hs
  have fin : ∀ {σ' : St} {H' : Hp} {v : V} {u : Value}, Inv (cxOf CX P w K mg base N qual scope f cdv A outer s H E) [] σ' H' s' → RelV v u → Q v H' → CE outer P w H s Q u s' :=
    fun {σ' H' v u} J rv q => ⟨v, H', J.os, J.bare, J.base, J.hok, rv, q⟩
  cases fl with
  | ret u =>
    obtain ⟨v, σ', H', J, rv, q⟩ := hs
    exact fin J rv q
  | next =>
    obtain ⟨σ', H', J, q⟩ := hs
    exact fin (v := V.non) (u := Value.none) J rfl q
  | brk =>
    obtain ⟨_, _, _, q⟩ := hs
    exact False.elim q
  | cont =>
    obtain ⟨_, _, _, q⟩ := hs
    exact False.elim q
end L2

namespace L2
open PySem PySem.Spec PyProof.Rows
section
variable {X : Cx} {x : Str} {p pos : Pos} {e : Expr} {es : List Expr} {t : TA} {id T : String} {r : List V → Hp → VK → Prop}

noncomputable def tCB (r : List V → Hp → VK → Prop) (t : TA) : TE := fun σ H Q => t σ H fun vs H1 => r vs H1 Q
theorem pe_callB (hc : CallR X (.builtin id) r) (hg : Gl X x) (hm : X.mg x = none) (hv : bootBuiltins x = some (.builtin id)) (ha : PA X (e :: es) t) (hn : x ≠ "__name__" := by decide) (hdb : (x == ("__debug__" : Str)) = false := by decide)
    (he : starEach (e :: es) X.env = (false, eval e X.env) :: starEach es X.env := by rfl) (hpl : (backTo pos (starEach es X.env)).any (·.1) = false := by rfl) : PE X (.Call (.Name x p) (e :: es) [] pos) (tCB r t) := by
  intro pins s σ H Q I h
  refine wpAny_Call_Name_kw (ld_blt I hg hm hv ?_ hn hdb)
  exact PyProof.Rows.callWith_builtin1 (thn (ha pos pins s σ H _ I h) fun us s1 ⟨vs, H1, I1, r1, q1⟩ => hc pins s1 σ H1 vs us Q I1 r1 q1) he hpl
theorem pe_callTy (hc : CallR X (.type T) r) (hg : Gl X x) (hm : X.mg x = none) (hv : bootBuiltins x = some (.type T)) (ha : PA X (e :: es) t) (hn : x ≠ "__name__" := by decide) (hdb : (x == ("__debug__" : Str)) = false := by decide)
    (he : starEach (e :: es) X.env = (false, eval e X.env) :: starEach es X.env := by rfl) (hpl : (backTo pos (starEach es X.env)).any (·.1) = false := by rfl) : PE X (.Call (.Name x p) (e :: es) [] pos) (tCB r t) := by
  intro pins s σ H Q I h
  refine wpAny_Call_Name_kw (ld_blt I hg hm hv ?_ hn hdb)
  exact PyProof.Rows.callWith_type1 (thn (ha pos pins s σ H _ I h) fun us s1 ⟨vs, H1, I1, r1, q1⟩ => hc pins s1 σ H1 vs us Q I1 r1 q1) he hpl
end
end L2

namespace HT
open PySem PyProof.Rows

section
open PySem.SeqAt
open PySem.AutoSeq1 (wpAny_loadPart')
open PySem.MeetsSeq PySem.MeetsSeq2 PySem.MeetsSeq3

end

section
variable {prog : Program} {w : World} {A : Around} {E : Value → Shared → Prop} {s : Shared}

noncomputable def sIx (n d : Nat) : Option Int → Nat
  | none => d
  | some v => if v < 0 then (v + (n : Int)).toNat else min v.toNat n
theorem sIx_le (n d : Nat) (hd : d ≤ n) (o : Option Int) : sIx n d o ≤ n := by
  cases o with
  | none => exact hd
  | some v =>
    show (if v < 0 then (v + (n : Int)).toNat else min v.toNat n) ≤ n
    by_cases hv : v < 0
    · rw [if_pos hv]; omega
    · rw [if_neg hv]; exact Nat.min_le_right _ _
end
end HT

namespace L2
open PySem PySem.Spec PyProof.Rows

noncomputable abbrev TO := St → Hp → (Option Int → Hp → Prop) → Prop
noncomputable def PO (X : Cx) (e : Option Expr) (t : TO) : Prop :=
  ∀ (pins : List (Addr × Obj)) (s : Shared) (σ : St) (H : Hp) (Q : Option Int → Hp → Prop), Inv X pins σ H s → t σ H Q →
    wpAny (model X.prog X.w) X.A (evalPart e X.env) (fun u s' => ∃ o H', Inv X pins σ H' s' ∧ IsPart u o ∧ Q o H') X.xe s
noncomputable def tNoPart : TO := fun _ H Q => Q none H
noncomputable def tPart (t : TE) : TO := fun σ H Q => t σ H fun x H1 => ∃ i, x = .int i ∧ Q (some i) H1

section
variable {X : Cx} {e : Expr} {te : TE} {lo hi : Option Expr} {tl th : TO} {pos p2 : Pos}

theorem po_none : PO X none tNoPart := by
  intro pins s σ H Q I h
  rw [evalPart_none]
  exact wpAny_pure ⟨none, H, I, .none, h⟩
theorem po_some (h : PE X e te) : PO X (some e) (tPart te) := by
  intro pins s σ H Q I hw
  rw [evalPart_some]
  refine thn (h pins s σ H _ I hw) fun u s1 ⟨x, H1, I1, r1, q1⟩ => ?_
  obtain ⟨i, rfl, q⟩ := q1
  obtain ⟨t, rfl⟩ := r1
  exact ⟨some i, H1, I1, .int i t, q⟩

noncomputable def SlR (X : Cx) (r : V → Option Int → Option Int → Hp → VK → Prop) : Prop :=
  ∀ (pins : List (Addr × Obj)) (s : Shared) (σ : St) (H : Hp) (x : V) (v vl vu : Value) (lo hi : Option Int) (sl : Addr) (Q : VK), Inv X pins σ H s → RelV x v → s.heap.IsSliceOf sl vl vu .none → IsPart vl lo → IsPart vu hi → r x lo hi H Q →
    ∃ T id, typeLookup (.type T) "__getitem__" = pure (some (.builtin id)) ∧ s.TypeIs v T ∧ wpAny (model X.prog X.w) X.A (getItem v (.ref sl)) (EP X pins σ Q) X.xe s
noncomputable def tSl (r : V → Option Int → Option Int → Hp → VK → Prop) (te : TE) (tl th : TO) : TE := fun σ H Q => te σ H fun x H1 => tl σ H1 fun l H2 => th σ H2 fun u H3 => r x l u H3 Q
theorem pe_slice {r : V → Option Int → Option Int → Hp → VK → Prop} (hr : SlR X r) (he : PE X e te) (hl : PO X lo tl) (hu : PO X hi th) : PE X (.Subscript e (.Slice lo hi none p2) pos) (tSl r te tl th) := by
  intro pins s σ H Q I h
  refine Subscript_ (thn (he pins s σ H _ I h) fun v s1 ⟨x, H1, I1, r1, q1⟩ => ?_)
  refine wpAny_Slice (thn (hl pins s1 σ H1 _ I1 q1) fun vl s2 ⟨l, H2, I2, pl, q2⟩ => thn (hu pins s2 σ H2 _ I2 q2) fun vu s3 ⟨u, H3, I3, pu, q3⟩ => ?_)
  rw [evalPart_none]
  refine wpAny_pure ?_
  have I4 : Inv X pins σ H3 { s3 with heap := s3.heap.push { cls := .type "slice", data := .fields #[vl, vu, .none] } } := I3.kept (t' := s3.toks) fun b ob q => Heap.get?_push_of_some _ q
  obtain ⟨T, id, hT, ht, hg⟩ := hr pins { s3 with heap := s3.heap.push { cls := .type "slice", data := .fields #[vl, vu, .none] } } σ H3 x v vl vu l u s3.heap.objs.size Q I4 r1 (Heap.IsSliceOf.new ..) pl pu q3
  show wpAny (model X.prog X.w) X.A (subscriptTail e (.Slice lo hi none p2) v (.ref s3.heap.objs.size)) (EP X pins σ Q) X.xe { s3 with heap := s3.heap.push { cls := .type "slice", data := .fields #[vl, vu, .none] } }
  exact tail_any (ops := [.ref s3.heap.objs.size, v]) ht hT hg (by with_unfolding_all rfl)

noncomputable def cutV (xs : List V) (lo hi : Option Int) : List V := (xs.drop (HT.sIx xs.length 0 lo)).take (HT.sIx xs.length xs.length hi - HT.sIx xs.length 0 lo)
theorem cutV_length (xs : List V) (lo hi : Option Int) : (cutV xs lo hi).length ≤ xs.length := by
  unfold cutV
  rw [List.length_take, List.length_drop]
  omega
end
end L2

namespace L2
open PySem PySem.Spec PyProof.Rows

noncomputable def ixN (n : Nat) (i : Int) : Option Nat := if 0 ≤ i then (if i < n then some i.toNat else none) else if -(n : Int) ≤ i then some (i + n).toNat else none
noncomputable def atI {α : Type} (xs : List α) (i : Int) : Option α := (ixN xs.length i).bind fun j => xs[j]?
theorem ixN_seq {n : Nat} {i : Int} {j : Nat} (h : ixN n i = some j) : seqIndex? i n = some j ∧ j < n ∧ -(n : Int) ≤ i ∧ i < n := by
  unfold ixN at h
  by_cases h0 : 0 ≤ i
  · rw [if_pos h0] at h
    by_cases h1 : i < n
    · rw [if_pos h1] at h
      have e : i.toNat = j := Option.some.inj h
      exact ⟨by rw [seqIndex_of h0 h1, e], by omega, by omega, h1⟩
    · rw [if_neg h1] at h; cases h
  · rw [if_neg h0] at h
    by_cases h1 : -(n : Int) ≤ i
    · rw [if_pos h1] at h
      have e : (i + n).toNat = j := Option.some.inj h
      exact ⟨by rw [seqIndex_neg (by omega) h1, e], by omega, h1, by omega⟩
    · rw [if_neg h1] at h; cases h
theorem atI_get {α : Type} {xs : List α} {i : Int} {v : α} (h : atI xs i = some v) : ∃ j, seqIndex? i xs.length = some j ∧ xs[j]? = some v ∧ j < xs.length ∧ -(xs.length : Int) ≤ i ∧ i < xs.length := by
  unfold atI at h
  cases e : ixN xs.length i with
  | none => rw [e] at h; cases h
  | some j =>
    rw [e] at h
    obtain ⟨h1, h2, h3, h4⟩ := ixN_seq e
    exact ⟨j, h1, h, h2, h3, h4⟩
noncomputable def PlainIx (b : Expr) : Prop := ∀ o i, subscripted b false o i = operate [o, i] (getItem o i)
noncomputable def IxR (X : Cx) (r : R2) : Prop :=
  ∀ (value slice : Expr) (pins : List (Addr × Obj)) (s : Shared) (σ : St) (H : Hp) (x y : V) (v u : Value) (Q : VK), Inv X pins σ H s → RelV x v → RelV y u → r x y H Q →
    subscripted slice false v u = operate [v, u] (getItem v u) → wpAny (model X.prog X.w) X.A (subscriptTail value slice v u) (EP X pins σ Q) X.xe s
noncomputable def MtR (X : Cx) (id : String) (r : V → List V → Hp → VK → Prop) : Prop :=
  ∀ (pins : List (Addr × Obj)) (s : Shared) (σ : St) (H : Hp) (x : V) (xs : List V) (v : Value) (us : List Value) (Q : VK), Inv X pins σ H s → RelV x v → Vals xs us → r x xs H Q →
    wpAny (model X.prog X.w) X.A (call (.builtin id) (v :: us)) (EP X pins σ Q) X.xe s
section
variable {X : Cx} {a b : Expr} {ta tb : TE} {pos : Pos}
theorem pe_ix {r : R2} (hr : IxR X r) (ha : PE X a ta) (hb : PE X b tb) (hs : PlainIx b) : PE X (.Subscript a b pos) (tOp r ta tb) := by
  intro pins s σ H Q I h
  exact Subscript_ (binT ha hb I h fun v u s2 x y H2 I2 rx ry q => hr a b pins s2 σ H2 x y v u Q I2 rx ry q (hs _ _))

noncomputable def rIxL (K : PySem.W.Frag) : R2 := fun x y H Q => ∃ p xs i v, x = .ref p ∧ y = .int i ∧ SqL K H p xs ∧ atI xs i = some v ∧ Q v H
noncomputable def rIxT (K : PySem.W.Frag) : R2 := fun x y H Q => ∃ p xs i v, x = .ref p ∧ y = .int i ∧ SqT K H p xs ∧ atI xs i = some v ∧ Q v H
noncomputable def rIxS : R2 := fun x y H Q => ∃ z i c, x = .str z ∧ y = .int i ∧ z.length ≤ sizeLine ∧ atI z.cps.toList i = some c ∧ Q (.str ⟨#[c]⟩) H
theorem ix_list : IxR X (rIxL X.K) := by
  intro value slice pins s σ H x y v u Q I rx ry h hs
  obtain ⟨p, xs, i, z, rfl, rfl, hq, he, q⟩ := h
  cases rx
  obtain ⟨t, rfl⟩ := ry
  obtain ⟨its, r, pl, hz⟩ := I.list hq
  obtain ⟨j, h1, h2, h3, h4, h5⟩ := atI_get he
  obtain ⟨w, ew, rw'⟩ := r.get h2
  have hl := r.length
  have hn := line63
  have fin : EP X pins σ Q w s := ⟨z, H, I, rw', q⟩
  by_cases h0 : 0 ≤ i
  · have hj : i.toNat = j := by
      rw [seqIndex_of h0 h5] at h1
      exact Option.some.inj h1
    exact item_listR pl.isList h0 (by omega) (by rw [hj]; simpa using ew) fin hs
  · have hj : (i + (its.toArray.size : Int)).toNat = j := by
      rw [seqIndex_neg (by omega) h4] at h1
      rw [List.size_toArray, ← hl]
      exact Option.some.inj h1
    exact subscriptTail_builtinR (x := w) pl.isList.typeIs slot_list_getitem.lookup
      (wpAny_getItem_list_neg (Q := fun r s' => r = w ∧ EP X pins σ Q r s') pl.isList (by omega) (by rw [List.size_toArray] <;> omega) (by omega) (by rw [hj]; simpa using ew) ⟨rfl, fin⟩) hs
theorem ix_tup : IxR X (rIxT X.K) := by
  intro value slice pins s σ H x y v u Q I rx ry h hs
  obtain ⟨p, xs, i, z, rfl, rfl, hq, he, q⟩ := h
  cases rx
  obtain ⟨t, rfl⟩ := ry
  obtain ⟨its, r, pl, hz⟩ := I.tuple hq
  obtain ⟨j, h1, h2, h3, h4, h5⟩ := atI_get he
  obtain ⟨w, ew, rw'⟩ := r.get h2
  have hl := r.length
  have hn := line63
  have fin : EP X pins σ Q w s := ⟨z, H, I, rw', q⟩
  exact subscriptTail_builtinR (x := w) pl.typeIs slot_tuple_getitem.lookup
    (getItem_tuple (j := j) (Q := fun r s' => r = w ∧ EP X pins σ Q r s') pl (by omega) (by omega) (by rw [List.size_toArray, ← hl]; exact h1) (by simpa using ew) ⟨rfl, fin⟩) hs
theorem ix_str : IxR X rIxS := by
  intro value slice pins s σ H x y v u Q I rx ry h hs
  obtain ⟨z, i, c, rfl, rfl, hz, he, q⟩ := h
  obtain ⟨t, rfl⟩ := rx
  obtain ⟨t', rfl⟩ := ry
  obtain ⟨j, h1, h2, h3, h4, h5⟩ := atI_get he
  have hl : z.cps.toList.length = z.length := by simp [Str.length]
  rw [hl] at h1 h4 h5
  have hn := line63
  exact tail_any (typeIs_str s z t) slot_str_getitem.lookup (getItem_str (c := c) (by
    have e1 : decide (i < -(2 ^ 63 : Int)) = false := decide_eq_false (by omega)
    have e2 : decide (i ≥ 2 ^ 63) = false := decide_eq_false (by omega)
    rw [e1, e2, Bool.or_false]) (by rw [h1]; simpa using h2) ⟨.str ⟨#[c]⟩, H, I.tok _, ⟨_, rfl⟩, q⟩) hs
theorem mapSeq_set (its : List Value) (n j : Nat) (u : Value) : Obj.mapSeq (·.setIfInBounds j u) { cls := .type "list", data := .seq its.toArray n } = { cls := .type "list", data := .seq (its.set j u).toArray n } := by
  simp [Obj.mapSeq]
theorem Inv.lst {pins : List (Addr × Obj)} {σ : St} {H : Hp} {s : Shared} {p : Addr} {xs : List V} (I : Inv X pins σ H s) (h : H p = some (.lst xs)) :
    ∃ (its : List Value) (n : Nat), Vals xs its ∧ s.heap.get? p = some { cls := .type "list", data := .seq its.toArray n } ∧ xs.length ≤ sizeLine := by
  obtain ⟨z, its, n, r, e⟩ := I.hok p _ h
  exact ⟨its, n, r, e, z⟩
theorem Inv.lstUpd {pins : List (Addr × Obj)} {σ : St} {H : Hp} {s : Shared} {p : Addr} {xs ys : List V} {its its' : List Value} {n n' : Nat} {f : Obj → Obj} (I : Inv X pins σ H s) (h : H p = some (.lst xs))
    (ho : s.heap.get? p = some { cls := .type "list", data := .seq its.toArray n }) (hf : f { cls := .type "list", data := .seq its.toArray n } = { cls := .type "list", data := .seq its'.toArray n' }) (r : Vals ys its') (hz : ys.length ≤ sizeLine) (t : Nat) :
    Inv X pins σ (upd H p (.lst ys)) { s with heap := s.heap.update p f, toks := t } := by
  have e : (s.heap.update p f).get? p = some { cls := .type "list", data := .seq its'.toArray n' } := by
    rw [Heap.get?_update_self f ho (by rw [hf] <;> rfl), hf]
  refine I.write (x := p) (e := p) (by rw [h]; trivial) (.inl rfl) (fun b u hb q => (Heap.get?_update_other _ _ (Ne.symm hb)).trans q) ⟨_, e⟩ ?_
  exact ⟨hz, its', n', r, e⟩
noncomputable def rSetL : V → V → V → Hp → (Hp → Prop) → Prop := fun o i v H Q => ∃ p xs k j, o = .ref p ∧ i = .int k ∧ H p = some (.lst xs) ∧ ixN xs.length k = some j ∧ Q (upd H p (.lst (xs.set j v)))
theorem set_list : PSet X rSetL := by
  intro pins s σ H o i v ov iv u Q I ro ri rv h
  obtain ⟨p, xs, k, j, rfl, rfl, hp, hj, q⟩ := h
  cases ro
  obtain ⟨t, rfl⟩ := ri
  obtain ⟨its, n, r, ho, hz⟩ := I.lst hp
  obtain ⟨h1, h2, h3, h4⟩ := ixN_seq hj
  have hl := r.length
  have hn := line63
  have I' : Inv X pins σ (upd H p (.lst (xs.set j v))) { s with heap := s.heap.update p (Obj.mapSeq (·.setIfInBounds j u)) } :=
    I.lstUpd hp ho (mapSeq_set its n j u) (r.set rv j) (by rw [List.length_set]; exact hz) s.toks
  by_cases h0 : 0 ≤ k
  · have hk : k.toNat = j := by
      rw [seqIndex_of h0 h4] at h1
      exact Option.some.inj h1
    exact PySem.W.ki_setAt ho h0 (by omega) (by rw [List.size_toArray, ← hl]; exact h4) (by rw [hk]; exact ⟨_, I', q⟩)
  · have hk : (k + (its.toArray.size : Int)).toNat = j := by
      rw [seqIndex_neg (by omega) h3] at h1
      rw [List.size_toArray, ← hl]
      exact Option.some.inj h1
    exact PySem.W.ki_setBack ho (by omega) (by rw [List.size_toArray, ← hl]; exact h3) (by omega) (by rw [hk]; exact ⟨_, I', q⟩)

theorem slice_bounds (lo hi : Option Int) (n : Nat) : (sliceBounds lo hi none n).1 = ((HT.sIx n 0 lo : Nat) : Int) ∧ (sliceBounds lo hi none n).2.1 = ((HT.sIx n n hi : Nat) : Int) ∧ (sliceBounds lo hi none n).2.2 = 1 := by
  refine ⟨?_, ?_, rfl⟩
  · cases lo with
    | none => simp [sliceBounds, HT.sIx]
    | some i =>
      simp only [sliceBounds, HT.sIx, Option.getD_none, show (1 : Int) > 0 by decide, if_true]
      by_cases h : i < 0
      · simp only [h, if_true] <;> omega
      · simp only [h, if_false] <;> omega
  · cases hi with
    | none => simp [sliceBounds, HT.sIx]
    | some i =>
      simp only [sliceBounds, HT.sIx, Option.getD_none, show (1 : Int) > 0 by decide, if_true]
      by_cases h : i < 0
      · simp only [h, if_true] <;> omega
      · simp only [h, if_false] <;> omega
theorem slicePick_cut (its : List Value) (lo hi : Option Int) : slicePick its.toArray lo hi none = ((its.drop (HT.sIx its.length 0 lo)).take (HT.sIx its.length its.length hi - HT.sIx its.length 0 lo)).toArray := by
  obtain ⟨h1, h2, h3⟩ := slice_bounds lo hi its.toArray.size
  unfold slicePick
  rw [h1, h2, h3]
  simp only [sliceRange_one, pick_run, List.size_toArray] <;> rfl
noncomputable def rSlL (K : PySem.W.Frag) : V → Option Int → Option Int → Hp → VK → Prop := fun x lo hi H Q => ∃ a xs, x = .ref a ∧ SqL K H a xs ∧ ∀ p, H p = none → Q (.ref p) (upd H p (.lst (cutV xs lo hi)))
theorem sl_list : SlR X (rSlL X.K) := by
  intro pins s σ H x v vl vu lo hi sl Q I rx hs pl pu h
  obtain ⟨a, xs, rfl, hx, q⟩ := h
  cases rx
  obtain ⟨its, r, ht, hz⟩ := I.list hx
  have hlen := r.length
  refine ⟨"list", _, slot_list_getitem.lookup, ht.isList.typeIs, ?_⟩
  refine wpAny_getItem_list_slice ht.isList hs pl pu .none (by simp) ?_ (by rw [List.size_toArray] <;> omega)
  rw [slicePick_cut, ← hlen]
  refine ⟨.ref s.heap.objs.size, _, I.laid (t' := s.toks) (o := .lst (cutV xs lo hi)) (fun b ob q => Heap.get?_push_of_some _ q) (Nat.le_refl _) ?_, rfl, q _ (I.hok.fresh (Nat.le_refl _))⟩
  exact ⟨Nat.le_trans (cutV_length xs lo hi) hz, _, 0, (r.drop (HT.sIx xs.length 0 lo)).take (HT.sIx xs.length xs.length hi - HT.sIx xs.length 0 lo), Heap.get?_push_size _ rfl⟩

noncomputable def flatV : V → Bool
  | .non => true
  | .bl _ => true
  | .int _ => true
  | .str _ => true
  | _ => false
theorem call_len_seq : CallR X (.builtin "len") (fun xs H Q => ∃ p ys, xs = [.ref p] ∧ (SqL X.K H p ys ∨ SqT X.K H p ys) ∧ Q (.int ys.length) H) := by
  intro pins s σ H xs us Q I r h
  obtain ⟨p, ys, rfl, hq, q⟩ := h
  obtain ⟨u, rfl, rx⟩ := vals1 r
  cases rx
  have hn := line63
  rcases hq with hq | hq
  · obtain ⟨its, r', pl, hz⟩ := I.list hq
    have hlen := r'.length
    exact Calls.call_len_list pl.isList (by simp only [List.size_toArray] <;> omega) ⟨.int ys.length, H, I.tok _, ⟨s.toks + 1, by rw [List.size_toArray, hlen]⟩, q⟩
  · obtain ⟨its, r', pl, hz⟩ := I.tuple hq
    have hlen := r'.length
    exact len_tuple pl (by simp only [List.size_toArray] <;> omega) ⟨.int ys.length, H, I.tok _, ⟨s.toks + 1, by rw [List.size_toArray, hlen]⟩, q⟩
theorem call_len_str : CallR X (.builtin "len") (fun xs H Q => ∃ z, xs = [.str z] ∧ z.length ≤ sizeLine ∧ Q (.int z.length) H) := by
  intro pins s σ H xs us Q I r h
  obtain ⟨z, rfl, hz, q⟩ := h
  obtain ⟨u, rfl, t, rfl⟩ := vals1 r
  have hn := line63
  exact len_str (by omega) ⟨.int z.length, H, I.tok _, ⟨_, rfl⟩, q⟩
theorem call_list_of : CallR X (.type "list") (fun xs H Q => ∃ p ys, xs = [.ref p] ∧ (SqL X.K H p ys ∨ SqT X.K H p ys) ∧ ∀ l, H l = none → Q (.ref l) (upd H l (.lst ys))) := by
  intro pins s σ H xs us Q I r h
  obtain ⟨p, ys, rfl, hq, q⟩ := h
  obtain ⟨u, rfl, rx⟩ := vals1 r
  cases rx
  have fin : ∀ (its : List Value), Vals ys its → ys.length ≤ sizeLine → ∀ (h' : Heap) (c' : Nat), (∀ b o', s.heap.get? b = some o' → h'.get? b = some o') →
      h'.get? s.heap.objs.size = some { cls := .type "list", dict := none, data := .seq its.toArray c', slots := #[] } → EP X pins σ Q (.ref s.heap.objs.size) { s with heap := h' } := fun its r' hz h' c' kp e =>
    ⟨.ref s.heap.objs.size, _, I.laid (t' := s.toks) kp (Nat.le_refl _) (show ObjOk X.prog X.w _ h' _ (.lst ys) from ⟨hz, its, c', r', e⟩), rfl, q _ (I.hok.fresh (Nat.le_refl _))⟩
  rcases hq with hq | hq
  · obtain ⟨its, r', pl, hz⟩ := I.list hq
    have hlen := r'.length
    obtain ⟨o, ho, hc, n, hd⟩ := pl.isList
    exact call_list_seq p (.inl rfl) ho hc hd (fun h' c' kp e => fin its r' hz h' c' kp e) (by simp only [List.size_toArray] <;> omega)
  · obtain ⟨its, r', pl, hz⟩ := I.tuple hq
    have hlen := r'.length
    obtain ⟨o, ho, hc, n, hd⟩ := pl
    exact call_list_seq p (.inr rfl) ho hc hd (fun h' c' kp e => fin its r' hz h' c' kp e) (by simp only [List.size_toArray] <;> omega)
noncomputable def tyV (K : PySem.W.Frag) (T : String) (x : V) (H : Hp) : Prop := match x with
  | .str _ => T = "str"
  | .int _ => T = "int"
  | .ref p => (T = "list" ∧ ∃ xs, SqL K H p xs) ∨ (T = "tuple" ∧ ∃ o, K.lookup p = some o ∧ o.cls = .type "tuple" ∧ o.dict = none) ∨
      (T = "dict" ∧ ((∃ kvs, H p = some (.dK kvs)) ∨ ∃ kvs, H p = some (.dT kvs))) ∨ (T = "set" ∧ ∃ S n, H p = some (.set S n))
  | _ => False
theorem tyV_is {pins : List (Addr × Obj)} {σ : St} {H : Hp} {s : Shared} {T : String} {x : V} {v : Value} (I : Inv X pins σ H s) (r : RelV x v) (ty : tyV X.K T x H) :
    s.TypeIs v T ∧ ∀ a, v = .ref a → ∃ ob, s.heap.get? a = some ob ∧ ob.dict = none := by
  cases x with
  | str z =>
    obtain ⟨t, rfl⟩ := r
    cases (show T = "str" from ty)
    exact ⟨typeIs_str s z t, fun _ e => nomatch e⟩
  | int i =>
    obtain ⟨t, rfl⟩ := r
    cases (show T = "int" from ty)
    exact ⟨typeIs_int s i t, fun _ e => nomatch e⟩
  | ref p =>
    cases r
    rcases ty with ⟨rfl, xs, hq⟩ | ⟨rfl, o, hk, hc, hd⟩ | ⟨rfl, hk⟩ | ⟨rfl, S, n, hk⟩
    · obtain ⟨its, _, pl, _⟩ := I.list hq
      refine ⟨pl.isList.typeIs, fun a e => ?_⟩
      cases e
      obtain ⟨o, n, e, c, hd, _⟩ := pl
      exact ⟨o, e, hd⟩
    · refine ⟨⟨o, I.kIn p o hk, hc⟩, fun a e => ?_⟩
      cases e
      exact ⟨o, I.kIn _ o hk, hd⟩
    · have z : ∃ o, s.heap.get? p = some o ∧ o.ExactDict := by
        rcases hk with ⟨kvs, hk⟩ | ⟨kvs, hk⟩
        · obtain ⟨_, _, _, _, o, _, _, e, ex, _⟩ := I.hok p _ hk
          exact ⟨o, e, ex⟩
        · obtain ⟨_, _, _, _, o, _, _, e, ex, _⟩ := I.hok p _ hk
          exact ⟨o, e, ex⟩
      obtain ⟨o, e, ex⟩ := z
      refine ⟨⟨o, e, ex.1⟩, fun a e2 => ?_⟩
      cases e2
      exact ⟨o, e, ex.2.1⟩
    · obtain ⟨o, _, _, _, e, ex, _⟩ := I.hok p _ hk
      refine ⟨⟨o, e, ex.1⟩, fun a e2 => ?_⟩
      cases e2
      exact ⟨o, e, ex.2.1⟩
  | _ => exact False.elim ty
noncomputable def tBM (K : PySem.W.Frag) (T : String) (r : V → List V → Hp → VK → Prop) (to : TE) (t : TA) : TE := fun σ H Q => to σ H fun x H1 => tyV K T x H1 ∧ t σ H1 fun xs H2 => r x xs H2 Q
variable {o e : Expr} {es : List Expr} {to : TE} {t : TA} {name : Str} {apos cpos : Pos} {T id : String} {r : V → List V → Hp → VK → Prop}
theorem pe_bm (pa : PlainAttrs T) (slot : Slot T name id) (hty : typeOf (.builtin id) = pure (.type "method_descriptor")) (hm : MtR X id r) (ho : PE X o to) (ha : PA X (e :: es) t)
    (hbase : attributeBase o name X.env (eval o X.env) = eval o X.env := by rfl)
    (hfew : ((backTo cpos (starEach (e :: es) X.env)).all (fun x => !x.1) && (backToKw cpos (keywordEach [] X.env)).all (fun x => x.1.isSome)
      && decide ((e :: es).length + ([] : List Keyword).length + (if ([] : List Keyword).isEmpty then 0 else 1) < 30)) = true := by rfl)
    (hline : (apos.endLine == cpos.line) = true := by rfl) (hs : starEach (e :: es) X.env = (false, eval e X.env) :: starEach es X.env := by rfl) (hplain : (backTo cpos (starEach es X.env)).any (·.1) = false := by rfl) :
    PE X (.Call (.Attribute o name apos) (e :: es) [] cpos) (tBM X.K T r to t) := by
  intro pins s σ H Q I h
  refine wpAny_Call_method_late hbase hfew hline rfl (thn (ho pins s σ H _ I h) fun v s1 ⟨x, H1, I1, r1, ty, q1⟩ => ?_)
  obtain ⟨h1, h2⟩ := tyV_is I1 r1 ty
  refine ⟨T, id, pa, slot, hty, h1, h2, ?_⟩
  have hA := ha cpos pins s1 σ H1 _ I1 q1
  rw [hs] at hA ⊢
  refine Calls.callWith_builtin (by show (false || (backTo cpos (starEach es X.env)).any (·.1)) = false; rw [hplain] <;> rfl) (Calls.evalArgs_plain ?_)
  exact thn hA fun us s2 ⟨vs, H2, I2, r2, q2⟩ => hm pins s2 σ H2 x vs v us Q I2 r1 r2 q2
end
end L2

namespace L2
open PySem PySem.Spec PyProof.Rows

noncomputable def MtM (X : Cx) (id : String) (r : V → List V → Hp → VK → Prop) : Prop :=
  ∀ (pins : List (Addr × Obj)) (s : Shared) (σ : St) (H : Hp) (x : V) (xs : List V) (v : Value) (us : List Value) (Q : VK), Inv X pins σ H s → RelV x v → Vals xs us → r x xs H Q →
    wpAny (model X.prog X.w) X.A (call (.builtin id) (v :: us)) (EP X pins σ Q) X.xe s

theorem Vals.one : ∀ {x : V} {us : List Value}, Vals [x] us → ∃ u, us = [u] ∧ RelV x u
  | _, _, .cons r .nil => ⟨_, rfl, r⟩
theorem Vals.two : ∀ {x y : V} {us : List Value}, Vals [x, y] us → ∃ u v, us = [u, v] ∧ RelV x u ∧ RelV y v
  | _, _, _, .cons r (.cons q .nil) => ⟨_, _, rfl, r, q⟩
theorem Vals.zero : ∀ {us : List Value}, Vals [] us → us = []
  | _, .nil => rfl
section
variable {X : Cx} {pins : List (Addr × Obj)} {σ : St} {H : Hp} {s : Shared} {l b : Addr} {xs ys zs : List V}

theorem Inv.lset {its its' : List Value} {n : Nat} {f : Array Value → Array Value} {t' : Nat} (I : Inv X pins σ H s) (hH : H l = some (.lst xs))
    (e : s.heap.get? l = some { cls := .type "list", data := .seq its.toArray n }) (hf : f its.toArray = its'.toArray) (hv : Vals ys its') (hz : ys.length ≤ sizeLine) :
    Inv X pins σ (upd H l (.lst ys)) { s with heap := s.heap.update l (Obj.mapSeq f), toks := t' } := by
  have q := PySem.IsL.update e f
  rw [hf] at q
  refine I.write (x := l) (e := l) (by rw [hH]; exact trivial) (.inl rfl) (fun b' u hb hu => (Heap.get?_update_other s.heap (Obj.mapSeq f) (Ne.symm hb)).trans hu) ⟨_, q⟩ ?_
  exact ⟨hz, its', _, hv, q⟩
theorem Inv.lnew {its : List Value} {t' : Nat} (I : Inv X pins σ H s) (hv : Vals ys its) (hz : ys.length ≤ sizeLine) :
    Inv X pins σ (upd H s.heap.objs.size (.lst ys)) { s with heap := s.heap.push { cls := .type "list", data := .seq its.toArray }, toks := t' } :=
  I.laid (fun _ _ q => Heap.get?_push_of_some _ q) (Nat.le_refl _) ⟨hz, its, 0, hv, Heap.get?_push_size _ rfl⟩
theorem Inv.fresh (I : Inv X pins σ H s) : H s.heap.objs.size = none := I.hok.fresh (Nat.le_refl _)
theorem Inv.lstM (I : Inv X pins σ H s) (hH : H l = some (.lst xs)) : xs.length ≤ sizeLine ∧ ∃ (its : List Value) (n : Nat), Vals xs its ∧ xs.length = its.length ∧ s.heap.get? l = some { cls := .type "list", data := .seq its.toArray n } := by
  obtain ⟨z, its, n, r, e⟩ := I.hok l _ hH
  exact ⟨z, its, n, r, r.length, e⟩

theorem notLongL {n : Nat} (h : n ≤ sizeLine) : Builtin.List.listTooLong n = false := by
  unfold Builtin.List.listTooLong
  exact decide_eq_false (by omega)
end

section
variable {X : Cx}

noncomputable def rAppend : V → List V → Hp → VK → Prop := fun x vs H Q => ∃ l xs y, x = .ref l ∧ vs = [y] ∧ H l = some (.lst xs) ∧ xs.length < sizeLine ∧ Q .non (upd H l (.lst (xs ++ [y])))
theorem mt_append : MtM X "list.append" rAppend := by
  intro pins s σ H x vs v us Q I rx rv h
  obtain ⟨l, xs, y, rfl, rfl, hH, hz, q⟩ := h
  cases rx
  obtain ⟨u, rfl, ru⟩ := rv.one
  obtain ⟨z, its, n, r, hl, e⟩ := I.lstM hH
  refine call_meets F.slot_list_append ⟨_, e, rfl⟩ F.entry_list_append (F.args_list_append_2 _ _) (PySem.list_append l its.toArray n u (by rw [List.size_toArray]; omega)) ⟨e, ?_⟩
  refine ⟨.non, _, I.lset (its' := its ++ [u]) hH e (by simp) (r.append (.cons ru .nil)) ?_, rfl, q⟩
  rw [List.length_append, List.length_singleton]
  omega

end

section
variable {prog : Program} {w : World} {A : Around} {E : Value → Shared → Prop} {s : Shared}
theorem bounds_run {a c n : Nat} (hac : a ≤ c) (hc : c ≤ n) : sliceBounds (some (a : Int)) (some (c : Int)) none n = ((a : Int), (c : Int), 1) := by
  simp only [sliceBounds, Option.getD_none]
  have h1 : ¬ ((a : Int) < 0) := by omega
  have h2 : ¬ ((c : Int) < 0) := by omega
  simp only [h1, h2, if_false, show (1 : Int) > 0 by decide, if_true]
  congr 1
  · omega
  · congr 1; omega
set_option maxRecDepth 100000 in
theorem setItem_slice {l b sl : Addr} {items new : Array Value} {n n2 : Nat} {vl vu : Value} {a c : Nat} {Q : Unit → Shared → Prop}
    (e : s.heap.get? l = some { cls := .type "list", data := .seq items n }) (e2 : s.heap.get? b = some { cls := .type "list", data := .seq new n2 }) (hne : l ≠ b)
    (hs : s.heap.IsSliceOf sl vl vu .none) (pl : IsPart vl (some (a : Int))) (pu : IsPart vu (some (c : Int))) (hac : a ≤ c) (hc : c ≤ items.size)
    (hsz : items.size + new.size ≤ sizeLine) (h : Q () { s with heap := s.heap.update l (Obj.mapSeq fun xs => xs.extract 0 a ++ new ++ xs.extract c xs.size) }) :
    wpAny (model prog w) A (setItem (.ref l) (.ref sl) (.ref b)) Q E s := by
  have hl : s.heap.IsList l items := PySem.IsL.isList e
  have hb : s.heap.IsList b new := PySem.IsL.isList e2
  obtain ⟨os, hos, hcs, hds⟩ := id hs
  have hTs : s.TypeIs (.ref sl) "slice" := ⟨os, hos, hcs⟩
  have hstep : ¬ ((rawPart none == rawInt 0) = true) := Bool.false_ne_true
  have hsame : Builtin.List.listSameRef (.ref l) (.ref b) = false := by
    unfold Builtin.List.listSameRef
    exact beq_eq_false_iff_ne.mpr hne
  have hmax : (max (a : Int) (c : Int)).toNat = c := by omega
  have hz' : ((fun xs : Array Value => xs.extract 0 a ++ new ++ xs.extract c xs.size) items).size ≤ sizeLine + 1 := by
    simp only [Array.size_append, Array.size_extract]
    omega
  unfold setItem
  try with_reducible refine wpAny_holding ?_
  first | refine wpAny_bind (wpAny_pure ?_) | skip
  refine wpAny_bind (wpAny_sequenceKey hl.typeIs (by decide) ?_)
  refine wpAny_bind (wpAny_callSpecial?_slot (name := Str.ofString "__setitem__") hl.typeIs slot_list_setitem
    (wpAny_call_entry slot_list_setitem hl.typeIs entry_list_setitem ?_ (args_list_setitem _ _ _)))
  show wpAny _ _ (Builtin.List.listSubscript? (.ref sl) >>= _) _ _ s
  refine wpAny_bind ?_
  unfold Builtin.List.listSubscript?
  refine wpAny_bind (wpAny_specialOf hTs slice_no_index ?_)
  simp only [Option.isNone_none, if_true]
  refine wpAny_pure ?_
  show wpAny _ _ (typeOf (.ref sl) >>= _) _ _ s
  refine wpAny_bind (wpAny_typeOf hTs ?_)
  first
    | rw [if_neg (by decide)]
    | refine PySem.W.KFB.if_not (by decide) ?_
  rw [listSliceParts_eq]
  refine wpAny_bind (wpAny_bind (wpAny_field hos hds (x := .none) rfl (wpAny_bind (wpAny_listPart .none ?_))))
  rw [if_neg hstep]
  refine wpAny_bind (wpAny_field hos hds (x := vl) rfl (wpAny_bind (wpAny_listPart pl ?_)))
  refine wpAny_bind (wpAny_field hos hds (x := vu) rfl (wpAny_bind (wpAny_listPart pu (wpAny_pure ?_))))
  first
    | simp only [hsame, Bool.false_eq_true, if_false]
    | refine PySem.W.KFB.if_not hsame ?_
    | (dsimp only
       rw [if_neg (by rw [hsame]; exact Bool.false_ne_true)])
  refine wpAny_bind (m := Builtin.List.listAllItems (.ref b) "must assign iterable to extended slice") ?_
  unfold Builtin.List.listAllItems
  refine wpAny_bind (wpAny_typeOf hb.typeIs ?_)
  first
    | refine PySem.W.KFB.if_so (by decide) ?_
    | rw [if_pos (by decide)]
    | simp only [beq_self_eq_true, Bool.true_or, if_true]
  unfold Builtin.List.listItems
  refine wpAny_bind (wpAny_seqItems e2 rfl (wpAny_pure ?_))
  refine wpAny_bind (wpAny_bind (wpAny_seqItems e rfl (wpAny_pure ?_)))
  refine wpAny_bind (wpAny_of_eq ((sliceIndices_raw (some (a : Int)) (some (c : Int)) none items.size (by simp)).trans (congrArg (pure : Int × Int × Int → Sem (Int × Int × Int)) (bounds_run hac hc))) ?_)
  show wpAny _ _ (if ((1 : Int) == 1) = true then _ else _) _ _ s
  rw [if_pos (by decide)]
  refine wpAny_bind (wpAny_rule ?_)
  first
    | simp only [notLongL hsz, Bool.false_eq_true, if_false]
    | refine PySem.W.KFB.if_not (notLongL hsz) ?_
  first | refine wpAny_bind (wpAny_pure ?_) | skip
  show wpAny _ _ (updateSeq l (fun xs => xs.extract 0 ((a : Int)).toNat ++ new ++ xs.extract (max (a : Int) (c : Int)).toNat xs.size) >>= _) _ _ s
  rw [hmax, Int.toNat_natCast]
  refine wpAny_bind (wpAny_updateSeq (hz := Nat.le_trans (Nat.le_add_right _ _) hsz) (_hz' := hz') e rfl ?_)
  refine wpAny_bind (wpAny_letGo ?_)
  first
    | exact wpAny_bind (wpAny_pure (wpAny_pure ⟨.none, rfl, wpAny_pure h⟩))
    | exact wpAny_pure ⟨.none, rfl, wpAny_pure h⟩
end

section
variable {X : Cx}
end
end L2

namespace Att
open PySem PySem.W PySem.Calls PyProof.Rows

theorem ints_of_wellAll {P : Params} {h : Heap} : ∀ (ns : List Int) (vs : List Value), WellAll P h vs (ns.map WData.int) → IntsAre vs ns := by
  intro ns
  induction ns with
  | nil =>
    intro vs w
    rw [List.map_nil] at w
    cases w
    exact .nil
  | cons n ns ih =>
    intro vs w
    rw [List.map_cons] at w
    cases w with
    | cons a b =>
      cases a
      exact .cons _ _ (ih _ b)

theorem script_of {l : OpenLaw} {n : Nat} (hn : l.most = some n) {P : Params} {h : Heap} {args : List WData} {vals : List Value}
    (hpre : l.row.toRowW.claim.pre args = true) (hwl : WellAll P h vals args) :
    ∃ a vs ns, vals = [Value.ref a] ∧ args = [WData.list (ns.map WData.int)] ∧ h.get? a = some { cls := .type "list", data := .seq vs.toArray } ∧ IntsAre vs ns ∧ ns.length ≤ n := by
  have hsh : WShape.hasAll [] args [.list .int] = true := (pre_splitW hpre).1
  have hc : l.pre.holds [] { args := args } = true := (pre_splitW hpre).2
  obtain ⟨d, r, rfl, h1, h2⟩ := hasAllW_cons hsh
  obtain rfl := hasAllW_nil h2
  obtain ⟨xs, rfl, h3⟩ := hasW_list h1
  obtain ⟨ns, rfl⟩ := items_int h3
  have hlen : ns.length ≤ n := by
    unfold OpenLaw.pre at hc
    have h4 : (WTm.not (.lt (.lit (.int (n : Int))) (.len (.arg 0)))).holds [] { args := [.list (ns.map .int)] } = true := by
      have h4 := (holds_andW hc).1
      rw [hn] at h4
      exact h4
    have h5 := condW_of h4 (w_not (w_lt w_lit (w_len_list (w_arg rfl))))
    rw [List.length_map] at h5
    refine Nat.le_of_not_lt fun q => ?_
    have q' : (n : Int) < ((ns.length : Nat) : Int) := by omega
    first
      | (rw [decide_eq_true q'] at h5; exact absurd h5 (by decide))
      | (simp at h5; omega)
  cases hwl with
  | cons w1 w2 =>
    cases w2
    cases w1 with
    | list ho hall => exact ⟨_, _, ns, rfl, rfl, ho, ints_of_wellAll ns _ hall, hlen⟩

theorem post_true (l : OpenLaw) (args : List WData) : l.row.toRowW.claim.post args (.bool true) args = true :=
  postW_of (r := l.row.toRowW) (X := (true == true))
    (show WShape.has [] (.bool true) .bool = true by first | rfl | decide | simp [WShape.has, WShape.arms, WShape.armsAll])
    (show (WTm.eq .res (.lit (.bool true))).value [] { args := args, res := some (.bool true), after := args } = some (.bool (true == true)) from w_eq_bool (w_res rfl) w_lit) rfl

theorem attach_call {l : OpenLaw} {n : Nat} {q : Program} {loose : List Str} {XP : (Str → Option Value) → Heap → Prop} {YP : World → Heap → Prop} {d : DefRec}
    (hn : l.most = some n) (hdf : d.params.defaults = [])
    (call : ∀ (w : World) (s₀ s₁ : Shared) (mg mb : Str → Option Value) (fa : Addr) (o : Obj) (pm cd doc : Value) (a : Addr) (vs : List Value) (ns : List Int),
      Ground q loose [] XP w s₀ mg mb s₁.heap → YP w s₁.heap →
      s₁.heap.get? fa = some o → o.data = .func (docDef d.name d.params d.body d.scope pm cd doc) → s₁.heap.CodeRec cd d.name → mg d.name = some (.ref fa) →
      s₁.heap.get? a = some { cls := .type "list", data := .seq vs.toArray } → IntsAre vs ns → ns.length ≤ n → s₁.gens = #[] →
      codeAny (model l.prog w) callerA (.call (.ref fa) ⟨[.ref a], []⟩) (fun r s' => r = .ok (.ret (.bool true)) ∧ OldK s₁.heap s'.heap ∧ s'.os = s₁.os ∧ AllBare s'.gens) s₁) :
    WalkO q loose XP YP l.row.toRowW d [] (fun f vs => PySem.call f vs) := by
  intro w s₀ s₁ mg mb G Y fa o pm cd doc dV kV ho hd hcd hD hmg hg args vals as hpre hlay hrd hwl hlo
  obtain rfl : dV = .none := Dflts.none hD hdf
  obtain rfl : kV = .none := Dflts.noKw hD
  obtain ⟨a, vs, ns, rfl, rfl, hobj, hints, hlen⟩ := script_of hn hpre hwl
  refine enter_call (codeAny_mono (call w s₀ s₁ mg mb fa o pm cd doc a vs ns G Y ho (fd_plain hd) hcd hmg hobj hints hlen hg) fun r s' hq => ?_)
  obtain ⟨rfl, h2, h3, h4⟩ := hq
  exact ⟨.inl ⟨.bool true, .bool true, [], rfl, fun _ => rfl, .bool true, post_true l _, fun _ => ⟨List.Pairwise.nil, fun _ hm => (nomatch hm)⟩⟩, h2, h3, h4⟩

section
variable {prog : Program} {w : World} {A : Around} {E : Value → Shared → Prop} {s : Shared} {K : Frag}

end
end Att

namespace L2
open PySem PySem.Spec PyProof.Rows

theorem vals_ints : ∀ {vs : List Value} {ns : List Int}, IntsAre vs ns → Vals (ns.map V.int) vs
  | _, _, .nil => .nil
  | _, _, .cons n t h => .cons ⟨t, rfl⟩ (vals_ints h)

noncomputable def Only (H : Hp) : Prop := ∀ b, H b = none ∨ ∃ o xs, H b = some (.frz o (.lst xs))

theorem law_call {P : Program} {w : World} {K : PySem.W.Frag} {mg mb : Str → Option Value} {CX : CXT} {k : Nat} {fa a : Addr} {fd : FuncData} {x : Str} {sp : Sp} {s₁ : Shared} {vs : List Value} {ns : List Int}
    (KX : K.In s₁.heap) (hns : s₁.heap.Ns mainGlobals mg) (hb : s₁.heap.Ns builtinsNs mb) (hbb : ∀ x : Str, x ≠ "__name__" → mb x = bootBuiltins x) (hlim : s₁.heap.NoLimit) (hg : s₁.gens = #[])
    (ha : s₁.heap.get? a = some { cls := .type "list", data := .seq vs.toArray }) (hi : IntsAre vs ns) (hl : ns.length ≤ sizeLine) (hr : Room k callerA)
    (F : ∀ base : Heap, K.In base → base.Ns mainGlobals mg → FnOk P w K mg base CX k fa fd [x] sp) (hbind : ∀ (s : Shared) (u : Value), BindsTo s fd ⟨[u], []⟩ [(x, u)])
    (hsp : ∀ H : Hp, Only H → SqL K H a (ns.map V.int) → sp [.ref a] H (fun v _ => v = .bl true) fun _ _ _ => False)
    (hCX : ∀ H e s', CX [] H s₁ (fun _ _ _ => False) e s' → False) :
    codeAny (model P w) callerA (.call (.ref fa) ⟨[.ref a], []⟩) (fun r s' => r = .ok (.ret (.bool true)) ∧ OldK s₁.heap s'.heap ∧ s'.os = s₁.os ∧ AllBare s'.gens) s₁ := by
  have rv := vals_ints hi
  have lenV := hi.length
  
  have core : ∀ H : Hp, Only H → SqL K H a (ns.map V.int) → HOk P w H s₁.heap → (∀ b, H b ≠ none → b = a) → (H a ≠ none → K.lookup a = none) →
      codeAny (model P w) callerA (.call (.ref fa) ⟨[.ref a], []⟩) (fun r s' => r = .ok (.ret (.bool true)) ∧ OldK s₁.heap s'.heap ∧ s'.os = s₁.os ∧ AllBare s'.gens) s₁ := by
    intro H hO hS hok hA hK
    have base_of : ∀ {b : Addr} {o : Obj}, s₁.heap.get? b = some o → H b = none → (hidT s₁.heap H).get? b = some o := fun e n => hidT_get e n
    have noA : ∀ {b : Addr} {o : Obj} {es : Array DictEntry} {ep : Nat}, s₁.heap.get? b = some o → o.data = .dict es ep → H b = none := fun {b o es ep} e d => by
      cases q : H b with
      | none => rfl
      | some u =>
        have e' : b = a := hA b (by rw [q]; simp)
        subst e'
        rw [ha] at e; cases e
        have d' : Data.seq vs.toArray _ = Data.dict es ep := d
        cases d'
    have nsK : ∀ {b : Addr} {m : Str → Option Value}, s₁.heap.Ns b m → (hidT s₁.heap H).Ns b m := fun {b m} ⟨o, es, ep, e, d, r⟩ => ⟨o, es, ep, base_of e (noA e d), d, r⟩
    have hKb : K.In (hidT s₁.heap H) := fun b o e => base_of (KX b o e) (by
      cases q : H b with
      | none => rfl
      | some u =>
        have e' : b = a := hA b (by rw [q]; simp)
        subst e'
        rw [hK (by rw [q]; simp)] at e; cases e)
    have hM : Mod K mg (hidT s₁.heap H) := ⟨hKb, nsK hns, ⟨mb, nsK hb, hbb⟩, let ⟨mc, h1, h2⟩ := hlim; ⟨mc, nsK h1, h2⟩⟩
    have e0 : Env0 P w K mg (hidT s₁.heap H) callerA [] s₁ H := ⟨rfl, hM, fun b o e => of_hidT e, Nat.le_of_eq (hidT_size _ _), trivial, fun b hb => absurd (show b ∈ ([] : List Addr) from hb) (by simp), hok, .of_eq hg⟩
    refine codeAny_mono ((F _ hKb (nsK hns)).run callerA [] s₁ H ⟨[.ref a], []⟩ [.ref a] [.ref a] _ _ hr e0 (hbind s₁ (.ref a)) (.cons rfl .nil) (hsp H hO hS)) fun r s' h => ?_
    cases r with
    | error e => exact (hCX H e s' h).elim
    | ok fl =>
      cases fl with
      | next => exact False.elim h
      | brk => exact False.elim h
      | cont => exact False.elim h
      | ret u =>
        obtain ⟨v, H', os, bare, un, hok', r', q⟩ := h
        have q' : v = .bl true := q
        subst q'
        obtain rfl : u = Value.bool true := r'
        refine ⟨rfl, OldK.of_keep fun b o e => ?_, os, bare⟩
        cases q : H b with
        | none => exact un.keep b o e q (by intro z; exact absurd (show b ∈ ([] : List Addr) from z) (by simp)) (by simp)
        | some u =>
          rcases hO b with z | ⟨ob, xs, z⟩
          · rw [q] at z; cases z
          · have z2 := un.frzs b ob _ z
            obtain ⟨e1, _⟩ := hok b _ z
            obtain ⟨e2, _⟩ := hok' b _ z2
            rw [e] at e1; cases e1
            exact e2
  cases hk : K.lookup a with
  | some o =>
    
    have e := KX a o hk
    rw [ha] at e
    cases e
    refine core (fun _ => none) (fun _ => .inl rfl) (.inr ⟨_, vs.toArray, _, hk, rfl, rfl, rfl, by rw [List.size_toArray, lenV]; exact hl, by simpa using rv⟩) (fun b u z => by have z' : (none : Option HO) = some u := z; cases z') (fun b z => absurd rfl z) fun z => absurd rfl z
  | none =>
    refine core (fun b => if b = a then some (.frz { cls := .type "list", data := .seq vs.toArray } (.lst (ns.map V.int))) else none) (fun b => ?_) (.inl (.inr ⟨{ cls := .type "list", data := .seq vs.toArray }, if_pos rfl⟩)) (fun b u z => ?_) (fun b z => ?_) fun _ => hk
    · by_cases hb : b = a
      · exact .inr ⟨_, _, if_pos hb⟩
      · exact .inl (if_neg hb)
    · by_cases hb : b = a
      · have z' := (if_pos hb).symm.trans z
        cases z'
        subst hb
        exact ⟨ha, by rw [List.length_map]; exact hl, vs, _, rv, ha⟩
      · have z' := (if_neg hb).symm.trans z
        cases z'
    · by_cases hb : b = a
      · exact hb
      · exact absurd (if_neg hb) z
end L2

namespace L2
open PySem PySem.Spec PyProof.Rows

theorem walk_of {l : PySem.W.OpenLaw} {n k : Nat} {q : Program} {loose : List Str} {XP : (Str → Option Value) → Heap → Prop} {YP : World → Heap → Prop} {d : DefRec} {K : Params → PySem.W.Frag} {CX : World → CXT} {sp : World → Sp} {x : Str}
    (hn : l.most = some n) (hn2 : n ≤ sizeLine) (hdf : d.params.defaults = []) (hr : Room k callerA)
    (hY : ∀ (w : World) (h : Heap), YP w h → (K w.params).In h)
    (F : ∀ (w : World) (mg : Str → Option Value) (fa : Addr) (h : Heap), (K w.params).In h → h.Ns mainGlobals mg → mg d.name = some (.ref fa) →
      ∃ fd : FuncData, (∀ (s : Shared) (u : Value), BindsTo s fd ⟨[u], []⟩ [(x, u)]) ∧
        ∀ base : Heap, (K w.params).In base → base.Ns mainGlobals mg → FnOk l.prog w (K w.params) mg base (CX w) k fa fd [x] (sp w))
    (hsp : ∀ (w : World) (H : Hp) (a : Addr) (ns : List Int), ns.length ≤ n → Only H → SqL (K w.params) H a (ns.map V.int) → sp w [.ref a] H (fun v _ => v = .bl true) fun _ _ _ => False)
    (hCX : ∀ (w : World) (H : Hp) (s : Shared) (e : Value) (s' : Shared), CX w [] H s (fun _ _ _ => False) e s' → False) :
    PySem.W.WalkO q loose XP YP l.row.toRowW d [] (fun f vs => PySem.call f vs) := by
  refine Att.attach_call hn hdf fun w s₀ s₁ mg mb fa o pm cd doc a vs ns G Y ho hd hcd hmg hobj hints hlen hg => ?_
  have KX := hY w _ Y
  obtain ⟨fd, hb, hF⟩ := F w mg fa _ KX G.T.g hmg
  exact law_call KX G.T.g G.T.b G.T.builtins G.T.nolimit hg hobj hints (Nat.le_trans hlen hn2) hr hF hb (fun H hO hS => hsp w H a ns hlen hO hS) fun H e s' => hCX w H s₁ e s'
end L2


namespace L2
open PySem PySem.Spec PyProof.Rows

noncomputable def defArgs (s : Stmt) : Arguments := match s with
  | .FunctionDef _ a _ _ _ _ _ _ _ _ => a
  | _ => { posonlyargs := [], args := [], vararg := none, kwonlyargs := [], kw_defaults := [], kwarg := none, defaults := [] }
noncomputable def defBody (s : Stmt) : List Stmt := match s with
  | .FunctionDef _ _ b _ _ _ _ _ _ _ => b
  | _ => []
noncomputable def defScope (s : Stmt) : Scope := match s with
  | .FunctionDef _ _ _ _ _ _ sc _ _ _ => sc
  | _ => { kind := .function, names := [], isGenerator := false, isCoroutine := false }

noncomputable abbrev CX0 : CXT := fun _ _ _ _ _ _ => False
noncomputable abbrev E0 : XK := fun _ _ _ => False
structure Fun (K : PySem.W.Frag) (x qual : Str) (st : Stmt) (f : Addr) (fd : FuncData) : Prop where
  ex : ∃ (oc : Value) (od : Option Addr) (kV doc pm : Value) (an : Option Addr) (cdv ct : Value) (osl : Array (Option Value)),
    fd = PySem.W.fnOf x qual (defArgs st) (defBody st) (defScope st) .none kV doc pm an cdv ct ∧ K.lookup f = some ⟨oc, od, .func fd, osl⟩ ∧ PySem.W.codeIn K cdv qual = true
  kp : PySem.W.keepIn K (.ref f) = true
section
variable {P : Program} {w : World} {K : PySem.W.Frag} {mg : Str → Option Value} {base : Heap}
theorem Fun.ok {x qual : Str} {st : Stmt} {f : Addr} {fd : FuncData} {N ps : List Str} {k : Nat} {sp : Sp} (F : Fun K x qual st f fd) (S : FnScope N ps (defScope st)) (len : ∀ vs H Q E, sp vs H Q E → vs.length = ps.length)
    (hbody : ∀ (cdv : Value) (A : Around) (outer : List Env) (s : Shared) (H : Hp) (vs : List V) (Q : VK) (E : XK), Room k (A.deeper (envOfC qual (defScope st) s.heap.objs.size f cdv)) → sp vs H Q E →
      ∃ t, PSs (cxOf CX0 P w K mg base N qual (defScope st) f cdv A outer s H E).nox (defBody st) t ∧ t { nx := fun _ H' => Q .non H', rt := Q } (start N vs) H) : FnOk P w K mg base CX0 (k + 1) f fd ps sp := by
  obtain ⟨oc, od, kV, doc, pm, an, cdv, ct, osl, rfl, lk, hcd⟩ := F.ex
  refine fn_of lk hcd S len fun A outer s H vs Q E hr hsp => ?_
  obtain ⟨t, h, q⟩ := hbody cdv A outer s H vs Q E hr hsp
  exact ⟨t, h.nox, q⟩
theorem Fun.binds {x qual : Str} {st : Stmt} {f : Addr} {fd : FuncData} {ps : List Str} (F : Fun K x qual st f fd)
    (h : ∀ (kV doc pm : Value) (an : Option Addr) (cdv ct : Value) (us : List Value), us.length = ps.length → bindArgs (PySem.W.fnOf x qual (defArgs st) (defBody st) (defScope st) .none kV doc pm an cdv ct) ⟨us, []⟩ = pure (ps.zip us)) : Binds K fd ps [] := by
  obtain ⟨oc, od, kV, doc, pm, an, cdv, ct, osl, rfl, lk, hcd⟩ := F.ex
  exact .all (h kV doc pm an cdv ct)
theorem fun_mk {x qual : Str} {st : Stmt} {f : Addr} {oc : Value} {od an : Option Addr} {osl : Array (Option Value)} {kV doc pm cdv ct : Value} (l : K.lookup f = some ⟨oc, od, .func (PySem.W.fnOf x qual (defArgs st) (defBody st) (defScope st) .none kV doc pm an cdv ct), osl⟩)
    (c : PySem.W.codeIn K cdv qual = true) (k : PySem.W.keepIn K (.ref f) = true) : Fun K x qual st f (PySem.W.fnOf x qual (defArgs st) (defBody st) (defScope st) .none kV doc pm an cdv ct) := ⟨⟨oc, od, kV, doc, pm, an, cdv, ct, osl, rfl, l, c⟩, k⟩
end
section
variable {X : Cx}
end

noncomputable def Same (H H' : Hp) : Prop := ∀ b o, H b = some o → H' b = some o
theorem Same.refl (H : Hp) : Same H H := fun _ _ h => h
theorem Same.trans {H H1 H2 : Hp} (a : Same H H1) (b : Same H1 H2) : Same H H2 := fun c o h => b c o (a c o h)
theorem Same.free {H H' : Hp} (e : Same H H') {l : Addr} (h : H' l = Option.none) : H l = Option.none := by
  cases q : H l with
  | none => rfl
  | some o =>
    rw [e l o q] at h
    cases h
theorem Same.seq {K : PySem.W.Frag} {H H' : Hp} {a : Addr} {xs : List V} (e : Same H H') (h : SqL K H a xs) : SqL K H' a xs := by
  rcases h with (h | ⟨o, h⟩) | h
  · exact .inl (.inl (e _ _ h))
  · exact .inl (.inr ⟨o, e _ _ h⟩)
  · exact .inr h

end L2

namespace L3
open PySem PySem.Spec PyProof.Rows L2

noncomputable abbrev Sg := L2.St
inductive D where
  | non | bl (b : Bool) | int (i : Int) | str (x : Str) | lst (ds : List D) | tup (ds : List D) | dic (kvs : List (Key × D))
  | exn (c : Str) (ns : List Str) (vs : List D) | obj (c : Str) (ns : List Str) (vs : List D)

structure Xn where
  c : Str
  ns : List Str
  vs : List D

inductive R (α : Type) where
  | ok (a : α) | ex (x : Xn) | no
namespace R
noncomputable def bind {α β : Type} (r : R α) (k : α → R β) : R β := match r with
  | .ok a => k a
  | .ex x => .ex x
  | .no => .no
@[simp] theorem bind_ok {α β : Type} (a : α) (k : α → R β) : (R.ok a).bind k = k a := rfl
@[simp] theorem bind_ex {α β : Type} (x : Xn) (k : α → R β) : (R.ex x).bind k = .ex x := rfl
@[simp] theorem bind_no {α β : Type} (k : α → R β) : (R.no).bind k = .no := rfl
end R

inductive Tn where
  | sh (d : D) | lst (ts : List Tn) | tup (ts : List Tn) | dic (kts : List (Key × Tn)) | obj (c : Str) (ns : List Str) (ts : List Tn)
mutual
noncomputable def Tn.d : Tn → D
  | .sh d => d
  | .lst ts => .lst (Tn.ds ts)
  | .tup ts => .tup (Tn.ds ts)
  | .dic kts => .dic (Tn.ks kts)
  | .obj c ns ts => .obj c ns (Tn.ds ts)
noncomputable def Tn.ds : List Tn → List D
  | [] => []
  | t :: ts => t.d :: Tn.ds ts
noncomputable def Tn.ks : List (Key × Tn) → List (Key × D)
  | [] => []
  | (k, t) :: ts => (k, t.d) :: Tn.ks ts
end
noncomputable def Tn.of : D → Tn
  | .lst ds => .lst (ds.map .sh)
  | .dic kvs => .dic (kvs.map fun p => (p.1, .sh p.2))
  | .obj c ns vs => .obj c ns (vs.map .sh)
  | d => .sh d
theorem Tn.ds_sh : ∀ ds : List D, Tn.ds (ds.map .sh) = ds
  | [] => rfl
  | d :: ds => by
    show (Tn.sh d).d :: Tn.ds (ds.map .sh) = _
    rw [Tn.ds_sh ds]; rfl
theorem Tn.ks_sh : ∀ kvs : List (Key × D), Tn.ks (kvs.map fun p => (p.1, Tn.sh p.2)) = kvs
  | [] => rfl
  | (k, d) :: kvs => by
    show (k, (Tn.sh d).d) :: Tn.ks (kvs.map fun p => (p.1, Tn.sh p.2)) = _
    rw [Tn.ks_sh kvs]; rfl
theorem Tn.ks_fst : ∀ kts : List (Key × Tn), (Tn.ks kts).map (·.1) = kts.map (·.1)
  | [] => rfl
  | (k, t) :: kts => by show k :: (Tn.ks kts).map (·.1) = _; rw [Tn.ks_fst kts]; rfl
theorem Tn.ks_snd : ∀ kts : List (Key × Tn), (Tn.ks kts).map (·.2) = Tn.ds (kts.map (·.2))
  | [] => rfl
  | (k, t) :: kts => by show t.d :: (Tn.ks kts).map (·.2) = _; rw [Tn.ks_snd kts]; rfl
theorem Tn.of_d (d : D) : (Tn.of d).d = d := by
  cases d with
  | lst ds => show D.lst (Tn.ds (ds.map .sh)) = _; rw [Tn.ds_sh]
  | dic kvs => show D.dic (Tn.ks (kvs.map fun p => (p.1, .sh p.2))) = _; rw [Tn.ks_sh]
  | obj c ns vs => show D.obj c ns (Tn.ds (vs.map .sh)) = _; rw [Tn.ds_sh]
  | _ => rfl
inductive W where
  | sh (d : D) | ow (d : D) | tr (t : Tn)
noncomputable def W.d : W → D
  | .sh d => d
  | .ow d => d
  | .tr t => t.d
@[simp] theorem W.d_sh (d : D) : (W.sh d).d = d := rfl
@[simp] theorem W.d_ow (d : D) : (W.ow d).d = d := rfl
@[simp] theorem W.d_tr (t : Tn) : (W.tr t).d = t.d := rfl

noncomputable def ClsAt (K : PySem.W.Frag) (c : Str) (C : Addr) : Prop := PySem.W.nsIn K mainGlobals c = some (some (.ref C))
noncomputable def XO (a C : Addr) (dx : Option Addr) : HO := .ext fun h => ∃ us sl, h.get? a = some ⟨.ref C, dx, .fields us, sl⟩
mutual
inductive Has (K : PySem.W.Frag) (G : Hp) : V → D → Prop where
  | non : Has K G .non .non
  | bl (b : Bool) : Has K G (.bl b) (.bl b)
  | int (i : Int) : Has K G (.int i) (.int i)
  | str (x : Str) : Has K G (.str x) (.str x)
  | lst {a : Addr} {vs : List V} {ds : List D} (h : SqL K G a vs) (r : HasL K G vs ds) : Has K G (.ref a) (.lst ds)
  | tup {a : Addr} {vs : List V} {ds : List D} (h : SqT K G a vs) (r : HasL K G vs ds) : Has K G (.ref a) (.tup ds)
  | exn0 {a C : Addr} {c : Str} (hc : ClsAt K c C) (h : G a = some (XO a C none)) : Has K G (.ref a) (.exn c [] [])
  | exn1 {a C d : Addr} {c : Str} {ns : List Str} {us : List V} {vs : List D} (hc : ClsAt K c C) (h : G a = some (XO a C (some d))) (hd : G d = some (.xd (ns.zip us))) (hl : ns.length = us.length) (r : HasL K G us vs) : Has K G (.ref a) (.exn c ns vs)
  | dic {a : Addr} {kvs : List (Key × V)} {kds : List (Key × D)} (h : Rd G a (.dK kvs)) (hk : kvs.map (·.1) = kds.map (·.1)) (r : HasL K G (kvs.map (·.2)) (kds.map (·.2))) : Has K G (.ref a) (.dic kds)
  | obj {a C dx : Addr} {c : Str} {ns : List Str} {us : List V} {vs : List D} (hc : ClsAt K c C) (h : G a = some (.ins C dx (ns.zip us))) (hl : ns.length = us.length) (r : HasL K G us vs) : Has K G (.ref a) (.obj c ns vs)
inductive HasL (K : PySem.W.Frag) (G : Hp) : List V → List D → Prop where
  | nil : HasL K G [] []
  | cons {v : V} {d : D} {vs : List V} {ds : List D} (h : Has K G v d) (r : HasL K G vs ds) : HasL K G (v :: vs) (d :: ds)
end

noncomputable abbrev AS := Addr → Prop
mutual
inductive Ow (K : PySem.W.Frag) (G H : Hp) : V → Tn → AS → Prop where
  | sh {v : V} {d : D} {S : AS} (h : Has K G v d) : Ow K G H v (.sh d) S
  | lst {a : Addr} {vs : List V} {ts : List Tn} {S S1 : AS} (h : H a = some (.lst vs)) (ha : S a) (sub : ∀ b, S1 b → S b ∧ b ≠ a) (r : OwL K G H vs ts S1) : Ow K G H (.ref a) (.lst ts) S
  | tup {a : Addr} {vs : List V} {ts : List Tn} {S S1 : AS} (h : H a = some (.tup vs)) (ha : S a) (sub : ∀ b, S1 b → S b ∧ b ≠ a) (r : OwL K G H vs ts S1) : Ow K G H (.ref a) (.tup ts) S
  | dic {a : Addr} {kvs : List (Key × V)} {kts : List (Key × Tn)} {S S1 : AS} (h : H a = some (.dK kvs)) (hk : kvs.map (·.1) = kts.map (·.1)) (ha : S a) (sub : ∀ b, S1 b → S b ∧ b ≠ a) (r : OwL K G H (kvs.map (·.2)) (kts.map (·.2)) S1) : Ow K G H (.ref a) (.dic kts) S
  | obj {a C dx : Addr} {c : Str} {ns : List Str} {us : List V} {ts : List Tn} {S S1 : AS} (hc : ClsAt K c C) (h : H a = some (.ins C dx (ns.zip us))) (hl : ns.length = us.length) (ha : S a) (sub : ∀ b, S1 b → S b ∧ b ≠ a) (r : OwL K G H us ts S1) : Ow K G H (.ref a) (.obj c ns ts) S
inductive OwL (K : PySem.W.Frag) (G H : Hp) : List V → List Tn → AS → Prop where
  | nil {S : AS} : OwL K G H [] [] S
  | cons {v : V} {t : Tn} {vs : List V} {ts : List Tn} {S S1 S2 : AS} (h : Ow K G H v t S1) (r : OwL K G H vs ts S2) (dj : ∀ b, S1 b → S2 b → False) (s1 : ∀ b, S1 b → S b) (s2 : ∀ b, S2 b → S b) : OwL K G H (v :: vs) (t :: ts) S
end

theorem Same.rdD {H H' : Hp} {a : Addr} {u : HO} (e : Same H H') (h : Rd H a u) : Rd H' a u := by
  rcases h with h | ⟨o, h⟩
  · exact .inl (e _ _ h)
  · exact .inr ⟨o, e _ _ h⟩
theorem Same.tupS {K : PySem.W.Frag} {H H' : Hp} {a : Addr} {xs : List V} (e : Same H H') (h : SqT K H a xs) : SqT K H' a xs := by
  rcases h with (h | ⟨o, h⟩) | h
  · exact .inl (.inl (e _ _ h))
  · exact .inl (.inr ⟨o, e _ _ h⟩)
  · exact .inr h
mutual
theorem Has.mono {K : PySem.W.Frag} {G G' : Hp} (e : Same G G') : ∀ {v : V} {d : D}, Has K G v d → Has K G' v d
  | _, _, .non => .non
  | _, _, .bl b => .bl b
  | _, _, .int i => .int i
  | _, _, .str x => .str x
  | _, _, .lst h r => .lst (e.seq h) (HasL.mono e r)
  | _, _, .tup h r => .tup (Same.tupS e h) (HasL.mono e r)
  | _, _, .exn0 hc h => .exn0 hc (e _ _ h)
  | _, _, .exn1 hc h hd hl r => .exn1 hc (e _ _ h) (e _ _ hd) hl (HasL.mono e r)
  | _, _, .dic h hk r => .dic (Same.rdD e h) hk (HasL.mono e r)
  | _, _, .obj hc h hl r => .obj hc (e _ _ h) hl (HasL.mono e r)
theorem HasL.mono {K : PySem.W.Frag} {G G' : Hp} (e : Same G G') : ∀ {vs : List V} {ds : List D}, HasL K G vs ds → HasL K G' vs ds
  | _, _, .nil => .nil
  | _, _, .cons h r => .cons (Has.mono e h) (HasL.mono e r)
end
theorem HasL.length {K : PySem.W.Frag} {G : Hp} : ∀ {vs : List V} {ds : List D}, HasL K G vs ds → vs.length = ds.length
  | _, _, .nil => rfl
  | _, _, .cons _ r => by rw [List.length_cons, List.length_cons, r.length]
theorem HasL.append {K : PySem.W.Frag} {G : Hp} : ∀ {vs ws : List V} {ds es : List D}, HasL K G vs ds → HasL K G ws es → HasL K G (vs ++ ws) (ds ++ es)
  | _, _, _, _, .nil, s => s
  | _, _, _, _, .cons h r, s => .cons h (r.append s)
theorem HasL.get {K : PySem.W.Frag} {G : Hp} : ∀ {vs : List V} {ds : List D} {i : Nat} {d : D}, HasL K G vs ds → ds[i]? = some d → ∃ v, vs[i]? = some v ∧ Has K G v d
  | _, _, _, _, .nil, e => by simp at e
  | _, _, 0, _, .cons h _, e => by simp at e; subst e; exact ⟨_, rfl, h⟩
  | _, _, i + 1, d, .cons _ r, e => by
    obtain ⟨u, h1, h2⟩ := HasL.get (i := i) (d := d) r (by simpa using e)
    exact ⟨u, by simpa using h1, h2⟩
theorem HasL.take {K : PySem.W.Frag} {G : Hp} : ∀ {vs : List V} {ds : List D} (n : Nat), HasL K G vs ds → HasL K G (vs.take n) (ds.take n)
  | _, _, 0, _ => .nil
  | _, _, _ + 1, .nil => .nil
  | _, _, n + 1, .cons h r => .cons h (HasL.take n r)
theorem HasL.drop {K : PySem.W.Frag} {G : Hp} : ∀ {vs : List V} {ds : List D} (n : Nat), HasL K G vs ds → HasL K G (vs.drop n) (ds.drop n)
  | _, _, 0, r => r
  | _, _, _ + 1, .nil => .nil
  | _, _, n + 1, .cons _ r => HasL.drop n r
theorem HasL.set {K : PySem.W.Frag} {G : Hp} {v : V} {d : D} (h : Has K G v d) : ∀ {vs : List V} {ds : List D} (i : Nat), HasL K G vs ds → HasL K G (vs.set i v) (ds.set i d)
  | _, _, _, .nil => .nil
  | _, _, 0, .cons _ r => .cons h r
  | _, _, i + 1, .cons q r => .cons q (HasL.set h i r)
mutual
theorem Ow.mono {K : PySem.W.Frag} {G G' H H' : Hp} (e : Same G G') : ∀ {v : V} {d : Tn} {S S' : AS}, Ow K G H v d S → (∀ b o, S b → H b = some o → H' b = some o) → (∀ b, S b → S' b) → Ow K G' H' v d S'
  | _, _, _, _, .sh h, _, _ => .sh (h.mono e)
  | _, _, _, _, .lst h ha sub r, f, i => .lst (f _ _ ha h) (i _ ha) (fun b hb => ⟨i b (sub b hb).1, (sub b hb).2⟩) (OwL.mono e r (fun b o hb q => f b o (sub b hb).1 q) fun _ q => q)
  | _, _, _, _, .tup h ha sub r, f, i => .tup (f _ _ ha h) (i _ ha) (fun b hb => ⟨i b (sub b hb).1, (sub b hb).2⟩) (OwL.mono e r (fun b o hb q => f b o (sub b hb).1 q) fun _ q => q)
  | _, _, _, _, .dic h hk ha sub r, f, i => .dic (f _ _ ha h) hk (i _ ha) (fun b hb => ⟨i b (sub b hb).1, (sub b hb).2⟩) (OwL.mono e r (fun b o hb q => f b o (sub b hb).1 q) fun _ q => q)
  | _, _, _, _, .obj hc h hl ha sub r, f, i => .obj hc (f _ _ ha h) hl (i _ ha) (fun b hb => ⟨i b (sub b hb).1, (sub b hb).2⟩) (OwL.mono e r (fun b o hb q => f b o (sub b hb).1 q) fun _ q => q)
theorem OwL.mono {K : PySem.W.Frag} {G G' H H' : Hp} (e : Same G G') : ∀ {vs : List V} {ds : List Tn} {S S' : AS}, OwL K G H vs ds S → (∀ b o, S b → H b = some o → H' b = some o) → (∀ b, S b → S' b) → OwL K G' H' vs ds S'
  | _, _, _, _, .nil, _, _ => .nil
  | _, _, _, _, .cons h r dj s1 s2, f, i => .cons (Ow.mono e h (fun b o hb q => f b o (s1 b hb) q) fun _ q => q) (OwL.mono e r (fun b o hb q => f b o (s2 b hb) q) fun _ q => q) dj (fun b q => i b (s1 b q)) fun b q => i b (s2 b q)
end
mutual
theorem Ow.has {K : PySem.W.Frag} {G G' H : Hp} (e : Same G G') : ∀ {v : V} {d : Tn} {S : AS}, Ow K G H v d S → (∀ b o, S b → H b = some o → G' b = some o) → Has K G' v d.d
  | _, _, _, .sh h, _ => h.mono e
  | _, _, _, .lst h ha sub r, f => .lst (SqL.of (f _ _ ha h)) (OwL.has e r fun b o hb q => f b o (sub b hb).1 q)
  | _, _, _, .tup h ha sub r, f => .tup (SqT.of (f _ _ ha h)) (OwL.has e r fun b o hb q => f b o (sub b hb).1 q)
  | _, _, _, .dic h hk ha sub r, f => .dic (.inl (f _ _ ha h)) (by rw [Tn.ks_fst]; exact hk) (by rw [Tn.ks_snd]; exact OwL.has e r fun b o hb q => f b o (sub b hb).1 q)
  | _, _, _, .obj hc h hl ha sub r, f => .obj hc (f _ _ ha h) hl (OwL.has e r fun b o hb q => f b o (sub b hb).1 q)
theorem OwL.has {K : PySem.W.Frag} {G G' H : Hp} (e : Same G G') : ∀ {vs : List V} {ds : List Tn} {S : AS}, OwL K G H vs ds S → (∀ b o, S b → H b = some o → G' b = some o) → HasL K G' vs (Tn.ds ds)
  | _, _, _, .nil, _ => .nil
  | _, _, _, .cons h r dj s1 s2, f => .cons (Ow.has e h fun b o hb q => f b o (s1 b hb) q) (OwL.has e r fun b o hb q => f b o (s2 b hb) q)
end
theorem OwL.of {K : PySem.W.Frag} {G H : Hp} : ∀ {vs : List V} {ds : List D} {S : AS}, HasL K G vs ds → OwL K G H vs (ds.map .sh) S
  | _, _, _, .nil => .nil
  | _, _, _, .cons h r => .cons (S1 := fun _ => False) (S2 := fun _ => False) (.sh h) (OwL.of r) (fun _ z _ => z) (fun _ z => z.elim) fun _ z => z.elim
theorem OwL.off {K : PySem.W.Frag} {G H : Hp} : ∀ {vs : List V} {ds : List D} {S : AS}, OwL K G H vs (ds.map .sh) S → HasL K G vs ds
  | _, [], _, h => by cases h; exact .nil
  | _, d :: ds, _, h => by
    cases h with
    | cons h r dj s1 s2 =>
      cases h with
      | sh h => exact .cons h (OwL.off r)
theorem OwL.length {K : PySem.W.Frag} {G H : Hp} : ∀ {vs : List V} {ds : List Tn} {S : AS}, OwL K G H vs ds S → vs.length = ds.length
  | _, _, _, .nil => rfl
  | _, _, _, .cons _ r _ _ _ => by rw [List.length_cons, List.length_cons, r.length]
theorem Ow.list {K : PySem.W.Frag} {G H : Hp} {a : Addr} {vs : List V} {ds : List D} {S : AS} (h : H a = some (.lst vs)) (ha : S a) (r : HasL K G vs ds) : Ow K G H (.ref a) (Tn.of (.lst ds)) S :=
  .lst (S1 := fun _ => False) h ha (fun _ z => z.elim) (.of r)
theorem Ow.list_of {K : PySem.W.Frag} {G H : Hp} {v : V} {ds : List D} {S : AS} (t : Ow K G H v (Tn.of (.lst ds)) S) : ∃ a vs, v = .ref a ∧ S a ∧ H a = some (.lst vs) ∧ HasL K G vs ds := by
  cases t with
  | lst h ha sub r => exact ⟨_, _, rfl, ha, h, r.off⟩
theorem map_sh (kds : List (Key × D)) : (kds.map fun p => (p.1, Tn.sh p.2)).map (·.2) = (kds.map (·.2)).map Tn.sh := by
  rw [List.map_map, List.map_map]; rfl
theorem map_sh1 (kds : List (Key × D)) : (kds.map fun p => (p.1, Tn.sh p.2)).map (·.1) = kds.map (·.1) := by
  rw [List.map_map]; rfl
theorem Ow.dict {K : PySem.W.Frag} {G H : Hp} {a : Addr} {kvs : List (Key × V)} {kds : List (Key × D)} {S : AS} (h : H a = some (.dK kvs)) (hk : kvs.map (·.1) = kds.map (·.1)) (ha : S a) (r : HasL K G (kvs.map (·.2)) (kds.map (·.2))) : Ow K G H (.ref a) (Tn.of (.dic kds)) S :=
  .dic (S1 := fun _ => False) h (by rw [map_sh1]; exact hk) ha (fun _ z => z.elim) (by rw [map_sh]; exact .of r)
structure Step (G H G' H' : Hp) : Prop where
  hh : Same H H'
  gh : Same G' H'
  gg : Same G G'
  nw : ∀ b, G b = none → H b ≠ none → G' b = none
theorem Step.refl {G H : Hp} (h : Same G H) : Step G H G H := ⟨Same.refl _, h, Same.refl _, fun _ e _ => e⟩
theorem Step.trans {G H G1 H1 G2 H2 : Hp} (a : Step G H G1 H1) (b : Step G1 H1 G2 H2) : Step G H G2 H2 :=
  ⟨a.hh.trans b.hh, b.gh, a.gg.trans b.gg, fun c e n => b.nw c (a.nw c e n) fun z => n (a.hh.free z)⟩
theorem same_new {H : Hp} {p : Addr} (h : H p = none) (o : HO) : Same H (upd H p o) := fun b u q => by rw [upd_ne (ne_of_none q h)]; exact q
theorem same_upd {G H : Hp} (h : Same G H) (p : Addr) (o : HO) : Same (upd G p o) (upd H p o) := fun b u q => by
  by_cases e : b = p
  · subst e; rw [upd_same] at q ⊢; exact q
  · rw [upd_ne e] at q ⊢; exact h b u q
theorem Step.new {G H : Hp} (h : Same G H) {p : Addr} (e : H p = none) (o : HO) : Step G H (L2.upd G p o) (L2.upd H p o) :=
  ⟨same_new e o, same_upd h p o, same_new (h.free e) o, fun b n z => by
    by_cases q : b = p
    · subst q; exact absurd e z
    · rw [upd_ne q]; exact n⟩
theorem Step.own {G H : Hp} (h : Same G H) {p : Addr} (e : H p = none) (o : HO) : Step G H G (L2.upd H p o) :=
  ⟨same_new e o, h.trans (same_new e o), Same.refl _, fun _ n _ => n⟩
theorem Step.give {G H : Hp} {p : Addr} {o : HO} (h : Same G H) (n : G p = none) (e : H p = some o) : Same (L2.upd G p o) H ∧ Same G (L2.upd G p o) :=
  ⟨fun b u q => by
    by_cases z : b = p
    · subst z; rw [upd_same] at q; rw [e]; exact q
    · rw [upd_ne z] at q; exact h b u q, same_new n o⟩

open Classical in
noncomputable def joinG (G H : Hp) (S : AS) : Hp := fun b => if S b then H b else G b
noncomputable def WP (K : PySem.W.Frag) (G H : Hp) (w : W) (Q : VK) : Prop := match w with
  | .sh d => ∀ v G' H', Step G H G' H' → Has K G' v d → Q v H'
  | .ow d => ∀ v S G' H', Step G H G' H' → (∀ a, S a → H a = none ∧ G' a = none ∧ H' a ≠ none) → Ow K G' H' v (Tn.of d) S → Q v H'
  | .tr t => ∀ v S G' H', Step G H G' H' → (∀ a, S a → H a = none ∧ G' a = none ∧ H' a ≠ none) → Ow K G' H' v t S → Q v H'
structure EXT where
  p : Xn → Hp → Hp → Prop
  mono : ∀ x G H G' H', Step G H G' H' → p x G H → p x G' H'
noncomputable def EX0 : EXT := ⟨fun _ _ _ => False, fun _ _ _ _ _ _ h => h⟩
noncomputable abbrev EXS := Sg → EXT
noncomputable def EXS0 : EXS := fun _ => EX0
noncomputable def Out (K : PySem.W.Frag) (EX : EXT) (G H : Hp) (r : R W) (Q : VK) : Prop := match r with
  | .ok w => WP K G H w Q
  | .ex x => EX.p x G H
  | .no => False
section
variable {K : PySem.W.Frag} {EX : EXT} {G H G' H' : Hp} {Q Q' : VK} {w : W}
theorem WP.mono (s : Step G H G' H') (h : WP K G H w Q) : WP K G' H' w Q := by
  cases w with
  | sh d => exact fun v G2 H2 s2 r => h v G2 H2 (s.trans s2) r
  | ow d => exact fun v S G2 H2 s2 fr t => h v S G2 H2 (s.trans s2) (fun a ha => ⟨s.hh.free (fr a ha).1, (fr a ha).2⟩) t
  | tr d => exact fun v S G2 H2 s2 fr t => h v S G2 H2 (s.trans s2) (fun a ha => ⟨s.hh.free (fr a ha).1, (fr a ha).2⟩) t
theorem Out.mono {r : R W} (s : Step G H G' H') (h : Out K EX G H r Q) : Out K EX G' H' r Q := by
  cases r with
  | ok w => exact WP.mono s h
  | ex x => exact EX.mono _ _ _ _ _ s h
  | no => exact h
theorem WP.join {v : V} {t : Tn} {S : AS} (h : ∀ v G' H', Step G H G' H' → Has K G' v t.d → Q v H') (s : Step G H G' H') (fr : ∀ a, S a → H a = none ∧ G' a = none ∧ H' a ≠ none) (t : Ow K G' H' v t S) : Q v H' := by
  have sg : Same G' (joinG G' H' S) := fun b o q => by
    unfold joinG
    split
    · rename_i hb; rw [(fr b hb).2.1] at q; cases q
    · exact q
  refine h v (joinG G' H' S) H' ⟨s.hh, fun b o q => ?_, s.gg.trans sg, fun b n z => ?_⟩ (t.has sg fun b o hb q => ?_)
  · unfold joinG at q
    split at q
    · exact q
    · exact s.gh b o q
  · unfold joinG
    split
    · rename_i hb; exact absurd (fr b hb).1 z
    · exact s.nw b n z
  · unfold joinG
    rw [if_pos hb]
    exact q
theorem WP.intro (h : ∀ v G' H', Step G H G' H' → Has K G' v w.d → Q v H') : WP K G H w Q := by
  cases w with
  | sh d => exact h
  | ow d => exact fun v S G' H' s fr t => WP.join (t := Tn.of d) (by rw [Tn.of_d]; exact h) s fr t
  | tr d => exact fun v S G' H' s fr t => WP.join h s fr t
theorem WP.sh (h : WP K G H (.sh w.d) Q) : WP K G H w Q := WP.intro h
theorem WP.imp (h : WP K G H w Q) (i : ∀ v H', Q v H' → Q' v H') : WP K G H w Q' := by
  cases w with
  | sh d => exact fun v G2 H2 s2 r => i _ _ (h v G2 H2 s2 r)
  | ow d => exact fun v S G2 H2 s2 fr t => i _ _ (h v S G2 H2 s2 fr t)
  | tr d => exact fun v S G2 H2 s2 fr t => i _ _ (h v S G2 H2 s2 fr t)
theorem WP.use {d : D} {v : V} (h : WP K G H (.sh d) Q) (s : Same G H) (r : Has K G v d) : Q v H := h v G H (Step.refl s) r
end

inductive ExcAt (K : PySem.W.Frag) (G : Hp) : Value → Option Addr → Xn → Prop where
  | bare {C : Addr} {c : Str} (hc : ClsAt K c C) : ExcAt K G (.ref C) none ⟨c, [], []⟩
  | with_ {C d : Addr} {c : Str} {ns : List Str} {us : List V} {vs : List D} (hc : ClsAt K c C) (hd : G d = some (.xd (ns.zip us))) (hl : ns.length = us.length) (r : HasL K G us vs) : ExcAt K G (.ref C) (some d) ⟨c, ns, vs⟩
theorem ExcAt.mono {K : PySem.W.Frag} {G G' : Hp} (e : Same G G') {cls : Value} {dx : Option Addr} {x : Xn} (h : ExcAt K G cls dx x) : ExcAt K G' cls dx x := by
  cases h with
  | bare hc => exact .bare hc
  | with_ hc hd hl r => exact .with_ hc (e _ _ hd) hl (r.mono e)
noncomputable def EXof (K : PySem.W.Frag) (E : XK) : EXT := ⟨fun x G H => ∀ cls dx G' H', Step G H G' H' → ExcAt K G' cls dx x → E cls dx H', fun _ _ _ _ _ s h cls dx G2 H2 s2 => h cls dx G2 H2 (s.trans s2)⟩
noncomputable def EXE (K : PySem.W.Frag) (EX : EXT) : XK := fun cls dx H => ∃ x G, Same G H ∧ ExcAt K G cls dx x ∧ EX.p x G H
theorem EXE.of {K : PySem.W.Frag} {E : XK} {cls : Value} {dx : Option Addr} {H : Hp} (h : EXE K (EXof K E) cls dx H) : E cls dx H := by
  obtain ⟨x, G, s, e, q⟩ := h
  exact q cls dx G H (Step.refl s) e
theorem EXof.in {K : PySem.W.Frag} {EX : EXT} {G H : Hp} {x : Xn} (q : EX.p x G H) : (EXof K (EXE K EX)).p x G H := fun _ _ G' H' st e => ⟨x, G', st.gh, e, EX.mono _ _ _ _ _ st q⟩
noncomputable abbrev DE := List (Option D)
noncomputable abbrev FE := DE → R W
noncomputable abbrev FT := DE → R Bool
noncomputable abbrev FA := DE → R (List D)
structure HasS (K : PySem.W.Frag) (G : Hp) (σ : Sg) (δ : DE) : Prop where
  len : σ.length = δ.length
  get : ∀ (i : Nat) (d : D), δ[i]? = some (some d) → ∃ v, σ[i]? = some (some v) ∧ Has K G v d
theorem HasS.mono {K : PySem.W.Frag} {G G' : Hp} {σ : Sg} {δ : DE} (e : Same G G') (h : HasS K G σ δ) : HasS K G' σ δ := ⟨h.len, fun i d q => by
  obtain ⟨v, e1, r⟩ := h.get i d q
  exact ⟨v, e1, r.mono e⟩⟩

noncomputable def tD (K : PySem.W.Frag) (EX : EXS) (f : FE) : TE := fun σ H Q => ∃ G δ, Same G H ∧ HasS K G σ δ ∧ Out K (EX σ) G H (f δ) Q
noncomputable def tDt (K : PySem.W.Frag) (EX : EXS) (f : FT) : TT := fun σ H Q => ∃ G δ, Same G H ∧ HasS K G σ δ ∧ match f δ with
  | .ok b => ∀ G' H', Step G H G' H' → Q b H'
  | .ex x => (EX σ).p x G H
  | .no => False
noncomputable def tDa (K : PySem.W.Frag) (EX : EXS) (f : FA) : TA := fun σ H Q => ∃ G δ, Same G H ∧ HasS K G σ δ ∧ match f δ with
  | .ok ds => ∀ vs G' H', Step G H G' H' → HasL K G' vs ds → Q vs H'
  | .ex x => (EX σ).p x G H
  | .no => False
noncomputable abbrev ED (X : Cx) (EX : EXS) (e : Expr) (f : FE) : Prop := PE X e (tD X.K EX f)
noncomputable abbrev TD (X : Cx) (EX : EXS) (e : Expr) (f : FT) : Prop := PT X e (tDt X.K EX f)
noncomputable abbrev AD (X : Cx) (EX : EXS) (es : List Expr) (f : FA) : Prop := PA X es (tDa X.K EX f)

theorem PE.imp {X : Cx} {e : Expr} {t t' : TE} (h : PE X e t) (i : ∀ σ H Q, t' σ H Q → t σ H Q) : PE X e t' := fun pins s σ H Q I q => h pins s σ H Q I (i σ H Q q)
theorem PT.imp {X : Cx} {e : Expr} {t t' : TT} (h : PT X e t) (i : ∀ σ H Q, t' σ H Q → t σ H Q) : PT X e t' := fun pins s σ H Q I q => h pins s σ H Q I (i σ H Q q)
theorem PW.imp {X : Cx} {e : Expr} {t t' : TT} (h : PW X e t) (i : ∀ σ H Q, t' σ H Q → t σ H Q) : PW X e t' := fun wh pins s σ H Q I q => h wh pins s σ H Q I (i σ H Q q)
theorem PA.imp {X : Cx} {e : List Expr} {t t' : TA} (h : PA X e t) (i : ∀ σ H Q, t' σ H Q → t σ H Q) : PA X e t' := fun pos pins s σ H Q I q => h pos pins s σ H Q I (i σ H Q q)
theorem PS.imp {X : Cx} {e : Stmt} {t t' : TS} (h : PS X e t) (i : ∀ D σ H, t' D σ H → t D σ H) : PS X e t' := fun pins s σ H D I q => h pins s σ H D I (i D σ H q)
theorem PSs.imp {X : Cx} {e : List Stmt} {t t' : TS} (h : PSs X e t) (i : ∀ D σ H, t' D σ H → t D σ H) : PSs X e t' := fun pins s σ H D I q => h pins s σ H D I (i D σ H q)

section
variable {K : PySem.W.Frag} {EX : EXS} {G H : Hp} {σ : Sg} {δ : DE} {Q : VK}
theorem tD.seq {f : FE} {k : W → R W} {P : VK} (g : Same G H) (s : HasS K G σ δ) (h : Out K (EX σ) G H ((f δ).bind k) Q)
    (i : ∀ w v G' H', f δ = .ok w → Step G H G' H' → Has K G' v w.d → Out K (EX σ) G' H' (k w) Q → P v H') : tD K EX f σ H P := by
  refine ⟨G, δ, g, s, ?_⟩
  cases e : f δ with
  | ok w =>
    rw [e] at h
    exact WP.intro fun v G' H' st r => i w v G' H' e st r (Out.mono st h)
  | ex x => rw [e] at h; exact h
  | no => rw [e] at h; exact h
theorem tDt.seq {f : FT} {k : Bool → R W} {P : Bool → Hp → Prop} (g : Same G H) (s : HasS K G σ δ) (h : Out K (EX σ) G H ((f δ).bind k) Q)
    (i : ∀ b G' H', f δ = .ok b → Step G H G' H' → Out K (EX σ) G' H' (k b) Q → P b H') : tDt K EX f σ H P := by
  refine ⟨G, δ, g, s, ?_⟩
  cases e : f δ with
  | ok w =>
    rw [e] at h
    exact fun G' H' st => i w G' H' e st (Out.mono st h)
  | ex x => rw [e] at h; exact h
  | no => rw [e] at h; exact h
theorem tDa.seq {f : FA} {k : List D → R W} {P : List V → Hp → Prop} (g : Same G H) (s : HasS K G σ δ) (h : Out K (EX σ) G H ((f δ).bind k) Q)
    (i : ∀ ds vs G' H', f δ = .ok ds → Step G H G' H' → HasL K G' vs ds → Out K (EX σ) G' H' (k ds) Q → P vs H') : tDa K EX f σ H P := by
  refine ⟨G, δ, g, s, ?_⟩
  cases e : f δ with
  | ok w =>
    rw [e] at h
    exact fun vs G' H' st r => i w vs G' H' e st r (Out.mono st h)
  | ex x => rw [e] at h; exact h
  | no => rw [e] at h; exact h
end
theorem out_own {EX : EXT} {K : PySem.W.Frag} {G H : Hp} {Q : VK} {ds : List D} {vs : List V} (o : Out K EX G H (.ok (.ow (.lst ds))) Q) (g : Same G H) (r : HasL K G vs ds) : ∀ p, H p = none → Q (.ref p) (upd H p (.lst vs)) :=
  fun p hp => o (.ref p) (fun b => b = p) G _ (Step.own g hp _) (fun a e => by subst e; exact ⟨hp, g.free hp, by rw [upd_same]; simp⟩) (.list upd_same rfl r)
end L3

namespace L3
open PySem PySem.Spec PyProof.Rows L2
structure Tr (h : Heap) (a C : Addr) (dx : Option Addr) (fl : Value) (T : Addr) : Prop where
  ob : ∃ o us, h.get? a = some o ∧ o.cls = .ref C ∧ o.dict = dx ∧ o.data = .fields us ∧ us[1]? = some (.ref T)
  ne : T ≠ a
  tb : ∃ o us, h.get? T = some o ∧ o.data = .fields us ∧ us[3]? = some fl
structure KeepX (xs fr : List Addr) (h h' : Heap) : Prop where
  same : ∀ b o, b ∉ xs → b ∉ fr → h.get? b = some o → h'.get? b = some o
  slot : ∀ b o, b ∉ xs → h.get? b = some o → ∃ sl, h'.get? b = some { o with slots := sl }
theorem KeepX.trans {xs ys fr : List Addr} {h1 h2 h3 : Heap} (a : KeepX xs fr h1 h2) (b : KeepX ys fr h2 h3) : KeepX (xs ++ ys) fr h1 h3 :=
  ⟨fun c o n m e => b.same c o (fun z => n (List.mem_append_right _ z)) m (a.same c o (fun z => n (List.mem_append_left _ z)) m e), fun c o n e => by
    obtain ⟨sl, e1⟩ := a.slot c o (fun z => n (List.mem_append_left _ z)) e
    obtain ⟨sl', e2⟩ := b.slot c _ (fun z => n (List.mem_append_right _ z)) e1
    exact ⟨sl', e2⟩⟩
theorem KeepX.of_same {xs fr : List Addr} {h h' : Heap} (k : ∀ b o, b ∉ xs → h.get? b = some o → h'.get? b = some o) : KeepX xs fr h h' :=
  ⟨fun b o n _ e => k b o n e, fun b o n e => ⟨o.slots, k b o n e⟩⟩
theorem KeepX.mono {xs ys fr : List Addr} {h h' : Heap} (k : KeepX xs fr h h') (s : ∀ b ∈ xs, b ∈ ys) : KeepX ys fr h h' :=
  ⟨fun b o n m e => k.same b o (fun z => n (s b z)) m e, fun b o n e => k.slot b o (fun z => n (s b z)) e⟩
theorem dict_map (o : Obj) (f : Array Value → Array Value) : (o.mapFields f).dict = o.dict := by
  obtain ⟨c, d, dt, sl⟩ := o
  cases dt <;> rfl
section
variable {M : Model} {A : Around} {E : Value → Shared → Prop} {s : Shared} {env : Env} {outer : List Env} {base : Heap} {L a C : Addr} {dx : Option Addr} {Q : Unit → Shared → Prop}
theorem entry_x {o : Obj} {us : Array Value} {head : Value} {b : Bool} (hfr : A.frames = some (env :: outer)) (hl : s.heap.FunFrames base (env :: outer)) (hf : env.frame = some L)
    (he : s.heap.get? a = some o) (hc : o.cls = .ref C) (hx : o.dict = dx) (hd : o.data = .fields us) (hz : 1 < us.size)
    (h : ∀ h' T, s.heap.objs.size ≤ T → KeepX [a] (frs (env :: outer)) s.heap h' → Tr h' a C dx (rawInt L) T → Q () { s with heap := h' }) :
    wpAny M A (do let fv ← frameOf env; let pl ← entryPlaceOf L b; let en ← EntryCells.newEntry head fv .none (rawInt L) .none pl; setField (.ref a) 1 en) Q E s := by
  have nfr : a ∉ frs (env :: outer) := fun hm => by
    obtain ⟨_, u, hu, hn⟩ := hl.mem hm
    rw [he] at hu
    cases hu
    exact hn us hd
  refine wpAny_bind (wpAny_frameOf_fun hfr hl hf fun h1 so => ?_)
  refine wpAny_bind (wpAny_entryPlaceOf fun pl hpl => ?_)
  unfold EntryCells.newEntry newFields
  refine wpAny_bind (wpAny_newObj_type ?_ (hpl.sizeOk5 _ _ _ _ _))
  have e1 : h1.get? a = some o := (so.2.1 a nfr).trans he
  generalize hT : ({ cls := .type "traceback", dict := none, data := .fields ([head, .ref L, .none, rawInt L, .none] ++ (if pl.isEmpty then List.replicate 6 Value.none else pl)).toArray } : Obj) = oT
  have eT : oT.data = .fields ([head, .ref L, .none, rawInt L, .none] ++ (if pl.isEmpty then List.replicate 6 Value.none else pl)).toArray := by rw [← hT]
  have e2 : (h1.push oT).get? a = some o := Heap.get?_push_of_some oT e1
  refine wpAny_setField e2 hd hz ?_
  have sz : h1.objs.size = s.heap.objs.size := so.1
  have ltA : a < s.heap.objs.size := Heap.lt_size he
  have neT : h1.objs.size ≠ a := fun z => absurd ltA (by rw [← z, sz]; exact Nat.lt_irrefl _)
  have d3 := Obj.data_mapFields hd (·.setIfInBounds 1 (Value.ref h1.objs.size))
  refine h _ h1.objs.size (by rw [sz]; exact Nat.le_refl _) ⟨fun b u n m e => ?_, fun b u n e => ?_⟩ ⟨⟨_, _, Heap.get?_update_self _ e2 (Obj.isFreed_of_fields d3), (Obj.cls_mapFields _ _).trans hc, (dict_map _ _).trans hx, d3, ?_⟩, neT, ⟨oT, _, ?_, eT, ?_⟩⟩
  · have nb : a ≠ b := fun z => n (by simp [z])
    rw [Heap.get?_update_other _ _ nb]
    exact Heap.get?_push_of_some oT ((so.2.1 b m).trans e)
  · have nb : a ≠ b := fun z => n (by simp [z])
    obtain ⟨sl, es⟩ := so.2.2 b u e
    exact ⟨sl, by rw [Heap.get?_update_other _ _ nb]; exact Heap.get?_push_of_some oT es⟩
  · simp [hz]
  · rw [Heap.get?_update_other _ _ (Ne.symm neT)]
    exact Heap.get?_push_size h1 (Obj.isFreed_of_fields eT)
  · first | (simp; done) | (rcases hpl with rfl | ⟨_, _, _, _, _, _, _, rfl⟩ <;> simp)
theorem note_first {o : Obj} {us : Array Value} (hfr : A.frames = some (env :: outer)) (hl : s.heap.FunFrames base (env :: outer)) (hf : env.frame = some L)
    (he : s.heap.get? a = some o) (hc : o.cls = .ref C) (hx : o.dict = dx) (hd : o.data = .fields us) (h1 : us[1]? = some .none)
    (h : ∀ h' T, s.heap.objs.size ≤ T → KeepX [a] (frs (env :: outer)) s.heap h' → Tr h' a C dx (rawInt L) T → Q () { s with heap := h' }) : wpAny M A (noteFrame (.ref a) env) Q E s := by
  unfold noteFrame
  simp only [hf]
  refine wpAny_bind (wpAny_field he hd h1 ?_)
  rw [if_neg (by decide)]
  exact entry_x hfr hl hf he hc hx hd (Array.getElem?_eq_some_iff.mp h1).1 h
theorem note_next {T0 : Addr} (hfr : A.frames = some (env :: outer)) (hl : s.heap.FunFrames base (env :: outer)) (hf : env.frame = some L) (t : Tr s.heap a C dx .none T0)
    (h : ∀ h' T, s.heap.objs.size ≤ T → KeepX [a, T0] (frs (env :: outer)) s.heap h' → Tr h' a C dx (rawInt L) T → Q () { s with heap := h' }) : wpAny M A (noteFrame (.ref a) env) Q E s := by
  obtain ⟨⟨o, us, he, hc, hx, hd, h1⟩, ne, ⟨oT, ws, hT, hdT, h3⟩⟩ := t
  unfold noteFrame
  simp only [hf]
  refine wpAny_bind (wpAny_field he hd h1 ?_)
  rw [if_pos (show (Value.ref T0 != Value.none) = true from by simp)]
  refine wpAny_bind (wpAny_field hT hdT h3 ?_)
  rw [if_neg (show ¬ ((Value.none == rawInt L) = true) from by simp [rawInt])]
  refine wpAny_bind (wpAny_setField hT hdT (Array.getElem?_eq_some_iff.mp h3).1 ?_)
  have oth : ∀ b, b ≠ T0 → (s.heap.update T0 (Obj.mapFields (·.setIfInBounds 3 Value.none))).get? b = s.heap.get? b := fun b hb => Heap.get?_update_other _ _ (Ne.symm hb)
  have nrec : ∀ b u, s.heap.get? b = some u → (∀ zs, u.data ≠ .fields zs) → b ≠ T0 := fun b u hb hn q => by
    subst q
    rw [hT] at hb
    cases hb
    exact hn ws hdT
  refine entry_x (s := { s with heap := s.heap.update T0 (Obj.mapFields (·.setIfInBounds 3 Value.none)) }) hfr (hl.of_keeps fun b u hb hn => ⟨u, (oth b (nrec b u hb hn)).trans hb, rfl⟩) hf ((oth a (Ne.symm ne)).trans he) hc hx hd (Array.getElem?_eq_some_iff.mp h1).1 fun h' T n k tr => h h' T ?_ ?_ tr
  · have zz : (s.heap.update T0 (Obj.mapFields (·.setIfInBounds 3 Value.none))).objs.size = s.heap.objs.size := Heap.size_update _ _ _
    rw [← zz]
    exact n
  · have na : ∀ b, b ∉ [a, T0] → b ∉ [a] := fun b nb z => nb (by rw [List.mem_singleton.mp z]; exact List.mem_cons_self)
    have nT : ∀ b, b ∉ [a, T0] → b ≠ T0 := fun b nb z => nb (by rw [z]; simp)
    exact ⟨fun b u nb m e => k.same b u (na b nb) m ((oth b (nT b nb)).trans e), fun b u nb e => k.slot b u (na b nb) ((oth b (nT b nb)).trans e)⟩
theorem flight_none {T : Addr} {fl : Value} (t : Tr s.heap a C dx fl T) (h : ∀ h', (∀ b o, b ∉ [T] → s.heap.get? b = some o → h'.get? b = some o) → Tr h' a C dx .none T → Q () { s with heap := h' }) : wpAny M A (setFlight (.ref a) none) Q E s := by
  obtain ⟨⟨o, us, he, hc, hx, hd, h1⟩, ne, ⟨oT, ws, hT, hdT, h3⟩⟩ := t
  have sz3 : 3 < ws.size := (Array.getElem?_eq_some_iff.mp h3).1
  unfold setFlight
  refine wpAny_bind (wpAny_field he hd h1 ?_)
  rw [if_pos (show (Value.ref T != Value.none) = true from by simp)]
  refine wpAny_setField hT hdT sz3 (h _ (fun b u n e => ?_) ⟨⟨o, us, ?_, hc, hx, hd, h1⟩, ne, ⟨_, _, Heap.get?_update_self _ hT (Obj.isFreed_of_fields (Obj.data_mapFields hdT _)), Obj.data_mapFields hdT _, ?_⟩⟩)
  · rw [Heap.get?_update_other _ _ (fun z => n (by simp [z]))]; exact e
  · rw [Heap.get?_update_other _ _ ne]; exact he
  · simp [sz3]
end
end L3

namespace L3
open PySem PySem.Spec PyProof.Rows L2
noncomputable def CXr (P : Program) (w : World) : CXT := fun outer H s E e s' => ∃ a C dx T H', e = .ref a ∧ s'.os = s.os ∧ AllBare s'.gens ∧ Un (frs outer) [] H H' s.heap s'.heap ∧ HOk P w H' s'.heap ∧
  Tr s'.heap a C dx .none T ∧ H' a = none ∧ H' T = none ∧ s.heap.objs.size ≤ a ∧ s.heap.objs.size ≤ T ∧ E (.ref C) dx H'
section
variable {X : Cx} {pins : List (Addr × Obj)} {σ : Sg} {H H' : Hp} {s s' : Shared}
theorem Inv.settle {ch : List Addr} {h2 : Heap} (I : Inv X pins σ H s) (I' : Inv X pins σ H' s') (n : ∀ b ∈ ch, s.heap.objs.size ≤ b ∧ H' b = none) (k : KeepX ch (frs X.stack) s'.heap h2) : Inv X pins σ H' { s' with heap := h2 } := by
  have trk : ∀ b u, H' b = some u → b ∉ ch ∧ b ∉ frs X.stack := fun b u e => ⟨fun z => (by rw [(n b z).2] at e; cases e), fun z => (by rw [I'.stkFree b z] at e; cases e)⟩
  refine I'.step (g' := s'.gens) (d' := s'.drawn) (t' := s'.toks) (ch := ch) (fun b hb => ?_) (fun b o h1 h2 h3 e _ => k.same b o h3 (fun z => ?_) e) (fun b o _ _ h3 e _ => k.slot b o h3 e) (fun _ _ _ _ z => z) (fun b o h3 e => ?_) (fun _ _ z => z) (fun _ _ _ z => z) (fun b ps z => ⟨#[], by rw [z]; simp⟩) (fun m hm => ?_) (fun b u e => ?_) I'.bare
  · have lb := (n b hb).1
    refine ⟨.inr (Nat.le_trans I.sz lb), fun z => ?_, fun x c e z => ?_, fun p hp z => ?_⟩
    · exact absurd (Nat.lt_of_lt_of_le I.lt lb) (by rw [z]; exact Nat.lt_irrefl _)
    · obtain ⟨v, hv⟩ := I.cell x c e
      exact absurd (Nat.lt_of_lt_of_le hv.lt lb) (by rw [z]; exact Nat.lt_irrefl _)
    · exact absurd (Nat.lt_of_lt_of_le (Heap.lt_size (I.pin p hp).1) lb) (by rw [z]; exact Nat.lt_irrefl _)
  · rcases List.mem_cons.mp (I'.stkSub b z) with z | z
    · exact h1 z
    · exact h2 z
  · obtain ⟨sl, q⟩ := k.slot b o h3 e
    exact ⟨_, q⟩
  · obtain ⟨o, es, ep, ho, r⟩ := hm
    have nl : X.env.locals ∉ ch := fun z => absurd (Nat.lt_of_lt_of_le I.lt (n _ z).1) (Nat.lt_irrefl _)
    obtain ⟨sl, q⟩ := k.slot _ o nl ho
    exact ⟨_, es, ep, q, r⟩
  · refine (I'.hok b u e).stay (fun c v hc q => ?_) (fun _ z => z) fun _ _ z => z
    rcases hc with rfl | hc
    · exact k.same c v (trk c u e).1 (trk c u e).2 q
    · exact k.same c v (trk c _ hc).1 (trk c _ hc).2 q
theorem Inv.raised {E : XK} {e : Value} (I : Inv X pins σ H s) (c : CXr X.prog X.w X.stack H s E e s') : ∃ a C dx T H', e = .ref a ∧ Inv X pins σ H' s' ∧ Tr s'.heap a C dx .none T ∧ H' a = none ∧ H' T = none ∧ s.heap.objs.size ≤ a ∧ s.heap.objs.size ≤ T ∧ E (.ref C) dx H' := by
  obtain ⟨a, C, dx, T, H', e1, os, br, un, hok, tr, n1, n2, z1, z2, q⟩ := c
  exact ⟨a, C, dx, T, H', e1, I.call' (ch := []) os un hok br (fun b z => absurd z (by simp)), tr, n1, n2, z1, z2, q⟩
end
section
variable {cm : Bool} {P : Program} {w : World} {K : PySem.W.Frag} {mg : Str → Option Value} {base : Heap} {N : List Str} {qual : Str} {scope : Scope} {f : Addr} {cd : Value} {A : Around} {outer : List Env} {s0 : Shared} {H0 : Hp} {E E' : XK}
theorem leaves_on {pins : List (Addr × Obj)} {σ : Sg} {H : Hp} {s s' : Shared} {e : Value} (I : Inv ({ cxOf (CXr P w) P w K mg base N qual scope f cd A outer s0 H0 E with calm := cm } : Cx) pins σ H s)
    (c : CXr P w ({ cxOf (CXr P w) P w K mg base N qual scope f cd A outer s0 H0 E with calm := cm } : Cx).stack H s E' e s') (i : ∀ cls dx H', E' cls dx H' → E cls dx H') : ({ cxOf (CXr P w) P w K mg base N qual scope f cd A outer s0 H0 E with calm := cm } : Cx).xe e s' := by
  obtain ⟨a, C, dx, T, H', rfl, I', tr, n1, n2, z1, z2, q⟩ := Inv.raised I c
  show wpAny (model P w) _ (leaving _ _) _ _ s'
  unfold leaving
  refine wpAny_bind (note_next I'.ok.frames I'.stack rfl tr fun h1 T2 z3 k1 t1 => ?_)
  refine flight_none t1 fun h2 k2 t2 => ?_
  have zT2 : H' T2 = none := I'.hok.fresh z3
  have J : Inv ({ cxOf (CXr P w) P w K mg base N qual scope f cd A outer s0 H0 E with calm := cm } : Cx) pins σ H' { s' with heap := h2 } := by
    refine Inv.settle (ch := [a, T] ++ [T2]) I I' (fun b hb => ?_) (k1.trans (KeepX.of_same k2))
    have : b = a ∨ b = T ∨ b = T2 := by simpa using hb
    rcases this with rfl | rfl | rfl
    · exact ⟨z1, n1⟩
    · exact ⟨z2, n2⟩
    · exact ⟨Nat.le_trans (Nat.le_trans (Nat.le_refl _) z1) (Nat.le_trans (Nat.le_of_lt (Heap.lt_size tr.ob.choose_spec.choose_spec.1)) z3), zT2⟩
  exact ⟨a, C, dx, T2, H', rfl, J.os, J.bare, J.base, J.hok, t2, n1, zT2, Nat.le_trans I.sz z1, Nat.le_trans I'.sz z3, i _ _ _ q⟩
theorem leaves_first {pins : List (Addr × Obj)} {σ : Sg} {H H' : Hp} {s s' : Shared} {a C : Addr} {dx : Option Addr} {o : Obj} {us : Array Value} (I : Inv ({ cxOf (CXr P w) P w K mg base N qual scope f cd A outer s0 H0 E with calm := cm } : Cx) pins σ H s)
    (I' : Inv ({ cxOf (CXr P w) P w K mg base N qual scope f cd A outer s0 H0 E with calm := cm } : Cx) pins σ H' s') (he : s'.heap.get? a = some o) (hc : o.cls = .ref C) (hx : o.dict = dx) (hd : o.data = .fields us) (h1 : us[1]? = some .none) (n1 : H' a = none) (z1 : s.heap.objs.size ≤ a) (q : E (.ref C) dx H') :
    ({ cxOf (CXr P w) P w K mg base N qual scope f cd A outer s0 H0 E with calm := cm } : Cx).xe (.ref a) s' := by
  show wpAny (model P w) _ (leaving _ _) _ _ s'
  unfold leaving
  refine wpAny_bind (note_first I'.ok.frames I'.stack rfl he hc hx hd h1 fun h1 T2 z3 k1 t1 => ?_)
  refine flight_none t1 fun h2 k2 t2 => ?_
  have zT2 : H' T2 = none := I'.hok.fresh z3
  have J : Inv ({ cxOf (CXr P w) P w K mg base N qual scope f cd A outer s0 H0 E with calm := cm } : Cx) pins σ H' { s' with heap := h2 } := by
    refine Inv.settle (ch := [a] ++ [T2]) I I' (fun b hb => ?_) (k1.trans (KeepX.of_same k2))
    have : b = a ∨ b = T2 := by simpa using hb
    rcases this with rfl | rfl
    · exact ⟨z1, n1⟩
    · exact ⟨Nat.le_trans z1 (Nat.le_trans (Nat.le_of_lt (Heap.lt_size he)) z3), zT2⟩
  exact ⟨a, C, dx, T2, H', rfl, J.os, J.bare, J.base, J.hok, t2, n1, zT2, Nat.le_trans I.sz z1, Nat.le_trans I'.sz z3, q⟩
end
end L3

namespace L3
open PySem PySem.Spec PyProof.Rows L2
section
variable {prog : Program} {w : World} {A : Around} {E : Value → Shared → Prop} {h : Heap} {g : Array GenState} {d : Drawn} {t : Nat} {os : OsState}
variable {nm q : Str} {C N : Addr} {bs bm bmB : List Value} {hdct : Bool} {sn : List Str} {sub : List Value} {ab : Bool} {col : Option Bool} {dd : Option Addr} {k0 k1 k2 k3 k5 : Option Value} {B newId initId : String}
theorem exc_tcall (FB : ExcBaseFacts B newId initId bmB) (T : OwnTail h bmB bm) {mN : Str → Option Value} {us : List Value} {fI : Addr} {oI : Obj} {Q : PySem.Fin → Shared → Prop}
    (hC : h.get? C = some (excClassObj nm q C N bs bm hdct sn sub ab col dd k0 k1 k2 k3 k5 newId)) (hn : h.Ns N mN) (hi : mN "__init__" = some (.ref fI)) (ho : h.get? fI = some oI) (hf : oI.cls = .type "function")
    (z : ∀ h' e, Heap.MadeExcOf h h' e (.ref C) us → h.objs.size ≤ e → wpAny (model prog w) A (call (.ref fI) (.ref e :: us)) (fun r s' => r = .none ∧ Q (.done (.ret (.ref e))) s') E ⟨h', g, d, t, os⟩) (hu : us.length ≤ sizeLine) :
    wpAny (model prog w) A (Builtin.«type.__call__» ⟨.ref C :: us, []⟩) Q E ⟨h, g, d, t, os⟩ := by
  wp_walk using wpAny_loadPart_at hC, wpAny_madeBy_exc hC
  refine codeAny_call_builtin_code (Code.quiet_builtin _ FB.quiet) (wpAny_check_new_subT FB T hC ?_)
  refine codeAny_exc_new_subT FB T hC ?_ hu
  show wpAny _ _ _ _ _ _
  generalize e1 : ({ cls := .type "tuple", data := .seq us.toArray } : Obj) = o1
  generalize e2 : ({ cls := .ref C, data := .fields #[.ref h.objs.size, .none, .none, .none, .bool false, .none] } : Obj) = o2
  have up : ∀ b o, h.get? b = some o → ((h.push o1).push o2).get? b = some o := fun b o e => Heap.get?_push_of_some _ (Heap.get?_push_of_some _ e)
  have ge : ((h.push o1).push o2).get? (h.objs.size + 1) = some o2 := by
    have := Heap.get?_push_size (h.push o1) (o := o2) (by rw [← e2]; rfl)
    rwa [Heap.size_push] at this
  have gt : ((h.push o1).push o2).get? h.objs.size = some o1 := Heap.get?_push_of_some _ (Heap.get?_push_size h (by rw [← e1]; rfl))
  have hC1 := up _ _ hC
  have hn1 : ((h.push o1).push o2).Ns N mN := hn.keeps up
  have cl : o2.cls = .ref C := by rw [← e2]
  have hcC : List.contains (Value.ref C :: bm) (.ref C) = true := List.contains_iff_mem.mpr (.head _)
  unfold isInstance
  repeat (first | (with_reducible refine wpAny_loadPart_at ge ?_; rw [cl]) | (with_reducible refine wpAny_isSubtype_exc hC1 ?_; rw [hcC]) | wp_step)
  change wpAny _ _ (mroOf (.ref C) >>= fun l => lookupAlong l _) _ _ _
  refine wpAny_bind (wpAny_mroOf_exc hC1 ?_)
  rw [lookupAlong_cons]
  refine wpAny_bind (wpAny_classOwn_exc hC1 hn1 ?_)
  rw [hi]
  refine wpAny_pure (wpAny_holding (wpAny_bind ?_))
  unfold bindSpecial
  refine wpAny_bind (wpAny_typeOf (T := "function") ⟨_, up _ _ ho, hf⟩ ?_)
  rw [if_pos (by decide)]
  refine wpAny_pure (wpAny_bind (wpAny_mono (z _ (h.objs.size + 1) ⟨up, Heap.get?_none_of_le (Nat.le_succ _), h.objs.size, by rw [e2]; exact ge, Heap.get?_none_of_le (Nat.le_refl _), by rw [e1]; exact gt⟩ (Nat.le_succ _)) (fun r s' hr => ?_) fun _ _ x => x))
  obtain ⟨rfl, hQ⟩ := hr
  wp_walk
  exact hQ
theorem exc_call (FB : ExcBaseFacts B newId initId bmB) (T : OwnTail h bmB bm) {mN : Str → Option Value} {us : List Value} {fI : Addr} {oI : Obj} {Q : Value → Shared → Prop}
    (hC : h.get? C = some (excClassObj nm q C N bs bm hdct sn sub ab col dd k0 k1 k2 k3 k5 newId)) (hn : h.Ns N mN) (hi : mN "__init__" = some (.ref fI)) (ho : h.get? fI = some oI) (hf : oI.cls = .type "function")
    (z : ∀ h' e, Heap.MadeExcOf h h' e (.ref C) us → h.objs.size ≤ e → wpAny (model prog w) (A.under (.builtin "type.__call__" ⟨.ref C :: us, []⟩)) (call (.ref fI) (.ref e :: us)) (fun r s' => r = .none ∧ Q (.ref e) s') E ⟨h', g, d, t, os⟩) (hu : us.length ≤ sizeLine) :
    wpAny (model prog w) A (call (.ref C) us) Q E ⟨h, g, d, t, os⟩ := by
  have f1 := tc_lookup
  have f2 := tc_bind (.ref C)
  have isT : Shared.TypeIs ⟨h, g, d, t, os⟩ (.ref C) "type" := ⟨_, hC, rfl⟩
  refine wpAny_call (codeAny_of_tree (?_ : wpAny _ _ (callAny (.ref C) _) _ _ _))
  wp_walk using wpAny_loadPart_at hC
  refine ⟨rfl, ?_⟩
  exact codeAny_call_builtin_at (Code.quiet_builtin _ (by decide +kernel)) entry_typeCall (wpAny_check_type_call_sub hC (exc_tcall FB T hC hn hi ho hf (fun h' e hm hz => z h' e hm hz) hu))
theorem exc_raise {M : Model} {env : Env} {s : Shared} {x : Sem Value} {Q : Flow → Shared → Prop} (hb : bm.contains (.type "BaseException") = true) (hh : A.handled = none)
    (z : wpAny M A x (fun v s1 => ∃ e t dx, v = .ref e ∧ s1.heap.get? C = some (excClassObj nm q C N bs bm hdct sn sub ab col dd k0 k1 k2 k3 k5 newId) ∧
      s1.heap.get? e = some { cls := .ref C, dict := dx, data := .fields #[.ref t, .none, .none, .none, .bool false, .none] } ∧ E (.ref e) s1) E s) : wpAny M A (raiseStmt env (some x) none) Q E s := by
  have hcB : (Value.ref C :: bm).contains (.type "BaseException") = true := by rw [List.contains_cons, hb, Bool.or_true]
  unfold raiseStmt
  refine wpAny_bind (wpAny_mono z (fun v s1 z1 => ?_) fun _ _ y => y)
  obtain ⟨e, t, dx, rfl, hC, he, hE⟩ := z1
  obtain ⟨hp, g, d, tk, os⟩ := s1
  repeat (first | with_reducible refine wpAny_loadPart_at he ?_ | with_reducible refine wpAny_loadPart_at hC ?_ | (with_reducible refine wpAny_isSubtype_exc hC ?_; rw [hcB]) | wp_step)
  exact wpAny_raiseNew_none hh hE
end
end L3

namespace L3
open PySem PySem.Spec PyProof.Rows L2
section
variable {X : Cx} {EX : EXS} {a b c : Expr} {f g h : FE} {pos : Pos}

noncomputable def eVar (i : Nat) : FE := fun δ => match δ[i]? with
  | some (some d) => .ok (.sh d)
  | _ => .no
noncomputable def eC (d : D) : FE := fun _ => .ok (.sh d)
theorem ed_var (i : Nat) {x : Str} {pos : Pos} (hN : X.N[i]? = some x := by rfl) (hv : Vis X.env.scope x := by first | exact Or.inl rfl | exact Or.inr (Or.inl rfl) | exact Or.inr (Or.inr rfl)) (hd : (x == ("__debug__" : Str)) = false := by decide)
    (hcd : (x == ("__classdict__" : Str)) = false := by decide) : ED X EX (.Name x pos) (eVar i) :=
  PE.imp (pe_var hN hv hd hcd) fun σ H Q ⟨G, δ, g, s, o⟩ => by
    unfold eVar at o
    split at o
    · rename_i d e
      obtain ⟨v, e1, r⟩ := s.get i d e
      exact ⟨v, e1, WP.use o g r⟩
    · exact o.elim
theorem ed_const {e : Expr} {v : V} {d : D} (he : PE X e (tC v)) (hd : ∀ G, Has X.K G v d) : ED X EX e (eC d) :=
  PE.imp he fun σ H Q ⟨G, δ, g, s, o⟩ => WP.use o g (hd G)
theorem ed_int {i : Int} {j pos} : ED X EX (.Constant (.int i) j pos) (eC (.int i)) := ed_const pe_int fun _ => .int i
theorem ed_bl {b : Bool} {j pos} : ED X EX (.Constant (.bool b) j pos) (eC (.bl b)) := ed_const pe_bl fun _ => .bl b
theorem ed_non {j pos} : ED X EX (.Constant .none j pos) (eC .non) := ed_const pe_non fun _ => .non
theorem ed_str {x : Str} {j pos} : ED X EX (.Constant (.str x) j pos) (eC (.str x)) := ed_const pe_str fun _ => .str x
noncomputable def rD (K : PySem.W.Frag) (r : D → D → R W) : R2 := fun x y H Q => ∃ (EX : EXT) (G : Hp) (a b : D), Same G H ∧ Has K G x a ∧ Has K G y b ∧ Out K EX G H (r a b) Q
noncomputable abbrev OpD (X : Cx) (f : Value → Value → Sem Value) (r : D → D → R W) : Prop := OpR X f (rD X.K r)
noncomputable def eOp (r : D → D → R W) (f g : FE) : FE := fun δ => (f δ).bind fun a => (g δ).bind fun b => r a.d b.d
theorem two {K : PySem.W.Frag} {r : D → D → R W} {σ : Sg} {H : Hp} {Q : VK} (q : tD K EX (eOp r f g) σ H Q) : tOp (rD K r) (tD K EX f) (tD K EX g) σ H Q := by
  obtain ⟨G, δ, g0, s0, o⟩ := q
  exact tD.seq g0 s0 o fun w v G1 H1 _ st1 r1 o1 => tD.seq st1.gh (s0.mono st1.gg) o1 fun w2 v2 G2 H2 _ st2 r2 o2 => ⟨_, G2, w.d, w2.d, st2.gh, r1.mono st2.gg, r2, o2⟩
theorem ed_bin {op : Operator} {r : D → D → R W} (ho : OpD X (binaryOp op) r) (ha : ED X EX a f) (hb : ED X EX b g) : ED X EX (.BinOp a op b pos) (eOp r f g) :=
  PE.imp (pe_op ho ha hb) fun _ _ _ q => two q
theorem ed_cmp {op : CmpOp} {r : D → D → R W} (ho : OpD X (compareOp op) r) (ha : ED X EX a f) (hb : ED X EX b g) (hm : behindInMarks op b = false) : ED X EX (.Compare a [op] [b] pos) (eOp r f g) :=
  PE.imp (pe_cmpR ho ha hb hm) fun _ _ _ q => two q
noncomputable def boolD : D → R Bool
  | .bl b => .ok b
  | _ => .no
noncomputable def eTest (f : FE) : FT := fun δ => (f δ).bind fun w => boolD w.d
theorem test_of {K : PySem.W.Frag} {σ : Sg} {H : Hp} {Q : Bool → Hp → Prop} (q : tDt K EX (eTest f) σ H Q) : tD K EX f σ H fun x H' => ∃ k, x = .bl k ∧ Q k H' := by
  obtain ⟨G, δ, g0, s0, o⟩ := q
  refine ⟨G, δ, g0, s0, ?_⟩
  unfold eTest at o
  cases e : f δ with
  | ok w =>
    rw [e] at o
    simp only [R.bind_ok] at o
    refine WP.intro fun v G' H' st r => ?_
    revert r o
    cases w.d with
    | bl k => intro o r; cases r; exact ⟨k, rfl, o G' H' st⟩
    | _ => intro o _; exact False.elim o
  | ex x => rw [e] at o; exact o
  | no => rw [e] at o; exact o
theorem td_cmp {op : CmpOp} {r : D → D → R W} (ho : OpD X (compareOp op) r) (ha : ED X EX a f) (hb : ED X EX b g) (hm : behindInMarks op b = false) : TD X EX (.Compare a [op] [b] pos) (eTest (eOp r f g)) :=
  PT.imp (pt_cmpR ho ha hb hm) fun σ H Q q => two (test_of q)
noncomputable def eChain (r r' : D → D → R W) (f g h : FE) : FE := fun δ => (f δ).bind fun a => (g δ).bind fun b => (r a.d b.d).bind fun z => (boolD z.d).bind fun k =>
  if k = true then (h δ).bind fun c => r' b.d c.d else .ok (.sh (.bl false))
theorem chain {K : PySem.W.Frag} {r r' : D → D → R W} {σ : Sg} {H : Hp} {Q : VK} (q : tD K EX (eChain r r' f g h) σ H Q) : tChain (rD K r) (rD K r') (tD K EX f) (tD K EX g) (tD K EX h) σ H Q := by
  obtain ⟨G, δ, g0, s0, o⟩ := q
  refine tD.seq g0 s0 o fun w v G1 H1 _ st1 r1 o1 => tD.seq st1.gh (s0.mono st1.gg) o1 fun w2 v2 G2 H2 _ st2 r2 o2 => ⟨EX σ, G2, w.d, w2.d, st2.gh, r1.mono st2.gg, r2, ?_⟩
  revert o2
  cases r w.d w2.d with
  | ok z =>
    intro o2
    refine WP.intro fun v3 G3 H3 st3 r3 => ?_
    have o2 : Out K (EX σ) G2 H2 ((boolD z.d).bind fun k => if k = true then (h δ).bind fun c => r' w2.d c.d else .ok (.sh (.bl false))) Q := o2
    revert r3 o2
    cases z.d with
    | bl k =>
      intro r3 o2
      cases r3
      refine ⟨k, rfl, ?_⟩
      cases k with
      | true =>
        rw [if_pos rfl]
        have o3 : Out K (EX σ) G2 H2 ((h δ).bind fun c => r' w2.d c.d) Q := o2
        exact tD.seq st3.gh (s0.mono (st1.gg.trans (st2.gg.trans st3.gg))) (o3.mono st3) fun w4 v4 G4 H4 _ st4 r4 o4 => ⟨_, G4, w2.d, w4.d, st4.gh, r2.mono (st3.gg.trans st4.gg), r4, o4⟩
      | false =>
        rw [if_neg Bool.false_ne_true]
        have o3 : WP K G2 H2 (.sh (.bl false)) Q := o2
        exact (o3.mono st3).use st3.gh (.bl false)
    | _ => intro _ o2; exact False.elim o2
  | ex x => exact fun o2 => o2
  | no => exact fun o2 => o2
theorem ed_chain {op op' : CmpOp} {r r' : D → D → R W} (ho : OpD X (compareOp op) r) (ho' : OpD X (compareOp op') r') (ha : ED X EX a f) (hb : ED X EX b g) (hc : ED X EX c h)
    (hm : lastMarks [op, op'] [b, c] = false := by with_unfolding_all rfl) : ED X EX (.Compare a [op, op'] [b, c] pos) (eChain r r' f g h) :=
  PE.imp (pe_chain ho ho' ha hb hc hm) fun _ _ _ q => chain q
noncomputable abbrev TW (X : Cx) (EX : EXS) (e : Expr) (f : FT) : Prop := PW X e (tDt X.K EX f)
variable {p q : FT} {rest : List Expr}
noncomputable def tAndF (p q : FT) : FT := fun δ => (p δ).bind fun b => if b = true then q δ else .ok false
noncomputable def tOrF (p q : FT) : FT := fun δ => (p δ).bind fun b => if b = true then .ok true else q δ
noncomputable def tNotF (p : FT) : FT := fun δ => (p δ).bind fun b => .ok (!b)
theorem tw_and1 (ha : TD X EX a p) : TW X EX (.BoolOp .And [a] pos) p := pw_and1 ha
theorem tw_or1 (ha : TD X EX a p) : TW X EX (.BoolOp .Or [a] pos) p := pw_or1 ha
theorem tDt.two {K : PySem.W.Frag} {σ : Sg} {H : Hp} {Q : Bool → Hp → Prop} {k : Bool → DE → R Bool} {P : Bool → Hp → Prop} (h : tDt K EX (fun δ => (p δ).bind fun b => k b δ) σ H Q)
    (i : ∀ b H', tDt K EX (k b) σ H' Q → P b H') : tDt K EX p σ H P := by
  obtain ⟨G, δ, g0, s0, o⟩ := h
  refine ⟨G, δ, g0, s0, ?_⟩
  cases e : p δ with
  | ok b =>
    simp only [e, R.bind_ok] at o
    refine fun G' H' st => i b H' ⟨G', δ, st.gh, s0.mono st.gg, ?_⟩
    cases e2 : k b δ with
    | ok c => rw [e2] at o; exact fun G2 H2 st2 => o G2 H2 (st.trans st2)
    | ex x => rw [e2] at o; exact (EX σ).mono _ _ _ _ _ st o
    | no => rw [e2] at o; exact o
  | ex x => simp only [e, R.bind_ex] at o; exact o
  | no => simp only [e, R.bind_no] at o
theorem tDt.now {K : PySem.W.Frag} {σ : Sg} {H : Hp} {Q : Bool → Hp → Prop} {c : Bool} (h : tDt K EX (fun _ => .ok c) σ H Q) : Q c H := by
  obtain ⟨G, δ, g0, s0, o⟩ := h
  exact o G H (Step.refl g0)
theorem tw_and (ha : TD X EX a p) (hb : TW X EX (.BoolOp .And (b :: rest) pos) q) : TW X EX (.BoolOp .And (a :: b :: rest) pos) (tAndF p q) :=
  PW.imp (pw_and ha hb) fun σ H Q h => tDt.two (k := fun b δ => if b = true then q δ else .ok false) h fun b H' h' => by
    cases b with
    | true => rw [if_pos rfl]; exact h'
    | false => rw [if_neg Bool.false_ne_true]; exact tDt.now h'
theorem tw_or (ha : TD X EX a p) (hb : TW X EX (.BoolOp .Or (b :: rest) pos) q) : TW X EX (.BoolOp .Or (a :: b :: rest) pos) (tOrF p q) :=
  PW.imp (pw_or ha hb) fun σ H Q h => tDt.two (k := fun b δ => if b = true then .ok true else q δ) h fun b H' h' => by
    cases b with
    | true => rw [if_pos rfl]; exact tDt.now h'
    | false => rw [if_neg Bool.false_ne_true]; exact h'
theorem td_w {e : Expr} (h : TW X EX e p) : TD X EX e p := h.pt
theorem td_not (ha : TD X EX a p) : TD X EX (.UnaryOp .Not a pos) (tNotF p) :=
  PT.imp (pt_not ha) fun σ H Q h => tDt.two (k := fun b _ => .ok (!b)) h fun b H' h' => tDt.now h'
noncomputable def eAnd (f g : FE) : FE := fun δ => (f δ).bind fun a => (boolD a.d).bind fun k => if k = true then g δ else .ok (.sh (.bl false))
noncomputable def eOr (f g : FE) : FE := fun δ => (f δ).bind fun a => (boolD a.d).bind fun k => if k = true then .ok (.sh (.bl true)) else g δ
noncomputable def eNot (f : FE) : FE := fun δ => (f δ).bind fun a => (boolD a.d).bind fun k => .ok (.sh (.bl (!k)))
theorem ed_one {op} (h : ED X EX a f) : ED X EX (.BoolOp op [a] pos) f := pe_one h
theorem tD.boolThen {K : PySem.W.Frag} {σ : Sg} {H : Hp} {Q : VK} {k : Bool → DE → R W} {P : Bool → Hp → Prop} (h : tD K EX (fun δ => (f δ).bind fun a => (boolD a.d).bind fun c => k c δ) σ H Q)
    (i : ∀ c H', tD K EX (k c) σ H' Q → P c H') : tD K EX f σ H fun x H' => ∃ c, x = .bl c ∧ P c H' := by
  obtain ⟨G, δ, g0, s0, o⟩ := h
  refine tD.seq g0 s0 o fun w v G1 H1 _ st1 r1 o1 => ?_
  revert r1 o1
  cases w.d with
  | bl c => intro r1 o1; cases r1; exact ⟨c, rfl, i c H1 ⟨G1, δ, st1.gh, s0.mono st1.gg, o1⟩⟩
  | _ => intro _ o1; exact False.elim o1
theorem tD.now {K : PySem.W.Frag} {σ : Sg} {H : Hp} {Q : VK} {v : V} {d : D} (h : tD K EX (fun _ => .ok (.sh d)) σ H Q) (r : ∀ G, Has K G v d) : Q v H := by
  obtain ⟨G, δ, g0, s0, o⟩ := h
  exact WP.use o g0 (r G)
theorem ed_and (ha : ED X EX a f) (hb : ED X EX (.BoolOp .And (b :: rest) pos) g) : ED X EX (.BoolOp .And (a :: b :: rest) pos) (eAnd f g) :=
  PE.imp (pe_and ha hb) fun σ H Q h => tD.boolThen (k := fun k δ => if k = true then g δ else .ok (.sh (.bl false))) h fun c H' h' => by
    cases c with
    | true => rw [if_pos rfl]; exact h'
    | false => rw [if_neg Bool.false_ne_true]; exact tD.now h' fun _ => .bl false
theorem ed_not (ha : ED X EX a f) : ED X EX (.UnaryOp .Not a pos) (eNot f) :=
  PE.imp (pe_not ha) fun σ H Q h => tD.boolThen (k := fun k _ => .ok (.sh (.bl (!k)))) h fun c H' h' => tD.now h' fun _ => .bl (!c)
noncomputable def eIf (p : FT) (f g : FE) : FE := fun δ => (p δ).bind fun k => if k = true then f δ else g δ
theorem ed_if (hc : TD X EX c p) (ha : ED X EX a f) (hb : ED X EX b g) : ED X EX (.IfExp c a b pos) (eIf p f g) :=
  PE.imp (pe_ifExp hc ha hb) fun σ H Q ⟨G, δ, g0, s0, o⟩ => tDt.seq g0 s0 o fun k G' H' _ st o' => by
    cases k with
    | true => rw [if_pos rfl]; exact ⟨G', δ, st.gh, s0.mono st.gg, o'⟩
    | false => rw [if_neg Bool.false_ne_true]; exact ⟨G', δ, st.gh, s0.mono st.gg, o'⟩

noncomputable def truthD : D → R Bool
  | .non => .ok false
  | .bl b => .ok b
  | .int i => .ok (i != 0)
  | .str x => if x.length ≤ 16777216 then .ok ((x.length : Int) != 0) else .no
  | .lst ds => .ok (!ds.isEmpty)
  | .tup ds => .ok (!ds.isEmpty)
  | _ => .no
noncomputable def eTruth (f : FE) : FT := fun δ => (f δ).bind fun w => truthD w.d
theorem isEmptyD {K : PySem.W.Frag} {G : Hp} {vs : List V} {ds : List D} (r : HasL K G vs ds) : (!ds.isEmpty) = !vs.isEmpty := by cases r <;> rfl
theorem truthV {K : PySem.W.Frag} {G H : Hp} {v : V} {d : D} {k : Bool} (g : Same G H) (r : Has K G v d) (e : truthD d = .ok k) : TruV K v H k := by
  cases r with
  | non => cases e; rfl
  | bl b => cases e; rfl
  | int i => cases e; rfl
  | str x =>
    have e : (if x.length ≤ 16777216 then R.ok ((x.length : Int) != 0) else .no) = .ok k := e
    split at e
    · rename_i hz
      cases e
      exact ⟨by rw [sizeLine_eq]; exact hz, rfl⟩
    · cases e
  | lst h r => cases e; exact .inl ⟨_, g.seq h, isEmptyD r⟩
  | tup h r => cases e; exact .inr (.inl ⟨_, Same.tupS g h, isEmptyD r⟩)
  | exn0 _ _ => cases e
  | exn1 _ _ _ _ _ => cases e
  | dic _ _ _ => cases e
  | obj _ _ _ _ => cases e
theorem td_truth (ha : ED X EX a f) (he : ∀ whole, isTrue a X.env whole = (do let v ← whole; standAt a.pos; holding [v] (truthy v)) := by intro _; rfl) : TD X EX a (eTruth f) :=
  PT.imp (pt_truth ha he) fun σ H Q ⟨G, δ, g0, s0, o⟩ => by
    refine ⟨G, δ, g0, s0, ?_⟩
    unfold eTruth at o
    cases e : f δ with
    | ok w =>
      rw [e] at o
      simp only [R.bind_ok] at o
      refine WP.intro fun v G' H' st r => ?_
      cases e2 : truthD w.d with
      | ok k => rw [e2] at o; exact ⟨k, truthV st.gh r e2, o G' H' st⟩
      | ex x => rw [e2] at o; exfalso; revert e2; cases w.d <;> simp only [truthD] <;> intro e2 <;> first | cases e2 | (split at e2 <;> cases e2)
      | no => rw [e2] at o; exact o.elim
    | ex x => rw [e] at o; exact o
    | no => rw [e] at o; exact o

variable {e : Expr} {es : List Expr} {fa : FA}
noncomputable def aNil : FA := fun _ => .ok []
noncomputable def aCons (f : FE) (fa : FA) : FA := fun δ => (f δ).bind fun w => (fa δ).bind fun ds => .ok (w.d :: ds)
theorem ad_nil : AD X EX [] aNil := PA.imp pa_nil fun σ H Q ⟨G, δ, g0, s0, o⟩ => o [] G H (Step.refl g0) .nil
theorem ad_cons (ha : ED X EX e f) (hr : AD X EX es fa) (hs : starEach (e :: es) X.env = (false, eval e X.env) :: starEach es X.env := by rfl) : AD X EX (e :: es) (aCons f fa) :=
  PA.imp (pa_cons ha hr hs) fun σ H Q ⟨G, δ, g0, s0, o⟩ => by
    refine ⟨G, δ, g0, s0, ?_⟩
    unfold aCons at o
    cases e1 : f δ with
    | ok w =>
      rw [e1] at o
      simp only [R.bind_ok] at o
      refine WP.intro fun v G' H' st r => ⟨G', δ, st.gh, s0.mono st.gg, ?_⟩
      cases e2 : fa δ with
      | ok ds => rw [e2] at o; exact fun vs G2 H2 st2 r2 => o (v :: vs) G2 H2 (st.trans st2) (.cons (r.mono st2.gg) r2)
      | ex x => rw [e2] at o; exact (EX σ).mono _ _ _ _ _ st o
      | no => rw [e2] at o; exact o
    | ex x => rw [e1] at o; exact o
    | no => rw [e1] at o; exact o
noncomputable def eTup (fa : FA) : FE := fun δ => (fa δ).bind fun ds => if ds.length ≤ 16777216 then .ok (.sh (.tup ds)) else .no
noncomputable def eLst (fa : FA) : FE := fun δ => (fa δ).bind fun ds => if ds.length ≤ 16777216 then .ok (.ow (.lst ds)) else .no
theorem ed_lst (ha : AD X EX es fa) : ED X EX (.List es pos) (eLst fa) :=
  PE.imp (pe_lst ha) fun σ H Q ⟨G, δ, g0, s0, o⟩ => tDa.seq g0 s0 o fun ds vs G' H' _ st r o' => by
    split at o'
    · rename_i hz
      refine ⟨by rw [r.length, sizeLine_eq]; exact hz, fun p hp => out_own o' st.gh r p hp⟩
    · exact o'.elim

noncomputable def rDc (K : PySem.W.Frag) (fn : List D → R W) : List V → Hp → VK → Prop := fun vs H Q => ∃ (EX : EXT) (G : Hp) (ds : List D), Same G H ∧ HasL K G vs ds ∧ Out K EX G H (fn ds) Q
noncomputable abbrev CallD (X : Cx) (v : Value) (fn : List D → R W) : Prop := CallR X v (rDc X.K fn)
noncomputable def eCall (fn : List D → R W) (fa : FA) : FE := fun δ => (fa δ).bind fn
theorem args_of {K : PySem.W.Frag} {fn : List D → R W} {σ : Sg} {H : Hp} {Q : VK} (q : tD K EX (eCall fn fa) σ H Q) : tCB (rDc K fn) (tDa K EX fa) σ H Q := by
  obtain ⟨G, δ, g0, s0, o⟩ := q
  exact tDa.seq g0 s0 o fun ds vs G' H' _ st r o' => ⟨_, G', ds, st.gh, r, o'⟩
variable {x : Str} {pp : Pos} {id T : String} {fn : List D → R W}
theorem ed_callB (hc : CallD X (.builtin id) fn) (hg : Gl X x) (hm : X.mg x = none) (hv : bootBuiltins x = some (.builtin id)) (ha : AD X EX (e :: es) fa) (hn : x ≠ "__name__" := by decide) (hdb : (x == ("__debug__" : Str)) = false := by decide)
    (he : starEach (e :: es) X.env = (false, eval e X.env) :: starEach es X.env := by rfl) (hpl : (backTo pos (starEach es X.env)).any (·.1) = false := by rfl) : ED X EX (.Call (.Name x pp) (e :: es) [] pos) (eCall fn fa) :=
  PE.imp (pe_callB hc hg hm hv ha hn hdb he hpl) fun _ _ _ q => args_of q
theorem ed_callTy (hc : CallD X (.type T) fn) (hg : Gl X x) (hm : X.mg x = none) (hv : bootBuiltins x = some (.type T)) (ha : AD X EX (e :: es) fa) (hn : x ≠ "__name__" := by decide) (hdb : (x == ("__debug__" : Str)) = false := by decide)
    (he : starEach (e :: es) X.env = (false, eval e X.env) :: starEach es X.env := by rfl) (hpl : (backTo pos (starEach es X.env)).any (·.1) = false := by rfl) : ED X EX (.Call (.Name x pp) (e :: es) [] pos) (eCall fn fa) :=
  PE.imp (pe_callTy hc hg hm hv ha hn hdb he hpl) fun _ _ _ q => args_of q

noncomputable def ixD : D → D → R W
  | .lst ds, .int i => match atI ds i with | some d => .ok (.sh d) | none => .no
  | .tup ds, .int i => match atI ds i with | some d => .ok (.sh d) | none => .no
  | .str z, .int i => if z.length ≤ 16777216 then (match atI z.cps.toList i with | some c => .ok (.sh (.str ⟨#[c]⟩)) | none => .no) else .no
  | _, _ => .no
theorem HasL.atI {K : PySem.W.Frag} {G : Hp} {vs : List V} {ds : List D} {i : Int} {d : D} (r : HasL K G vs ds) (h : L2.atI ds i = some d) : ∃ v, L2.atI vs i = some v ∧ Has K G v d := by
  unfold L2.atI at h ⊢
  rw [r.length]
  cases e : ixN ds.length i with
  | none => rw [e] at h; cases h
  | some j => rw [e] at h; exact r.get h
theorem ix_d : IxR X (rD X.K ixD) := by
  intro value slice pins s σ H x y v u Q I rx ry h hs
  obtain ⟨EX, G, a, b, g, ra, rb, o⟩ := h
  cases rb with
  | int i =>
    cases ra with
    | lst h r =>
      simp only [ixD] at o
      split at o
      · rename_i d e
        obtain ⟨v, e1, r1⟩ := HasL.atI r e
        exact ix_list value slice pins s σ H _ _ _ _ Q I rx ry ⟨_, _, i, v, rfl, rfl, g.seq h, e1, WP.use o g r1⟩ hs
      · exact o.elim
    | tup h r =>
      simp only [ixD] at o
      split at o
      · rename_i d e
        obtain ⟨v, e1, r1⟩ := HasL.atI r e
        exact ix_tup value slice pins s σ H _ _ _ _ Q I rx ry ⟨_, _, i, v, rfl, rfl, Same.tupS g h, e1, WP.use o g r1⟩ hs
      · exact o.elim
    | str z =>
      simp only [ixD] at o
      split at o
      · rename_i hz
        split at o
        · rename_i c e
          exact ix_str value slice pins s σ H _ _ _ _ Q I rx ry ⟨z, i, c, rfl, rfl, by rw [sizeLine_eq]; exact hz, e, WP.use o g (.str _)⟩ hs
        · exact o.elim
      · exact o.elim
    | _ => exact False.elim o
  | _ => cases ra <;> exact False.elim o
theorem ed_ix (ha : ED X EX a f) (hb : ED X EX b g) (hs : PlainIx b := by intro _ _; rfl) : ED X EX (.Subscript a b pos) (eOp ixD f g) :=
  PE.imp (pe_ix ix_d ha hb hs) fun _ _ _ q => two q
end
end L3

namespace L2
open PySem PySem.Spec PyProof.Rows

section
variable {κ : Type} [DecidableEq κ]
noncomputable def valV (kvs : List (κ × V)) (k : κ) : Option V := (kvs.find? fun kv => decide (kv.1 = k)).map (·.2)
noncomputable def putK (kvs : List (κ × V)) (k : κ) (v : V) : List (κ × V) :=
  if (kvs.any fun kv => decide (kv.1 = k)) = true then kvs.map (fun kv => if kv.1 = k then (kv.1, v) else kv) else kvs ++ [(k, v)]
noncomputable def dropK (kvs : List (κ × V)) (k : κ) : List (κ × V) := kvs.filter fun kv => decide (kv.1 ≠ k)

theorem valV_pos {p : κ × V} {r : List (κ × V)} {k : κ} (e : p.1 = k) : valV (p :: r) k = some p.2 := by simp [valV, List.find?_cons, e]
theorem valV_neg {p : κ × V} {r : List (κ × V)} {k : κ} (e : ¬ p.1 = k) : valV (p :: r) k = valV r k := by simp [valV, List.find?_cons, e]
theorem valV_any (k : κ) : ∀ kvs : List (κ × V), (kvs.any fun kv => decide (kv.1 = k)) = (valV kvs k).isSome
  | [] => rfl
  | p :: r => by
    rw [List.any_cons]
    by_cases e : p.1 = k
    · simp only [valV_pos e, decide_eq_true e, Bool.true_or, Option.isSome_some]
    · rw [valV_neg e, decide_eq_false e, Bool.false_or]; exact valV_any k r
theorem RelO.isSome_eq {o : Option V} {u : Option Value} (r : RelO o u) : o.isSome = u.isSome := by
  cases o with
  | none => cases u with
    | none => rfl
    | some _ => exact (show False from r).elim
  | some _ => cases u with
    | none => exact (show False from r).elim
    | some _ => rfl
theorem RelO.getD {o : Option V} {u : Option Value} {d : V} {d' : Value} (r : RelO o u) (rd : RelV d d') : RelV (o.getD d) (u.getD d') := by
  cases o with
  | none => cases u with
    | none => exact rd
    | some _ => exact (show False from r).elim
  | some _ => cases u with
    | none => exact (show False from r).elim
    | some _ => exact r

theorem KV.val {kvs : List (κ × V)} {vs : List (κ × Value)} (r : KV kvs vs) (k : κ) : RelO (valV kvs k) (valueAt vs k) := by
  unfold KV at r
  induction r with
  | nil => exact True.intro
  | @cons p q ps qs h t ih =>
    obtain ⟨h1, h2⟩ := h
    by_cases e : p.1 = k
    · have e' : q.1 = k := h1.symm.trans e
      have b : valueAt (q :: qs) k = some q.2 := by simp [valueAt, List.find?_cons, e']
      rw [valV_pos e, b]; exact h2
    · have e' : ¬ q.1 = k := fun z => e (h1.trans z)
      have b : valueAt (q :: qs) k = valueAt qs k := by simp [valueAt, List.find?_cons, e']
      rw [valV_neg e, b]; exact ih
theorem KV.any {kvs : List (κ × V)} {vs : List (κ × Value)} (r : KV kvs vs) (k : κ) : (kvs.any fun kv => decide (kv.1 = k)) = vs.any fun kv => decide (kv.1 = k) := by
  unfold KV at r
  induction r with
  | nil => rfl
  | cons h t ih => rw [List.any_cons, List.any_cons, ih, h.1]
theorem KV.repl {kvs : List (κ × V)} {vs : List (κ × Value)} (r : KV kvs vs) (k : κ) {y : V} {u : Value} (ry : RelV y u) :
    KV (kvs.map fun kv => if kv.1 = k then (kv.1, y) else kv) (vs.map fun kv => if kv.1 = k then (kv.1, u) else kv) := by
  unfold KV at r ⊢
  induction r with
  | nil => exact .nil
  | @cons p q ps qs h t ih =>
    rw [List.map_cons, List.map_cons]
    refine .cons ?_ ih
    obtain ⟨h1, h2⟩ := h
    by_cases e : p.1 = k
    · rw [if_pos e, if_pos (h1.symm.trans e)]; exact ⟨h1, ry⟩
    · rw [if_neg e, if_neg (fun z => e (h1.trans z))]; exact ⟨h1, h2⟩
theorem KV.put {kvs : List (κ × V)} {vs : List (κ × Value)} (r : KV kvs vs) (k : κ) {y : V} {u : Value} (ry : RelV y u) : KV (putK kvs k y) (stored vs k u) := by
  unfold putK stored
  rw [r.any k]
  by_cases e : (vs.any fun kv => decide (kv.1 = k)) = true
  · rw [if_pos e, if_pos e]; exact r.repl k ry
  · rw [if_neg e, if_neg e]; exact Paired.snoc r ⟨rfl, ry⟩
theorem KV.drop {kvs : List (κ × V)} {vs : List (κ × Value)} (r : KV kvs vs) (k : κ) : KV (dropK kvs k) (without vs k) := by
  unfold KV at r ⊢
  unfold dropK without
  induction r with
  | nil => exact .nil
  | @cons p q ps qs h t ih =>
    obtain ⟨h1, h2⟩ := h
    rw [List.filter_cons, List.filter_cons]
    by_cases e : p.1 = k
    · have a : ¬ decide (p.1 ≠ k) = true := by simp [e]
      have b : ¬ decide (q.1 ≠ k) = true := by simp [h1.symm.trans e]
      rw [if_neg a, if_neg b]; exact ih
    · have e' : ¬ q.1 = k := fun z => e (h1.trans z)
      have a : decide (p.1 ≠ k) = true := by simp [e]
      have b : decide (q.1 ≠ k) = true := by simp [e']
      rw [if_pos a, if_pos b]; exact .cons ⟨h1, h2⟩ ih
theorem KV.length {kvs : List (κ × V)} {vs : List (κ × Value)} (r : KV kvs vs) : kvs.length = vs.length := Paired.length r
end


noncomputable abbrev KT (H : Hp) : List (List Key × V) → List (List Key × Addr × Value) → Prop := Paired fun p q => p.1 = q.1 ∧ H q.2.1 = some (.tup (p.1.map kV)) ∧ RelV p.2 q.2.2
theorem KT.val {H : Hp} {kvs : List (List Key × V)} {xs : List (List Key × Addr × Value)} (r : KT H kvs xs) (k : List Key) : RelO (valV kvs k) ((atKey xs k).map (·.2)) := by
  induction r with
  | nil => exact True.intro
  | @cons p q ps qs h t ih =>
    obtain ⟨h1, _, h2⟩ := h
    by_cases e : p.1 = k
    · have e' : q.1 = k := h1.symm.trans e
      have b : atKey (q :: qs) k = some q.2 := by simp [atKey, List.find?_cons, e']
      rw [valV_pos e, b]; exact h2
    · have e' : ¬ q.1 = k := fun z => e (h1.trans z)
      have b : atKey (q :: qs) k = atKey qs k := by simp [atKey, List.find?_cons, e']
      rw [valV_neg e, b]; exact ih
theorem KT.repl {H : Hp} {kvs : List (List Key × V)} {xs : List (List Key × Addr × Value)} (r : KT H kvs xs) (k : List Key) {y : V} {u : Value} (ry : RelV y u) :
    KT H (kvs.map fun kv => if kv.1 = k then (kv.1, y) else kv) (xs.map (putAt k u)) := by
  induction r with
  | nil => exact .nil
  | @cons p q ps qs h t ih =>
    rw [List.map_cons, List.map_cons]
    refine .cons ?_ ih
    obtain ⟨h1, h2, h3⟩ := h
    unfold putAt
    by_cases e : p.1 = k
    · rw [if_pos e, if_pos (h1.symm.trans e)]; exact ⟨h1, h2, ry⟩
    · rw [if_neg e, if_neg (fun z => e (h1.trans z))]; exact ⟨h1, h2, h3⟩
theorem KT.put {H : Hp} {kvs : List (List Key × V)} {xs : List (List Key × Addr × Value)} (r : KT H kvs xs) (k : List Key) {b : Addr} {y : V} {u : Value} (hb : H b = some (.tup (k.map kV))) (ry : RelV y u) :
    KT H (putK kvs k y) (storedH xs k b u) := by
  have e : (kvs.any fun kv => decide (kv.1 = k)) = (atKey xs k).isSome := by
    rw [valV_any, (r.val k).isSome_eq, Option.isSome_map]
  unfold putK storedH
  rw [e]
  by_cases q : (atKey xs k).isSome = true
  · rw [if_pos q, if_pos q]; exact r.repl k ry
  · rw [if_neg q, if_neg q]; exact Paired.snoc r ⟨rfl, hb, ry⟩
theorem KT.keeps {H H' : Hp} {kvs : List (List Key × V)} {xs : List (List Key × Addr × Value)} (r : KT H kvs xs) (ht : ∀ b ys, H b = some (.tup ys) → H' b = some (.tup ys)) : KT H' kvs xs :=
  Paired.mapP r fun _ _ z => ⟨z.1, ht _ _ z.2.1, z.2.2⟩

section
variable {P : Program} {w : World} {H : Hp} {h : Heap} {a : Addr}
end

noncomputable def DGet (H : Hp) (a : Addr) (y : V) (r : Option V) : Prop :=
  (∃ kvs k, Rd H a (.dK kvs) ∧ y = kV k ∧ r = valV kvs k) ∨ ∃ kvs k b, Rd H a (.dT kvs) ∧ y = .ref b ∧ H b = some (.tup (k.map kV)) ∧ r = valV kvs k
noncomputable def DPut (H : Hp) (a : Addr) (y v : V) (H' : Hp) : Prop :=
  (∃ kvs k, H a = some (.dK kvs) ∧ y = kV k ∧ kvs.length < sizeLine ∧ H' = upd H a (.dK (putK kvs k v))) ∨
  ∃ kvs k b, H a = some (.dT kvs) ∧ y = .ref b ∧ H b = some (.tup (k.map kV)) ∧ kvs.length < sizeLine ∧ H' = upd H a (.dT (putK kvs k v))
theorem DGet.k {H : Hp} {a : Addr} {kvs : List (Key × V)} {k : Key} (e : H a = some (.dK kvs)) : DGet H a (kV k) (valV kvs k) := .inl ⟨kvs, k, .inl e, rfl, rfl⟩
theorem DGet.t {H : Hp} {a b : Addr} {kvs : List (List Key × V)} {k : List Key} (e : H a = some (.dT kvs)) (eb : H b = some (.tup (k.map kV))) : DGet H a (.ref b) (valV kvs k) := .inr ⟨kvs, k, b, .inl e, rfl, eb, rfl⟩
theorem DPut.k {H : Hp} {a : Addr} {kvs : List (Key × V)} {k : Key} {v : V} (e : H a = some (.dK kvs)) (hl : kvs.length < sizeLine) : DPut H a (kV k) v (upd H a (.dK (putK kvs k v))) := .inl ⟨kvs, k, e, rfl, hl, rfl⟩
theorem DPut.t {H : Hp} {a b : Addr} {kvs : List (List Key × V)} {k : List Key} {v : V} (e : H a = some (.dT kvs)) (eb : H b = some (.tup (k.map kV))) (hl : kvs.length < sizeLine) :
    DPut H a (.ref b) v (upd H a (.dT (putK kvs k v))) := .inr ⟨kvs, k, b, e, rfl, eb, hl, rfl⟩


section
variable {X : Cx} {pins : List (Addr × Obj)} {σ : St} {H : Hp} {s : Shared} {a : Addr} {y v : V} {u r : Value} {o : Option V} {A : Around} {E : Value → Shared → Prop}

end

section
variable {X : Cx} {pins : List (Addr × Obj)} {σ : St} {H : Hp} {s : Shared} {a : Addr} {kvs : List (Key × V)} {k : Key} {u : Value} {A : Around} {E : Value → Shared → Prop}
end


section
variable {X : Cx} {o i e value : Expr} {pos pos' tpos : Pos} {td ty tv : TE}
end


section
variable {X : Cx} {pos : Pos}
end

structure M1 (X : Cx) (o : Expr) (m : Str) (apos : Pos) (e : Expr) (cpos : Pos) : Prop where
  base : attributeBase o m X.env (eval o X.env) = eval o X.env
  few : ((backTo cpos (starEach [e] X.env)).all (fun x => !x.1) && (backToKw cpos (keywordEach [] X.env)).all (fun x => x.1.isSome)
    && decide (([e] : List Expr).length + ([] : List Keyword).length + (if ([] : List Keyword).isEmpty then 0 else 1) < 30)) = true
  line : (apos.endLine == cpos.line) = true
  trees : backTo cpos (starEach [e] X.env) = [(false, eval e X.env)]
structure M2 (X : Cx) (o : Expr) (m : Str) (apos : Pos) (e f : Expr) (cpos : Pos) : Prop where
  base : attributeBase o m X.env (eval o X.env) = eval o X.env
  few : ((backTo cpos (starEach [e, f] X.env)).all (fun x => !x.1) && (backToKw cpos (keywordEach [] X.env)).all (fun x => x.1.isSome)
    && decide (([e, f] : List Expr).length + ([] : List Keyword).length + (if ([] : List Keyword).isEmpty then 0 else 1) < 30)) = true
  line : (apos.endLine == cpos.line) = true
  trees : backTo cpos (starEach [e, f] X.env) = [(false, eval e X.env), (false, eval f X.env)]

section
variable {X : Cx} {pins : List (Addr × Obj)} {σ : St} {H : Hp} {s : Shared} {a : Addr} {y d : V} {u r : Value} {o : Option V} {A : Around} {E : Value → Shared → Prop}
end

section
variable {X : Cx} {o e f : Expr} {apos cpos : Pos} {td ty tx : TE}
end

section
variable {X : Cx} {pins : List (Addr × Obj)} {σ : St} {H : Hp} {s : Shared} {a : Addr} {kvs : List (Key × V)} {A : Around} {E : Value → Shared → Prop}
end


section
variable {X : Cx} {pins : List (Addr × Obj)} {σ : St} {H : Hp} {s : Shared} {a : Addr} {y : V} {u : Value} {A : Around} {E : Value → Shared → Prop}
end
end L2


namespace L2
open PySem PySem.Spec PyProof.Rows
section
variable {X : Cx}
end
section
variable {κ : Type} [DecidableEq κ]
end
end L2

namespace L3
open PySem PySem.Spec PyProof.Rows L2
section
variable {X : Cx}
theorem out_sh {EX : EXT} {K : PySem.W.Frag} {G H : Hp} {Q : VK} {d : D} {v : V} (o : Out K EX G H (.ok (.sh d)) Q) (g : Same G H) (r : Has K G v d) : Q v H := WP.use o g r
noncomputable def rCatS (K : PySem.W.Frag) : R2 := fun x y H Q => ∃ l b xs zs, x = .ref l ∧ y = .ref b ∧ SqL K H l xs ∧ SqL K H b zs ∧ xs.length + zs.length ≤ sizeLine ∧ ∀ p, H p = none → Q (.ref p) (upd H p (.lst (xs ++ zs)))
theorem op_catS : OpR X (binaryOp .Add) (rCatS X.K) := by
  intro pins s σ H x y v u Q I rx ry h
  obtain ⟨l, b, xs, zs, rfl, rfl, hH, hB, hz, q⟩ := h
  cases rx
  cases ry
  obtain ⟨its, r, ⟨o, n, e, c, dd, dat⟩, z⟩ := I.list hH
  obtain ⟨its2, r2, ⟨o2, n2, e2, c2, dd2, dat2⟩, z2⟩ := I.list hB
  have hl := r.length
  have hl2 := r2.length
  obtain ⟨cls, dd', data, sl⟩ := o
  obtain ⟨cls2, dd2', data2, sl2⟩ := o2
  simp only at c dd dat c2 dd2 dat2
  subst c dd dat c2 dd2 dat2
  refine concat_meets ⟨_, e, rfl⟩ ⟨_, e2, rfl⟩ noFill_list_add seq_list_add PySem.F.slot_list_add PySem.F.entry_list_add (PySem.F.args_list_add_2 _ _) (list_addW l b its.toArray its2.toArray n n2 none none sl sl2 (by rw [List.size_toArray, List.size_toArray]; omega)) ⟨e, e2, ?_⟩
  have ea : its.toArray ++ its2.toArray = (its ++ its2).toArray := by simp
  rw [ea]
  exact ⟨.ref _, _, I.lnew (t' := s.toks) (r.append r2) (by rw [List.length_append]; omega), rfl, q _ I.fresh⟩
noncomputable def addD : D → D → R W
  | .int i, .int j => .ok (.sh (.int (i + j)))
  | .str x, .str y => if x.length + y.length ≤ 16777216 then .ok (.sh (.str (x ++ y))) else .no
  | .lst a, .lst b => if a.length + b.length ≤ 16777216 then .ok (.ow (.lst (a ++ b))) else .no
  | _, _ => .no
theorem op_addD : OpD X (binaryOp .Add) addD := by
  intro pins s σ H x y v u Q I rx ry h
  obtain ⟨EX, G, a, b, g, ra, rb, o⟩ := h
  cases ra with
  | int i =>
    cases rb with
    | int j => exact op_add pins s σ H _ _ _ _ Q I rx ry ⟨i, j, rfl, rfl, out_sh o g (.int _)⟩
    | _ => exact False.elim o
  | str x =>
    cases rb with
    | str y =>
      simp only [addD] at o
      split at o
      · rename_i hz
        exact op_add_str pins s σ H _ _ _ _ Q I rx ry ⟨x, y, rfl, rfl, by rw [sizeLine_eq]; exact hz, out_sh o g (.str _)⟩
      · exact o.elim
    | _ => exact False.elim o
  | lst h1 r1 =>
    cases rb with
    | lst h2 r2 =>
      simp only [addD] at o
      split at o
      · rename_i hz
        exact op_catS pins s σ H _ _ _ _ Q I rx ry ⟨_, _, _, _, rfl, rfl, g.seq h1, g.seq h2, by rw [r1.length, r2.length, sizeLine_eq]; exact hz, out_own o g (r1.append r2)⟩
      · exact o.elim
    | _ => exact False.elim o
  | _ => cases rb <;> exact False.elim o

noncomputable def intD (C : Int → Int → Bool) (f : Int → Int → Int) : D → D → R W
  | .int i, .int j => if C i j = true then .ok (.sh (.int (f i j))) else .no
  | _, _ => .no
theorem op_intD {fn : Value → Value → Sem Value} {C : Int → Int → Bool} {P : Int → Int → Prop} {f : Int → Int → Int} (h : OpR X fn (rI P fun i j => .int (f i j))) (hC : ∀ i j, C i j = true → P i j) : OpD X fn (intD C f) := by
  intro pins s σ H x y v u Q I rx ry q
  obtain ⟨EX, G, a, b, g, ra, rb, o⟩ := q
  cases ra with
  | int i =>
    cases rb with
    | int j =>
      simp only [intD] at o
      split at o
      · rename_i hc
        exact h pins s σ H _ _ _ _ Q I rx ry ⟨i, j, rfl, rfl, hC i j hc, out_sh o g (.int _)⟩
      · exact o.elim
    | _ => exact False.elim o
  | _ => cases rb <;> exact False.elim o
noncomputable def subD : D → D → R W := intD (fun _ _ => true) (fun i j => i - j)
noncomputable def mulC (i j : Int) : Bool := decide (i.natAbs < 18446744073709551616 ∨ j.natAbs < 18446744073709551616)
noncomputable def mulI : D → D → R W := intD mulC (fun i j => i * j)
noncomputable def divC (_ j : Int) : Bool := decide (0 < j ∧ j.natAbs < 1361129467683753853853498429727072845824)
noncomputable def divD : D → D → R W := intD divC (fun i j => i / j)
noncomputable def modC (_ j : Int) : Bool := decide (0 < j)
noncomputable def modD : D → D → R W := intD modC (fun i j => i % j)
noncomputable def powC (i j : Int) : Bool := decide (0 ≤ j ∧ j.natAbs ≤ 1000000 ∧ i.natAbs < 18446744073709551616)
noncomputable def powD : D → D → R W := intD powC (fun i j => i ^ j.toNat)
noncomputable def shlD : D → D → R W := intD powC (fun i j => i * 2 ^ j.toNat)
theorem op_subD : OpD X (binaryOp .Sub) subD := op_intD (P := fun _ _ => True) (opI fun _ _ _ _ _ _ _ _ q => sub_int q) fun _ _ _ => trivial
theorem op_mulI : OpD X (binaryOp .Mult) mulI := op_intD op_mul fun i j h => by
  have h := of_decide_eq_true h
  rcases h with h | h
  · exact .inl ⟨by omega, by omega⟩
  · exact .inr ⟨by omega, by omega⟩
theorem op_divD : OpD X (binaryOp .FloorDiv) divD := op_intD (P := fun _ j => 0 < j ∧ j.natAbs < 1361129467683753853853498429727072845824) (opI fun i j _ _ _ _ _ hc q => by
  have h1 : (0 : Int) < j := hc.1
  have h2 := hc.2
  refine floordiv_int (by omega) ?_ (.inl (PyProof.noPylong_of_log2 ?_))
  · rw [Int.fdiv_eq_ediv_of_nonneg i (by omega)]
    exact q
  · have : j.natAbs < 2 ^ 130 := by
      have e : (2 : Nat) ^ 130 = 1361129467683753853853498429727072845824 := by decide
      omega
    have l : j.natAbs.log2 < 130 := (Nat.log2_lt (by omega)).mpr this
    omega) fun i j h => of_decide_eq_true h
theorem op_modD : OpD X (binaryOp .Mod) modD := op_intD op_mod fun i j h => of_decide_eq_true h
theorem powC_ok {i j : Int} (h : powC i j = true) : CPow i j := by
  obtain ⟨h1, h2, h3⟩ := of_decide_eq_true h
  refine ⟨h1, by omega, ?_⟩
  have e : (2 : Nat) ^ 64 = 18446744073709551616 := by decide
  omega
theorem op_powD : OpD X (binaryOp .Pow) powD := op_intD op_pow fun i j h => powC_ok h
theorem op_shlD : OpD X (binaryOp .LShift) shlD := op_intD op_shl fun i j h => powC_ok h

noncomputable def cmpD (f : Int → Int → Bool) : D → D → R W
  | .int i, .int j => .ok (.sh (.bl (f i j)))
  | _, _ => .no
theorem op_cmpD {fn : Value → Value → Sem Value} {f : Int → Int → Bool} (h : OpR X fn (rI0 fun i j => .bl (f i j))) : OpD X fn (cmpD f) := by
  intro pins s σ H x y v u Q I rx ry q
  obtain ⟨EX, G, a, b, g, ra, rb, o⟩ := q
  cases ra with
  | int i =>
    cases rb with
    | int j => exact h pins s σ H _ _ _ _ Q I rx ry ⟨i, j, rfl, rfl, out_sh o g (.bl _)⟩
    | _ => exact False.elim o
  | _ => cases rb <;> exact False.elim o
noncomputable def ltD : D → D → R W := cmpD fun i j => decide (i < j)
noncomputable def leD : D → D → R W := cmpD fun i j => decide (i ≤ j)
noncomputable def gtD : D → D → R W := cmpD fun i j => decide (j < i)
noncomputable def geD : D → D → R W := cmpD fun i j => decide (j ≤ i)
theorem op_ltD : OpD X (compareOp .Lt) ltD := op_cmpD op_lt
theorem op_leD : OpD X (compareOp .LtE) leD := op_cmpD op_le
theorem op_gtD : OpD X (compareOp .Gt) gtD := op_cmpD op_gt
theorem op_geD : OpD X (compareOp .GtE) geD := op_cmpD op_ge

mutual
noncomputable def toPy : D → PyData
  | .non => .none
  | .bl b => .bool b
  | .int i => .int i
  | .str x => .str x
  | .lst ds => .list (toPys ds)
  | .tup ds => .tuple (toPys ds)
  | .dic _ => .dict []
  | .exn _ _ _ => .dict []
  | .obj _ _ _ => .dict []
noncomputable def toPys : List D → List PyData
  | [] => []
  | d :: ds => toPy d :: toPys ds
end
mutual
theorem Has.reads {K : PySem.W.Frag} {X : Cx} (hK : X.K = K) {pins : List (Addr × Obj)} {σ : Sg} {H : Hp} {s : Shared} (I : Inv X pins σ H s) {G : Hp} (g : Same G H) : ∀ {v : V} {d : D} {u : Value}, (toPy d).canLay0 = true → Has K G v d → RelV v u → ∃ as, Reads s.heap u (toPy d) as
  | _, _, _, _, .non, r => by cases r; exact ⟨_, .none⟩
  | _, _, _, _, .bl b, r => by cases r; exact ⟨_, .bool b⟩
  | _, _, _, _, .int i, r => by obtain ⟨t, rfl⟩ := r; exact ⟨_, .int i t⟩
  | _, _, _, _, .str x, r => by obtain ⟨t, rfl⟩ := r; exact ⟨_, .str x t⟩
  | _, _, _, c, .lst h r, q => by
    cases q
    obtain ⟨its, rv, ⟨o, n, e, c', _, dat⟩, _⟩ := I.list (by rw [hK]; exact g.seq h)
    obtain ⟨as, z⟩ := HasL.reads hK I g c r rv
    exact ⟨_, .list e c' dat z⟩
  | _, _, _, c, .tup h r, q => by
    cases q
    obtain ⟨its, rv, ⟨o, e, c', n, dat⟩, _⟩ := I.tuple (by rw [hK]; exact Same.tupS g h)
    obtain ⟨as, z⟩ := HasL.reads hK I g c r rv
    exact ⟨_, .tuple e c' dat z⟩
  | _, _, _, c, .exn0 _ _, _ => absurd c Bool.false_ne_true
  | _, _, _, c, .exn1 _ _ _ _ _, _ => absurd c Bool.false_ne_true
  | _, _, _, c, .dic _ _ _, _ => absurd c Bool.false_ne_true
  | _, _, _, c, .obj _ _ _ _, _ => absurd c Bool.false_ne_true
theorem HasL.reads {K : PySem.W.Frag} {X : Cx} (hK : X.K = K) {pins : List (Addr × Obj)} {σ : Sg} {H : Hp} {s : Shared} (I : Inv X pins σ H s) {G : Hp} (g : Same G H) : ∀ {vs : List V} {ds : List D} {us : List Value}, PyData.canLayAll0 (toPys ds) = true → HasL K G vs ds → Vals vs us → ∃ as, ReadsAll s.heap us (toPys ds) as
  | _, _, _, _, .nil, r => by cases r; exact ⟨_, .nil⟩
  | _, _, _, c, .cons h t, r => by
    cases r with
    | cons r1 r2 =>
      have c' : (PyData.canLay0 (toPy _) && PyData.canLayAll0 (toPys _)) = true := c
      rw [Bool.and_eq_true] at c'
      obtain ⟨a1, z1⟩ := Has.reads hK I g c'.1 h r1
      obtain ⟨a2, z2⟩ := HasL.reads hK I g c'.2 t r2
      exact ⟨_, .cons z1 z2⟩
end
noncomputable def eqC (a b : D) : Bool := (toPy a).canLay0 && (toPy b).canLay0 && decide ((toPy a).depth ≤ 60)
noncomputable def eqvD (a b : D) : Bool := (toPy a).eqv (toPy b)
noncomputable def eqD (a b : D) : R W := match a, b with
  | .str x, .str y => .ok (.sh (.bl (decide (x = y))))
  | a, b => if eqC a b = true then .ok (.sh (.bl (eqvD a b))) else .no
noncomputable def neD (a b : D) : R W := match a, b with
  | .str x, .str y => .ok (.sh (.bl (!decide (x = y))))
  | a, b => if eqC a b = true then .ok (.sh (.bl (!eqvD a b))) else .no
theorem decV_str (x y : Str) : decide (V.str x = V.str y) = decide (x = y) := by
  by_cases e : x = y
  · subst e; simp
  · rw [decide_eq_false e, decide_eq_false (fun z => e (by injection z))]
theorem op_eqD (hu : X.A.units + 64 < cLine) : OpD X (compareOp .Eq) eqD := by
  intro pins s σ H x y v u Q I rx ry q
  obtain ⟨EX, G, a, b, g, ra, rb, o⟩ := q
  unfold eqD at o
  split at o
  · rename_i x y
    cases ra
    cases rb
    exact op_eq pins s σ H _ _ _ _ Q I rx ry ⟨rfl, by rw [decV_str]; exact out_sh o g (.bl _)⟩
  · split at o
    · rename_i hc
      unfold eqC at hc
      rw [Bool.and_eq_true, Bool.and_eq_true] at hc
      obtain ⟨⟨h1, h2⟩, h3⟩ := hc
      have h3 := of_decide_eq_true h3
      obtain ⟨as, za⟩ := Has.reads rfl I g h1 ra rx
      obtain ⟨bs, zb⟩ := Has.reads rfl I g h2 rb ry
      refine PySem.SeqAt.compareEq_reads za zb h1 h2 ?_ ⟨.bl _, H, I, rfl, out_sh o g (.bl _)⟩
      have := Nat.min_le_left (toPy a).depth (toPy b).depth
      omega
    · exact o.elim
theorem op_neD (hu : X.A.units + 64 < cLine) : OpD X (compareOp .NotEq) neD := by
  intro pins s σ H x y v u Q I rx ry q
  obtain ⟨EX, G, a, b, g, ra, rb, o⟩ := q
  unfold neD at o
  split at o
  · rename_i x y
    cases ra
    cases rb
    exact op_ne pins s σ H _ _ _ _ Q I rx ry ⟨rfl, by rw [decV_str]; exact out_sh o g (.bl _)⟩
  · split at o
    · rename_i hc
      unfold eqC at hc
      rw [Bool.and_eq_true, Bool.and_eq_true] at hc
      obtain ⟨⟨h1, h2⟩, h3⟩ := hc
      have h3 := of_decide_eq_true h3
      obtain ⟨as, za⟩ := Has.reads rfl I g h1 ra rx
      obtain ⟨bs, zb⟩ := Has.reads rfl I g h2 rb ry
      refine PySem.SeqAt.compareNe_reads za zb h1 h2 ?_ ⟨.bl _, H, I, rfl, out_sh o g (.bl _)⟩
      have := Nat.min_le_left (toPy a).depth (toPy b).depth
      omega
    · exact o.elim

noncomputable def flatD : D → Bool
  | .non => true
  | .bl _ => true
  | .int _ => true
  | .str _ => true
  | _ => false
noncomputable def flV : D → V
  | .bl b => .bl b
  | .int i => .int i
  | .str x => .str x
  | _ => .non
theorem Has.fl {K : PySem.W.Frag} {G : Hp} {v : V} {d : D} (r : Has K G v d) (f : flatD d = true) : v = flV d ∧ flatV v = true := by
  cases r with
  | non => exact ⟨rfl, rfl⟩
  | bl b => exact ⟨rfl, rfl⟩
  | int i => exact ⟨rfl, rfl⟩
  | str x => exact ⟨rfl, rfl⟩
  | lst _ _ => cases f
  | tup _ _ => cases f
  | exn0 _ _ => cases f
  | exn1 _ _ _ _ _ => cases f
  | dic _ _ _ => cases f
  | obj _ _ _ _ => cases f
theorem Has.ofFl {K : PySem.W.Frag} {G G' : Hp} {v : V} {d : D} (r : Has K G v d) (f : flatD d = true) : Has K G' v d := by
  cases r with
  | non => exact .non
  | bl b => exact .bl b
  | int i => exact .int i
  | str x => exact .str x
  | lst _ _ => cases f
  | tup _ _ => cases f
  | exn0 _ _ => cases f
  | exn1 _ _ _ _ _ => cases f
  | dic _ _ _ => cases f
  | obj _ _ _ _ => cases f
theorem HasL.fl {K : PySem.W.Frag} {G : Hp} : ∀ {vs : List V} {ds : List D}, HasL K G vs ds → ds.all flatD = true → vs = ds.map flV ∧ vs.all flatV = true
  | _, _, .nil, _ => ⟨rfl, rfl⟩
  | _, _, .cons h r, f => by
    rw [List.all_cons, Bool.and_eq_true] at f
    obtain ⟨e1, e2⟩ := h.fl f.1
    obtain ⟨e3, e4⟩ := HasL.fl r f.2
    exact ⟨by rw [List.map_cons, ← e1, ← e3], by rw [List.all_cons, e2, e4]; rfl⟩
noncomputable def lenD : List D → R W
  | [.str x] => if x.length ≤ 16777216 then .ok (.sh (.int x.length)) else .no
  | [.lst ds] => .ok (.sh (.int ds.length))
  | [.tup ds] => .ok (.sh (.int ds.length))
  | _ => .no
theorem call_lenD3 : CallD X (.builtin "len") lenD := by
  intro pins s σ H vs us Q I rv q
  obtain ⟨EX, G, ds, g, r, o⟩ := q
  cases r with
  | nil => exact False.elim o
  | cons h t =>
    cases t with
    | cons _ _ => cases h <;> exact False.elim o
    | nil =>
      cases h with
      | str x =>
        simp only [lenD] at o
        split at o
        · rename_i hz
          exact call_len_str pins s σ H _ _ Q I rv ⟨x, rfl, by rw [sizeLine_eq]; exact hz, out_sh o g (.int _)⟩
        · exact o.elim
      | lst h r => exact call_len_seq pins s σ H _ _ Q I rv ⟨_, _, rfl, .inl (g.seq h), by rw [r.length]; exact out_sh o g (.int _)⟩
      | tup h r => exact call_len_seq pins s σ H _ _ Q I rv ⟨_, _, rfl, .inr (Same.tupS g h), by rw [r.length]; exact out_sh o g (.int _)⟩
      | _ => exact False.elim o
noncomputable def maxD : List D → R W
  | [.int i, .int j] => .ok (.sh (.int (if j > i then j else i)))
  | _ => .no
noncomputable def minD : List D → R W
  | [.int i, .int j] => .ok (.sh (.int (if j < i then j else i)))
  | _ => .no
theorem two_ints {K : PySem.W.Frag} {G : Hp} {vs : List V} {ds : List D} (r : HasL K G vs ds) {P : Prop} (h : ∀ i j, vs = [.int i, .int j] → ds = [.int i, .int j] → P) (n : (∀ i j, ds ≠ [.int i, .int j]) → P) : P := by
  by_cases e : ∃ i j, ds = [.int i, .int j]
  · obtain ⟨i, j, rfl⟩ := e
    cases r with
    | cons a t =>
      cases t with
      | cons b t2 =>
        cases t2
        cases a
        cases b
        exact h i j rfl rfl
  · exact n fun i j z => e ⟨i, j, z⟩
theorem maxD_no {ds : List D} (h : ∀ i j, ds ≠ [.int i, .int j]) : maxD ds = .no := by
  unfold maxD
  split
  · rename_i i j; exact absurd rfl (h i j)
  · rfl
theorem minD_no {ds : List D} (h : ∀ i j, ds ≠ [.int i, .int j]) : minD ds = .no := by
  unfold minD
  split
  · rename_i i j; exact absurd rfl (h i j)
  · rfl
theorem call_maxD (hc : X.calm = true) : CallD X (.builtin "max") maxD := by
  intro pins s σ H vs us Q I rv q
  obtain ⟨EX, G, ds, g, r, o⟩ := q
  refine two_ints r (fun i j e1 e2 => ?_) fun n => ?_
  · subst e1 e2
    exact call_max2 hc pins s σ H _ _ Q I rv ⟨i, j, rfl, out_sh o g (.int _)⟩
  · rw [maxD_no n] at o; exact o.elim
theorem call_minD (hc : X.calm = true) : CallD X (.builtin "min") minD := by
  intro pins s σ H vs us Q I rv q
  obtain ⟨EX, G, ds, g, r, o⟩ := q
  refine two_ints r (fun i j e1 e2 => ?_) fun n => ?_
  · subst e1 e2
    exact call_min2 hc pins s σ H _ _ Q I rv ⟨i, j, rfl, out_sh o g (.int _)⟩
  · rw [minD_no n] at o; exact o.elim
noncomputable def strOf : List D → R W
  | [.int i] => if i.natAbs.log2 < 1920 then .ok (.sh (.str (toString i))) else .no
  | _ => .no
theorem call_strOf : CallD X (.type "str") strOf := by
  intro pins s σ H vs us Q I rv q
  obtain ⟨EX, G, ds, g, r, o⟩ := q
  cases r with
  | nil => exact False.elim o
  | cons h t =>
    cases t with
    | cons _ _ => cases h <;> exact False.elim o
    | nil =>
      cases h with
      | int i =>
        simp only [strOf] at o
        split at o
        · rename_i hz
          exact call_str_int pins s σ H _ _ Q I rv ⟨i, rfl, hz, out_sh o g (.str _)⟩
        · exact o.elim
      | _ => exact False.elim o
noncomputable def listOf : List D → R W
  | [.lst ds] => .ok (.ow (.lst ds))
  | [.tup ds] => .ok (.ow (.lst ds))
  | _ => .no
theorem call_listOf : CallD X (.type "list") listOf := by
  intro pins s σ H vs us Q I rv q
  obtain ⟨EX, G, ds, g, r, o⟩ := q
  cases r with
  | nil => exact False.elim o
  | cons h t =>
    cases t with
    | cons _ _ => cases h <;> exact False.elim o
    | nil =>
      cases h with
      | lst h r => exact call_list_of pins s σ H _ _ Q I rv ⟨_, _, rfl, .inl (g.seq h), out_own o g r⟩
      | tup h r => exact call_list_of pins s σ H _ _ Q I rv ⟨_, _, rfl, .inr (Same.tupS g h), out_own o g r⟩
      | _ => exact False.elim o
end
end L3

namespace L3
open PySem PySem.Spec PyProof.Rows L2

structure RoomC (c : Bool) (k : Nat) (A : Around) : Prop where
  hd : c = true → A.handled = none
  dp : A.depth + 3 * k + 5 < recursionLimit
  un : A.units + 16 * k + 200 < cLine
theorem RoomC.mono {c : Bool} {j k : Nat} {A : Around} (r : RoomC c k A) (h : j ≤ k) : RoomC c j A := ⟨r.hd, by have := r.dp; omega, by have := r.un; omega⟩
theorem RoomC.deeper {c : Bool} {k : Nat} {A : Around} (r : RoomC c (k + 1) A) (env : Env) : RoomC c k (A.deeper env) :=
  ⟨r.hd, by have := r.dp; show A.depth + 1 + 3 * k + 5 < _; omega, by have := r.un; show A.units + 3 + 16 * k + 200 < _; omega⟩
theorem RoomC.make {c : Bool} {k : Nat} {A : Around} (r : RoomC c (k + 1) A) (C : Addr) (us : List Value) (kw : List (Str × Value)) : RoomC c k (A.under (.builtin "type.__call__" ⟨.ref C :: us, kw⟩)) :=
  ⟨r.hd, by have := r.dp; rw [make_depth]; omega, by have := r.un; rw [make_units]; omega⟩
theorem RoomC.any {c : Bool} {k : Nat} {A : Around} (r : RoomC true k A) : RoomC c k A := ⟨fun _ => r.hd rfl, r.dp, r.un⟩
theorem RoomC.loose {c : Bool} {k : Nat} {A : Around} (r : RoomC c k A) : RoomC false k A := ⟨fun z => absurd z Bool.false_ne_true, r.dp, r.un⟩
theorem RoomC.mark {c : Bool} {k : Nat} {A : Around} (r : RoomC c k A) (h : Option Value) : RoomC false k (A.mark h) := ⟨fun z => absurd z Bool.false_ne_true, r.dp, r.un⟩
theorem RoomC.of {k : Nat} {A : Around} (r : Room k A) : RoomC true k A := ⟨fun _ => r.hd, r.dp, r.un⟩

structure FnX (P : Program) (w : World) (K : PySem.W.Frag) (mg : Str → Option Value) (base : Heap) (c : Bool) (k : Nat) (f : Addr) (fd : FuncData) (ps : List Str) (sp : Sp) : Prop where
  len : ∀ vs H Q E, sp vs H Q E → vs.length = ps.length
  run : ∀ (A : Around) (outer : List Env) (s : Shared) (H : Hp) (args : Args) (us : List Value) (vs : List V) (Q : VK) (E : XK), RoomC c k A → Env0 P w K mg base A outer s H → BindsTo s fd args (ps.zip us) → Vals vs us → sp vs H Q E →
    codeAny (model P w) A (.call (.ref f) args) (CR (CXr P w) outer P w H s Q E) s
theorem FnX.mono {P : Program} {w : World} {K : PySem.W.Frag} {mg : Str → Option Value} {base : Heap} {c : Bool} {j k : Nat} {f : Addr} {fd : FuncData} {ps : List Str} {sp : Sp} (F : FnX P w K mg base c j f fd ps sp) (h : j ≤ k) : FnX P w K mg base c k f fd ps sp :=
  ⟨F.len, fun A outer s H args us vs Q E hr => F.run A outer s H args us vs Q E (hr.mono h)⟩
noncomputable abbrev cxN (c : Bool) (P : Program) (w : World) (K : PySem.W.Frag) (mg : Str → Option Value) (base : Heap) (N : List Str) (qual : Str) (scope : Scope) (f : Addr) (cd : Value) (A : Around) (outer : List Env) (s : Shared) (H : Hp) (E : XK) : Cx :=
  { cxOf (CXr P w) P w K mg base N qual scope f cd A outer s H E with calm := c }
theorem inv_startN {c : Bool} {P : Program} {w : World} {K : PySem.W.Frag} {mg : Str → Option Value} {base : Heap} {N ps : List Str} {qual : Str} {scope : Scope} {f : Addr} {cd : Value} {A : Around} {outer : List Env} {s s1 : Shared} {H : Hp} {E : XK} {us : List Value} {vs : List V}
    (S : FnScope N ps scope) (hd : c = true → A.handled = none) (e0 : Env0 P w K mg base A outer s H) (hl : vs.length = ps.length) (r : Vals vs us)
    (x : InCallC s s.heap.objs.size (bindL (envOfC qual scope s.heap.objs.size f cd).kindOf (ps.zip us) fun _ => none) (cellsFrom (s.heap.objs.size + 1) scope.names []) (bindC (envOfC qual scope s.heap.objs.size f cd).kindOf (ps.zip us) fun _ => none) s1) :
    Inv (cxN c P w K mg base N qual scope f cd A outer s H E) [] (start N vs) H s1 := by
  have I := inv_start (CX := CXr P w) (E := E) (qual := qual) (f := f) (cd := cd) (A := { A with handled := none }) S rfl ⟨e0.frames, e0.mod, e0.bs, e0.bsz, e0.funs, e0.frf, e0.hok, e0.bare⟩ hl r x
  exact ⟨⟨I.ok.mod, I.ok.kind, I.ok.glob, I.ok.blt, I.ok.above, I.ok.inj, I.ok.has, I.ok.cab, hd, Around.frames_deeper e0.frames, I.ok.stk, I.ok.exf, I.ok.bs, I.ok.bsz, I.ok.noex, I.ok.exfs, I.ok.funs, I.ok.frf⟩,
    I.os, I.bare, I.base, I.loc, I.cell, I.free, I.freeC, I.pin, I.hok, I.len⟩
theorem fnx_of {c : Bool} {P : Program} {w : World} {K : PySem.W.Frag} {mg : Str → Option Value} {base : Heap} {k : Nat} {f : Addr} {name qual : Str} {params : Arguments} {body : List Stmt} {scope : Scope} {dV kV doc pm cdv ct oc : Value} {an od : Option Addr}
    {osl : Array (Option Value)} {N ps : List Str} {sp : Sp} (lk : K.lookup f = some ⟨oc, od, .func (PySem.W.fnOf name qual params body scope dV kV doc pm an cdv ct), osl⟩) (hcd : PySem.W.codeIn K cdv qual = true) (S : FnScope N ps scope)
    (len : ∀ vs H Q E, sp vs H Q E → vs.length = ps.length)
    (hbody : ∀ (A : Around) (outer : List Env) (s : Shared) (H : Hp) (vs : List V) (Q : VK) (E : XK), RoomC c k (A.deeper (envOfC qual scope s.heap.objs.size f cdv)) → sp vs H Q E →
      ∃ t, PSs (cxN c P w K mg base N qual scope f cdv A outer s H E) body t ∧ t { nx := fun _ H' => Q .non H', rt := Q } (start N vs) H) :
    FnX P w K mg base c (k + 1) f (PySem.W.fnOf name qual params body scope dV kV doc pm an cdv ct) ps sp := by
  refine ⟨len, fun A outer s H args us vs Q E hr e0 hb r hsp => ?_⟩
  have hl := len _ _ _ _ hsp
  have KX : K.In s.heap := e0.mod.kin.keeps fun b o e => (e0.bs b o e).1
  have lim : s.heap.NoLimit := e0.mod.nolimit.keeps fun b o e => (e0.bs b o e).1
  have hkind : ∀ y ∈ ps.zip us, scope.names.lookup y.1 = some .local ∨ (scope.names.lookup y.1 = some .cell ∧ ((cellsFrom (s.heap.objs.size + 1) scope.names []).lookup y.1).isSome = true) := fun ⟨n, v⟩ hy => by
    rcases S.par n (List.of_mem_zip hy).1 with q | q
    · exact .inl q
    · exact .inr ⟨q, PySem.W.cellsFrom_some _ _ _ (.inl q)⟩
  have dp : A.depth < recursionLimit := by have := hr.dp; omega
  refine codeAny_call_function dp (KX _ _ lk) rfl S.co S.gen rfl (PySem.W.codeRec_of KX hcd) (hb _ _ _ _ ?_)
  refine wpAny_newFunctionEnv_cells S.kind hkind fun env he s1 x => ?_
  subst he
  refine ⟨lim.keeps x.toInCall.keep, codeAny_func ?_⟩
  obtain ⟨t, ht, hq⟩ := hbody A outer s H vs Q E (hr.deeper _) hsp
  have I : Inv (cxN c P w K mg base N qual scope f cdv A outer s H E) [] (start N vs) H s1 := inv_startN S hr.hd e0 hl r x
  refine wpAny_mono (ht [] s1 (start N vs) H _ I hq) (fun fl s' hs => ?_) fun e s' hs => hs
  have fin : ∀ {σ' : Sg} {H' : Hp} {v : V} {u : Value}, Inv (cxN c P w K mg base N qual scope f cdv A outer s H E) [] σ' H' s' → RelV v u → Q v H' → CE outer P w H s Q u s' :=
    fun {σ' H' v u} J rv q => ⟨v, H', J.os, J.bare, J.base, J.hok, rv, q⟩
  cases fl with
  | ret u =>
    obtain ⟨v, σ', H', J, rv, q⟩ := hs
    exact fin J rv q
  | next =>
    obtain ⟨σ', H', J, q⟩ := hs
    exact fin (v := V.non) (u := Value.none) J rfl q
  | brk =>
    obtain ⟨_, _, _, q⟩ := hs
    exact False.elim q
  | cont =>
    obtain ⟨_, _, _, q⟩ := hs
    exact False.elim q
theorem Fun.okX {c : Bool} {P : Program} {w : World} {K : PySem.W.Frag} {mg : Str → Option Value} {base : Heap} {x qual : Str} {st : Stmt} {f : Addr} {fd : FuncData} {N ps : List Str} {k : Nat} {sp : Sp} (F : Fun K x qual st f fd) (S : FnScope N ps (defScope st)) (len : ∀ vs H Q E, sp vs H Q E → vs.length = ps.length)
    (hbody : ∀ (cdv : Value) (A : Around) (outer : List Env) (s : Shared) (H : Hp) (vs : List V) (Q : VK) (E : XK), RoomC c k (A.deeper (envOfC qual (defScope st) s.heap.objs.size f cdv)) → sp vs H Q E →
      ∃ t, PSs (cxN c P w K mg base N qual (defScope st) f cdv A outer s H E) (defBody st) t ∧ t { nx := fun _ H' => Q .non H', rt := Q } (start N vs) H) : FnX P w K mg base c (k + 1) f fd ps sp := by
  obtain ⟨oc, od, kV, doc, pm, an, cdv, ct, osl, rfl, lk, hcd⟩ := F.ex
  exact fnx_of lk hcd S len fun A outer s H vs Q E hr hsp => hbody cdv A outer s H vs Q E hr hsp

noncomputable def Lk (X : Cx) (EX : EXS) : Prop := ∀ (pins : List (Addr × Obj)) (σ : Sg) (H : Hp) (s : Shared) (e : Value) (s' : Shared), Inv X pins σ H s → CXr X.prog X.w X.stack H s (EXE X.K (EX σ)) e s' → X.xe e s'
theorem lk_none {X : Cx} : Lk X EXS0 := fun pins σ H s e s' I c => by
  obtain ⟨a, C, dx, T, H', _, _, _, _, _, _, _, _, _, _, x, G, _, _, q⟩ := c
  exact False.elim q
theorem lk_def {c : Bool} {P : Program} {w : World} {K : PySem.W.Frag} {mg : Str → Option Value} {base : Heap} {N : List Str} {qual : Str} {scope : Scope} {f : Addr} {cd : Value} {A : Around} {outer : List Env} {s : Shared} {H : Hp} {E : XK} :
    Lk (cxN c P w K mg base N qual scope f cd A outer s H E) (fun _ => EXof K E) := fun pins σ H s e s' I h => leaves_on I h fun cls dx H' q => q.of

noncomputable def spX (K : PySem.W.Frag) (n : Nat) (F : List D → R W) : Sp := fun vs H Q E => vs.length = n ∧ ∃ G ds, Same G H ∧ HasL K G vs ds ∧ Out K (EXof K E) G H (F ds) Q
noncomputable def eFn (n : Nat) (F : List D → R W) (fa : FA) : FE := fun δ => (fa δ).bind fun ds => if ds.length = n then F ds else .no
noncomputable def FnD (P : Program) (w : World) (K : PySem.W.Frag) (mg : Str → Option Value) (base : Heap) (c : Bool) (x : Str) (k : Nat) (ps : List Str) (F : List D → R W) : Prop :=
  ∃ f fd, FnX P w K mg base c k f fd ps (spX K ps.length F) ∧ mg x = some (.ref f) ∧ PySem.W.keepIn K (.ref f) = true ∧ Binds K fd ps []
section
variable {X : Cx} {EX : EXS} {e : Expr} {es : List Expr} {fa : FA} {x : Str} {pp pos : Pos} {c : Bool} {k k' : Nat} {ps : List Str} {F : List D → R W}
theorem run_fnX {pins : List (Addr × Obj)} {σ : Sg} {H : Hp} {s : Shared} {Q : VK} {us : List Value} {vs : List V} {f : Addr} {fd : FuncData} {sp : Sp} (F : FnX X.prog X.w X.K X.mg X.base c k f fd ps sp) (hr : RoomC c k X.A) (hb : Binds X.K fd ps []) (lk : Lk X EX)
    (I : Inv X pins σ H s) (r : Vals vs us) (h : sp vs H Q (EXE X.K (EX σ))) : wpAny (model X.prog X.w) X.A (call (.ref f) us) (EP X pins σ Q) X.xe s := by
  have hl : us.length = ps.length := by rw [← r.length]; exact F.len _ _ _ _ h
  have hb' := hb s us I.kIn (by rw [List.append_nil]; exact hl)
  rw [List.append_nil] at hb'
  refine wpAny_call (codeAny_mono (F.run X.A X.stack s H ⟨us, []⟩ us vs Q _ hr I.env0 hb' r h) fun r s' hq => ?_)
  cases r with
  | error e => exact lk pins σ H s e s' I hq
  | ok fl =>
    cases fl with
    | ret u => exact I.after hq
    | next => exact False.elim hq
    | brk => exact False.elim hq
    | cont => exact False.elim hq
theorem ed_call (hr : RoomC c k' X.A) (lk : Lk X EX) (h : FnD X.prog X.w X.K X.mg X.base c x k ps F) (ha : AD X EX (e :: es) fa) (hk : k ≤ k' := by decide) (hg : Gl X x := by rfl) (hdb : (x == ("__debug__" : Str)) = false := by decide)
    (he : starEach (e :: es) X.env = (false, eval e X.env) :: starEach es X.env := by rfl) (hpl : (backTo pos (starEach es X.env)).any (·.1) = false := by rfl) :
    ED X EX (.Call (.Name x pp) (e :: es) [] pos) (eFn ps.length F fa) := by
  obtain ⟨f, fd, ok, hm, kp, hb⟩ := h
  intro pins s σ H Q I q
  obtain ⟨G, δ, g0, s0, o⟩ := q
  refine wpAny_Call_Name_kw (ld_glob I hg hm ?_ hdb)
  have ta : tDa X.K EX fa σ H fun vs H1 => spX X.K ps.length F vs H1 Q (EXE X.K (EX σ)) := by
    refine tDa.seq g0 s0 o fun ds vs G' H' _ st r o' => ?_
    split at o'
    · rename_i hl
      refine ⟨by rw [r.length]; exact hl, G', ds, st.gh, r, ?_⟩
      cases q : F ds with
      | ok w => rw [q] at o'; exact o'
      | ex x => rw [q] at o'; exact EXof.in o'
      | no => rw [q] at o'; exact o'.elim
    · exact o'.elim
  refine PySem.W.callWith_K (h₀ := X.base) I.ok.mod.kin kp (thn (ha pos pins s σ H _ I ta) fun us s1 ⟨vs, H1, I1, r, q⟩ => ⟨I1.kIn, ?_⟩) he hpl
  exact run_fnX ok (hr.mono hk) hb lk I1 r q
end

inductive Sl where
  | no | sh (d : D) | ow (d : D) | tr (t : Tn) | lk (d : D) | lt (t : Tn)
noncomputable abbrev SE := List Sl
inductive Fl where
  | nx (Δ : SE) | rt (w : W) | bk (Δ : SE) | ct (Δ : SE) | ex (x : Xn) (Δ : SE) | no
noncomputable abbrev FS := SE → Fl
noncomputable def Sl.pub : Sl → Option D
  | .sh d => some d
  | _ => none
noncomputable def Sl.any : Sl → Option D
  | .sh d => some d
  | .ow d => some d
  | .tr t => some t.d
  | .lk d => some d
  | .lt t => some t.d
  | .no => none
noncomputable def Sl.give : Sl → Sl
  | .ow d => .sh d
  | .tr t => .sh t.d
  | s => s
noncomputable def Sl.own : Sl → Option Tn
  | .ow d => some (Tn.of d)
  | .tr t => some t
  | .lk d => some (Tn.of d)
  | .lt t => some t
  | _ => none
noncomputable def vsh (Δ : SE) : DE := Δ.map Sl.pub
noncomputable def vall (Δ : SE) : DE := Δ.map Sl.any
noncomputable def gall (Δ : SE) : SE := Δ.map Sl.give

noncomputable abbrev OS := Nat → AS
structure HB where
  h : Hp
  b : Nat → Addr
structure Ev (K : PySem.W.Frag) (H0 : HB) (G0 G H : Hp) (σ : Sg) (Δ : SE) (A : OS) : Prop where
  st : Step G0 H0.h G H
  len : σ.length = Δ.length
  sh : ∀ (i : Nat) (d : D), Δ[i]? = some (.sh d) → ∃ v, σ[i]? = some (some v) ∧ Has K G v d
  ow : ∀ (i : Nat) (s : Sl) (t : Tn), Δ[i]? = some s → s.own = some t → ∃ v, σ[i]? = some (some v) ∧ Ow K G H v t (A i)
  out : ∀ (i : Nat) (a : Addr), A i a → G a = none ∧ H0.h a = none ∧ H a ≠ none
  dj : ∀ (i j : Nat) (a : Addr), A i a → A j a → i = j
  lk : ∀ (i : Nat) (d : D), Δ[i]? = some (.lk d) → σ[i]? = some (some (.ref (H0.b i)))
  lt : ∀ (i : Nat) (t : Tn), Δ[i]? = some (.lt t) → σ[i]? = some (some (.ref (H0.b i)))

noncomputable def allG (G H : Hp) (A : OS) : Hp := joinG G H fun b => ∃ i, A i b
structure MStep (S : AS) (G H G' H' : Hp) : Prop where
  hh : ∀ b o, ¬ S b → H b = some o → H' b = some o
  al : ∀ b, H b ≠ none → H' b ≠ none
  gh : Same G' H'
  gg : Same G G'
  nw : ∀ b, G b = none → H b ≠ none → G' b = none
structure MStep2 (S : AS) (G H G' H' : Hp) : Prop where
  hh : ∀ b o, ¬ S b → H b = some o → H' b = some o
  gh : Same G' H'
  gg : Same G G'
  nw : ∀ b, ¬ S b → G b = none → H b ≠ none → G' b = none
theorem MStep.weak {S : AS} {G H G' H' : Hp} (m : MStep S G H G' H') : MStep2 S G H G' H' := ⟨m.hh, m.gh, m.gg, fun b _ => m.nw b⟩
theorem Step.m {S : AS} {G H G' H' : Hp} (s : Step G H G' H') : MStep S G H G' H' := ⟨fun b o _ q => s.hh b o q, fun b n z => n (s.hh.free z), s.gh, s.gg, s.nw⟩
theorem MStep.andThen {S : AS} {G H G1 H1 G2 H2 : Hp} (a : MStep S G H G1 H1) (b : Step G1 H1 G2 H2) : MStep S G H G2 H2 :=
  ⟨fun c o n q => b.hh c o (a.hh c o n q), fun c n z => a.al c n (b.hh.free z), b.gh, a.gg.trans b.gg, fun c e n => b.nw c (a.nw c e n) (a.al c n)⟩
theorem MStep.write {S : AS} {G H : Hp} (g : Same G H) {a : Addr} (hs : S a) (n : G a = none) (o : HO) : MStep S G H G (L2.upd H a o) :=
  ⟨fun b o' nb q => by rw [upd_ne (fun z => nb (by rw [z]; exact hs))]; exact q, fun b nb => by
    by_cases z : b = a
    · subst z; rw [upd_same]; simp
    · rw [upd_ne z]; exact nb, fun b o' q => by
    by_cases z : b = a
    · subst z; rw [n] at q; cases q
    · rw [upd_ne z]; exact g b o' q, Same.refl _, fun _ e _ => e⟩
noncomputable def setA (A : OS) (i : Nat) (S : AS) : OS := fun j => if j = i then S else A j
theorem setA_same {A : OS} {i : Nat} {S : AS} : setA A i S i = S := if_pos rfl
theorem setA_ne {A : OS} {i j : Nat} {S : AS} (h : j ≠ i) : setA A i S j = A j := if_neg h
section
variable {K : PySem.W.Frag} {H0 : HB} {G0 G H G' H' : Hp} {σ : Sg} {Δ : SE} {A : OS}
theorem Ev.gsh (E : Ev K H0 G0 G H σ Δ A) : HasS K G σ (vsh Δ) := ⟨by rw [E.len]; unfold vsh; rw [List.length_map], fun i d q => by
  unfold vsh at q
  rw [List.getElem?_map] at q
  cases e : Δ[i]? with
  | none => rw [e] at q; cases q
  | some z =>
    rw [e] at q
    cases z with
    | sh d' => cases q; exact E.sh i d e
    | _ => cases q⟩
theorem Ev.aH (E : Ev K H0 G0 G H σ Δ A) : Same (allG G H A) H := fun b o q => by
  unfold allG joinG at q
  split at q
  · exact q
  · exact E.st.gh b o q
theorem Ev.aG (E : Ev K H0 G0 G H σ Δ A) : Same G (allG G H A) := fun b o q => by
  unfold allG joinG
  split
  · rename_i hb; obtain ⟨i, hb⟩ := hb; rw [(E.out i b hb).1] at q; cases q
  · exact q
theorem Ev.aStep (E : Ev K H0 G0 G H σ Δ A) : Step G0 H0.h (allG G H A) H :=
  ⟨E.st.hh, E.aH, E.st.gg.trans E.aG, fun b n z => by
    unfold allG joinG
    split
    · rename_i hb; obtain ⟨i, hb⟩ := hb; exact absurd (E.out i b hb).2.1 z
    · exact E.st.nw b n z⟩
theorem Ev.aIn {A : OS} {G H : Hp} {i : Nat} {b : Addr} {o : HO} (hb : A i b) (q : H b = some o) : allG G H A b = some o := by
  unfold allG joinG
  rw [if_pos ⟨i, hb⟩]
  exact q
theorem Ev.gall (E : Ev K H0 G0 G H σ Δ A) : HasS K (allG G H A) σ (vall Δ) := ⟨by rw [E.len]; unfold vall; rw [List.length_map], fun i d q => by
  unfold vall at q
  rw [List.getElem?_map] at q
  cases e : Δ[i]? with
  | none => rw [e] at q; cases q
  | some z =>
    rw [e] at q
    cases z with
    | sh d' =>
      cases q
      obtain ⟨v, e1, r⟩ := E.sh i d e
      exact ⟨v, e1, r.mono E.aG⟩
    | ow d' =>
      cases q
      obtain ⟨v, e1, t⟩ := E.ow i _ _ e rfl
      have r := t.has E.aG fun b o hb q => Ev.aIn hb q
      rw [Tn.of_d] at r
      exact ⟨v, e1, r⟩
    | tr t' =>
      cases q
      obtain ⟨v, e1, t⟩ := E.ow i _ _ e rfl
      exact ⟨v, e1, t.has E.aG fun b o hb q => Ev.aIn hb q⟩
    | lk d' =>
      cases q
      obtain ⟨v, e1, t⟩ := E.ow i _ _ e rfl
      have r := t.has E.aG fun b o hb q => Ev.aIn hb q
      rw [Tn.of_d] at r
      exact ⟨v, e1, r⟩
    | lt t' =>
      cases q
      obtain ⟨v, e1, t⟩ := E.ow i _ _ e rfl
      exact ⟨v, e1, t.has E.aG fun b o hb q => Ev.aIn hb q⟩
    | no => cases q⟩
theorem Ev.grow (E : Ev K H0 G0 G H σ Δ A) (s : Step G H G' H') : Ev K H0 G0 G' H' σ Δ A :=
  ⟨E.st.trans s, E.len, fun i d e => let ⟨v, e1, r⟩ := E.sh i d e; ⟨v, e1, r.mono s.gg⟩, fun i z d e z' => let ⟨v, e1, t⟩ := E.ow i z d e z'; ⟨v, e1, t.mono s.gg (fun b o _ q => s.hh b o q) fun _ q => q⟩,
    fun i a ha => let ⟨h1, h2, h3⟩ := E.out i a ha; ⟨s.nw a h1 h3, h2, fun z => h3 (s.hh.free z)⟩, E.dj, E.lk, E.lt⟩
theorem Ev.keep (E : Ev K H0 G0 G H σ Δ A) (s : Same H H') : Ev K H0 G0 G H' σ Δ A :=
  E.grow ⟨s, E.st.gh.trans s, Same.refl _, fun _ n _ => n⟩
theorem getSet {α : Type} {l : List α} {i j : Nat} {x y : α} (h : (l.set i x)[j]? = some y) : (i = j ∧ y = x) ∨ (i ≠ j ∧ l[j]? = some y) := by
  by_cases e : i = j
  · subst e
    rw [List.getElem?_set] at h
    simp only [if_true] at h
    split at h
    · exact .inl ⟨rfl, (Option.some.inj h).symm⟩
    · cases h
  · rw [List.getElem?_set_ne e] at h
    exact .inr ⟨e, h⟩
theorem set_lt {α : Type} {l : List α} {i : Nat} {x y : α} (h : (l.set i x)[i]? = some y) : i < l.length := by
  by_cases hh : i < l.length
  · exact hh
  · rw [List.getElem?_eq_none (by rw [List.length_set]; omega)] at h; cases h
theorem Ev.put (E : Ev K H0 G0 G H σ Δ A) {i : Nat} {v : V} {d : D} (r : Has K G v d) : Ev K H0 G0 G H (σ.set i (some v)) (Δ.set i (.sh d)) A := by
  refine ⟨E.st, by rw [List.length_set, List.length_set]; exact E.len, fun j d' e => ?_, fun j z d' e zo => ?_, E.out, E.dj, fun j d' e => ?_, fun j d' e => ?_⟩
  · rcases getSet e with ⟨rfl, q⟩ | ⟨n, q⟩
    · cases q
      exact ⟨v, by rw [List.getElem?_set_self (by rw [E.len]; exact set_lt e)], r⟩
    · obtain ⟨v', e1, r'⟩ := E.sh j d' q
      exact ⟨v', by rw [List.getElem?_set_ne n]; exact e1, r'⟩
  · rcases getSet e with ⟨rfl, q⟩ | ⟨n, q⟩
    · subst q; cases zo
    · obtain ⟨v', e1, t⟩ := E.ow j z d' q zo
      exact ⟨v', by rw [List.getElem?_set_ne n]; exact e1, t⟩
  · rcases getSet e with ⟨rfl, q⟩ | ⟨n, q⟩
    · cases q
    · rw [List.getElem?_set_ne n]; exact E.lk j d' q
  · rcases getSet e with ⟨rfl, q⟩ | ⟨n, q⟩
    · cases q
    · rw [List.getElem?_set_ne n]; exact E.lt j d' q
theorem Ev.putO (E : Ev K H0 G0 G H σ Δ A) {i : Nat} {v : V} {z : Sl} {d : Tn} {S : AS} (fr : ∀ a, S a → H0.h a = none ∧ G a = none ∧ H a ≠ none) (zo : z.own = some d) (zl : ∀ d, z ≠ .lk d) (t : Ow K G H v d S) (nw : ∀ j a, A j a → ¬ S a) (zt : ∀ d, z = .lt d → v = .ref (H0.b i) := by intro _ z; cases z) :
    Ev K H0 G0 G H (σ.set i (some v)) (Δ.set i z) (setA A i S) := by
  refine ⟨E.st, by rw [List.length_set, List.length_set]; exact E.len, fun j d' e' => ?_, fun j z' d' e' zo' => ?_, fun j a ha => ?_, fun j j' a h1 h2 => ?_, fun j d' e' => ?_, fun j d' e' => ?_⟩
  · rcases getSet e' with ⟨rfl, q⟩ | ⟨nn, q⟩
    · subst q; cases zo
    · obtain ⟨v', e1, r'⟩ := E.sh j d' q
      exact ⟨v', by rw [List.getElem?_set_ne nn]; exact e1, r'⟩
  · rcases getSet e' with ⟨rfl, q⟩ | ⟨nn, q⟩
    · subst q
      rw [zo] at zo'
      cases zo'
      exact ⟨v, by rw [List.getElem?_set_self (by rw [E.len]; exact set_lt e')], by rw [setA_same]; exact t⟩
    · obtain ⟨v', e1, x⟩ := E.ow j z' d' q zo'
      exact ⟨v', by rw [List.getElem?_set_ne nn]; exact e1, by rw [setA_ne (Ne.symm nn)]; exact x⟩
  · by_cases z : j = i
    · subst z
      rw [setA_same] at ha
      obtain ⟨a1, a2, a3⟩ := fr a ha
      exact ⟨a2, a1, a3⟩
    · rw [setA_ne z] at ha
      exact E.out j a ha
  · by_cases z : j = i
    · by_cases z' : j' = i
      · rw [z, z']
      · rw [z, setA_same] at h1
        rw [setA_ne z'] at h2
        exact absurd h1 (nw j' a h2)
    · by_cases z' : j' = i
      · rw [setA_ne z] at h1
        rw [z', setA_same] at h2
        exact absurd h2 (nw j a h1)
      · rw [setA_ne z] at h1
        rw [setA_ne z'] at h2
        exact E.dj j j' a h1 h2
  · rcases getSet e' with ⟨rfl, q⟩ | ⟨nn, q⟩
    · exact absurd q.symm (zl d')
    · rw [List.getElem?_set_ne nn]; exact E.lk j d' q
  · rcases getSet e' with ⟨rfl, q⟩ | ⟨nn, q⟩
    · rw [List.getElem?_set_self (by rw [E.len]; exact set_lt e'), zt d' q.symm]
    · rw [List.getElem?_set_ne nn]; exact E.lt j d' q
theorem Ev.step2 (E : Ev K H0 G0 G H σ Δ A) {i : Nat} {v : V} {z : Sl} {d' : Tn} {S : AS} (zo : z.own = some d') (zl : ∀ d, z ≠ .lk d) (zt : ∀ d, z = .lt d → σ[i]? = some (some (.ref (H0.b i)))) (ms : MStep2 (A i) G H G' H') (s : σ[i]? = some (some v)) (fr : ∀ a, S a → (A i a ∨ H a = none) ∧ G' a = none ∧ H' a ≠ none) (t : Ow K G' H' v d' S) :
    Ev K H0 G0 G' H' σ (Δ.set i z) (setA A i S) := by
  have st : Step G0 H0.h G' H' := ⟨fun b o q => ms.hh b o (fun hb => by rw [(E.out i b hb).2.1] at q; cases q) (E.st.hh b o q), ms.gh, E.st.gg.trans ms.gg,
    fun b n z => ms.nw b (fun hb => z (E.out i b hb).2.1) (E.st.nw b n z) fun q => z (E.st.hh.free q)⟩
  refine ⟨st, by rw [List.length_set]; exact E.len, fun j d2 e' => ?_, fun j z' d2 e' zo' => ?_, fun j a ha => ?_, fun j j' a h1 h2 => ?_, fun j d2 e' => ?_, fun j d2 e' => ?_⟩
  · rcases getSet e' with ⟨rfl, q⟩ | ⟨nn, q⟩
    · subst q; cases zo
    · obtain ⟨v', e1, r'⟩ := E.sh j d2 q
      exact ⟨v', e1, r'.mono ms.gg⟩
  · rcases getSet e' with ⟨rfl, q⟩ | ⟨nn, q⟩
    · subst q
      rw [zo] at zo'
      cases zo'
      exact ⟨v, s, by rw [setA_same]; exact t⟩
    · obtain ⟨v', e1, x⟩ := E.ow j z' d2 q zo'
      rw [setA_ne (Ne.symm nn)]
      exact ⟨v', e1, x.mono ms.gg (fun b o hb q => ms.hh b o (fun hi => nn (E.dj i j b hi hb)) q) fun _ q => q⟩
  · by_cases z : j = i
    · subst z
      rw [setA_same] at ha
      obtain ⟨a1, a2, a3⟩ := fr a ha
      refine ⟨a2, ?_, a3⟩
      rcases a1 with a1 | a1
      · exact (E.out j a a1).2.1
      · exact E.st.hh.free a1
    · rw [setA_ne z] at ha
      obtain ⟨h1, h2, h3⟩ := E.out j a ha
      have hn : ¬ A i a := fun hb => z (E.dj j i a ha hb)
      refine ⟨ms.nw a hn h1 h3, h2, fun q => ?_⟩
      cases e : H a with
      | none => exact h3 e
      | some o => rw [ms.hh a o hn e] at q; cases q
  · have own : ∀ k, k ≠ i → A k a → ¬ S a := fun k nk hk hs => by
      rcases (fr a hs).1 with q | q
      · exact nk (E.dj k i a hk q)
      · exact (E.out k a hk).2.2 q
    by_cases z : j = i
    · by_cases z' : j' = i
      · rw [z, z']
      · rw [z, setA_same] at h1
        rw [setA_ne z'] at h2
        exact absurd h1 (own j' z' h2)
    · by_cases z' : j' = i
      · rw [setA_ne z] at h1
        rw [z', setA_same] at h2
        exact absurd h2 (own j z h1)
      · rw [setA_ne z] at h1
        rw [setA_ne z'] at h2
        exact E.dj j j' a h1 h2
  · rcases getSet e' with ⟨rfl, q⟩ | ⟨nn, q⟩
    · exact absurd q.symm (zl d2)
    · exact E.lk j d2 q
  · rcases getSet e' with ⟨rfl, q⟩ | ⟨nn, q⟩
    · exact zt d2 q.symm
    · exact E.lt j d2 q
theorem Ev.step (E : Ev K H0 G0 G H σ Δ A) {i : Nat} {v : V} {z : Sl} {d' : Tn} {S : AS} (zo : z.own = some d') (zl : ∀ d, z ≠ .lk d) (ms : MStep (A i) G H G' H') (s : σ[i]? = some (some v)) (fr : ∀ a, S a → (A i a ∨ H a = none) ∧ G' a = none ∧ H' a ≠ none) (t : Ow K G' H' v d' S) (zt : ∀ d, z ≠ .lt d := by intro _ z; cases z) :
    Ev K H0 G0 G' H' σ (Δ.set i z) (setA A i S) := E.step2 zo zl (fun d e => absurd e (zt d)) ms.weak s fr t
theorem Ev.writeL (E : Ev K H0 G0 G H σ Δ A) {i : Nat} {a : Addr} {vs : List V} {ds : List D} (s : σ[i]? = some (some (.ref a))) (m : A i a) (r : HasL K G vs ds) : Ev K H0 G0 G (upd H a (.lst vs)) σ (Δ.set i (.ow (.lst ds))) (setA A i (A i)) :=
  have ms := MStep.write E.st.gh m (E.out i a m).1 (.lst vs)
  E.step rfl (fun _ z => by cases z) ms s (fun b hb => ⟨.inl hb, (E.out i b hb).1, ms.al b (E.out i b hb).2.2⟩) (Ow.list upd_same m r)
end

noncomputable def give1 (Δ : SE) (j : Nat) : SE := match Δ[j]? with
  | some s => Δ.set j s.give
  | none => Δ
noncomputable def gsome (js : List Nat) (Δ : SE) : SE := js.foldl give1 Δ
section
variable {K : PySem.W.Frag} {H0 : HB} {G0 G H : Hp} {σ : Sg} {Δ : SE} {A : OS}
theorem set_same {α : Type} {l : List α} {j : Nat} {x : α} (h : l[j]? = some x) : l.set j x = l := by
  apply List.ext_getElem?
  intro i
  by_cases e : j = i
  · subst e
    have hlt : j < l.length := (List.getElem?_eq_some_iff.mp h).1
    rw [List.getElem?_set_self hlt, h]
  · rw [List.getElem?_set_ne e]
theorem Ev.give3 (E : Ev K H0 G0 G H σ Δ A) {j : Nat} {z : Sl} {t : Tn} (e : Δ[j]? = some z) (zo : z.own = some t) : Same G (joinG G H (A j)) ∧ Ev K H0 G0 (joinG G H (A j)) H σ (Δ.set j (.sh t.d)) (setA A j fun _ => False) := by
      obtain ⟨v, s1, t⟩ := E.ow j z t e zo
      have sg : Same G (joinG G H (A j)) := fun b o q => by
        unfold joinG
        split
        · rename_i hb; rw [(E.out j b hb).1] at q; cases q
        · exact q
      have gh : Same (joinG G H (A j)) H := fun b o q => by
        unfold joinG at q
        split at q
        · exact q
        · exact E.st.gh b o q
      refine ⟨sg, ⟨E.st.hh, gh, E.st.gg.trans sg, fun b h1 h2 => ?_⟩, by rw [List.length_set]; exact E.len, fun i d' e' => ?_, fun i z' d' e' zo' => ?_, fun i b hb => ?_, fun i i' b h1 h2 => ?_, fun i d' e' => ?_, fun i d' e' => ?_⟩
      · unfold joinG
        split
        · rename_i hb; exact absurd (E.out j b hb).2.1 h2
        · exact E.st.nw b h1 h2
      · rcases getSet e' with ⟨rfl, q⟩ | ⟨n, q⟩
        · cases q
          refine ⟨v, s1, t.has sg fun b o hb q => ?_⟩
          unfold joinG
          rw [if_pos hb]
          exact q
        · obtain ⟨v', e1, r⟩ := E.sh i d' q
          exact ⟨v', e1, r.mono sg⟩
      · rcases getSet e' with ⟨rfl, q⟩ | ⟨n, q⟩
        · subst q; cases zo'
        · obtain ⟨v', e1, t'⟩ := E.ow i z' d' q zo'
          rw [setA_ne (Ne.symm n)]
          exact ⟨v', e1, t'.mono sg (fun b o _ q => q) fun _ q => q⟩
      · by_cases z : i = j
        · subst z; rw [setA_same] at hb; exact hb.elim
        · rw [setA_ne z] at hb
          obtain ⟨k1, k2, k3⟩ := E.out i b hb
          refine ⟨?_, k2, k3⟩
          unfold joinG
          rw [if_neg fun q => z (E.dj i j b hb q)]
          exact k1
      · by_cases z : i = j
        · subst z; rw [setA_same] at h1; exact h1.elim
        · by_cases z' : i' = j
          · subst z'; rw [setA_same] at h2; exact h2.elim
          · rw [setA_ne z] at h1
            rw [setA_ne z'] at h2
            exact E.dj i i' b h1 h2
      · rcases getSet e' with ⟨rfl, q⟩ | ⟨n, q⟩
        · cases q
        · exact E.lk i d' q
      · rcases getSet e' with ⟨rfl, q⟩ | ⟨n, q⟩
        · cases q
        · exact E.lt i d' q
theorem Ev.give2 (E : Ev K H0 G0 G H σ Δ A) {j : Nat} {z : Sl} {t : Tn} (e : Δ[j]? = some z) (zo : z.own = some t) : ∃ G' A', Same G G' ∧ Ev K H0 G0 G' H σ (Δ.set j (.sh t.d)) A' := ⟨_, _, E.give3 e zo⟩
theorem Ev.give1 (E : Ev K H0 G0 G H σ Δ A) (j : Nat) : ∃ G' A', Same G G' ∧ Ev K H0 G0 G' H σ (L3.give1 Δ j) A' := by
  unfold L3.give1
  cases e : Δ[j]? with
  | none => exact ⟨G, A, Same.refl _, E⟩
  | some s =>
    cases s with
    | no => exact ⟨G, A, Same.refl _, by show Ev K H0 G0 G H σ (Δ.set j .no) A; rw [set_same e]; exact E⟩
    | sh d => exact ⟨G, A, Same.refl _, by show Ev K H0 G0 G H σ (Δ.set j (.sh d)) A; rw [set_same e]; exact E⟩
    | ow d =>
      have := E.give2 e (t := Tn.of d) rfl
      rw [Tn.of_d] at this
      exact this
    | tr t => exact E.give2 e rfl
    | lk d => exact ⟨G, A, Same.refl _, by show Ev K H0 G0 G H σ (Δ.set j (.lk d)) A; rw [set_same e]; exact E⟩
    | lt t => exact ⟨G, A, Same.refl _, by show Ev K H0 G0 G H σ (Δ.set j (.lt t)) A; rw [set_same e]; exact E⟩
theorem Ev.gsome : ∀ (js : List Nat) {G : Hp} {Δ : SE} {A : OS}, Ev K H0 G0 G H σ Δ A → ∃ G' A', Same G G' ∧ Ev K H0 G0 G' H σ (L3.gsome js Δ) A'
  | [], G, Δ, A, E => ⟨G, A, Same.refl _, E⟩
  | j :: js, G, Δ, A, E => by
    obtain ⟨G1, A1, s1, E1⟩ := E.give1 j
    obtain ⟨G2, A2, s2, E2⟩ := Ev.gsome js E1
    exact ⟨G2, A2, s1.trans s2, E2⟩
end

noncomputable def Fin (K : PySem.W.Frag) (EX : EXS) (H0 : HB) (G0 G1 : Hp) (D : Ends) : Fl → Prop
  | .nx Δ => ∀ σ G H O, Ev K H0 G0 G H σ Δ O → Same G1 G → D.nx σ H
  | .bk Δ => ∀ σ G H O, Ev K H0 G0 G H σ Δ O → Same G1 G → D.bk σ H
  | .ct Δ => ∀ σ G H O, Ev K H0 G0 G H σ Δ O → Same G1 G → D.ct σ H
  | .rt w => WP K G0 H0.h w D.rt
  | .ex x Δ => ∀ σ G H O, Ev K H0 G0 G H σ Δ O → Same G1 G → (EX σ).p x G H
  | .no => False
theorem Fin.mono {K : PySem.W.Frag} {EX : EXS} {H0 : HB} {G0 G1 G2 : Hp} {D : Ends} {r : Fl} (s : Same G1 G2) (h : Fin K EX H0 G0 G1 D r) : Fin K EX H0 G0 G2 D r := by
  cases r with
  | nx Δ => exact fun σ G H O E q => h σ G H O E (s.trans q)
  | bk Δ => exact fun σ G H O E q => h σ G H O E (s.trans q)
  | ct Δ => exact fun σ G H O E q => h σ G H O E (s.trans q)
  | rt w => exact h
  | ex x Δ => exact fun σ G H O E q => h σ G H O E (s.trans q)
  | no => exact h
noncomputable def tS (K : PySem.W.Frag) (EX : EXS) (g : FS) : TS := fun D σ H => ∃ H0 G0 G Δ O, Ev K H0 G0 G H σ Δ O ∧ Fin K EX H0 G0 G D (g Δ)
noncomputable abbrev SD (X : Cx) (EX : EXS) (st : Stmt) (g : FS) : Prop := PS X st (tS X.K EX g)
noncomputable abbrev BD (X : Cx) (EX : EXS) (st : List Stmt) (g : FS) : Prop := PSs X st (tS X.K EX g)
section
variable {X : Cx} {EX : EXS} {st : Stmt} {sts : List Stmt} {g h : FS} {pos : Pos} {e : Expr} {f : FE} {p : FT}

noncomputable def sNil : FS := fun Δ => .nx Δ
noncomputable def sSeq (g h : FS) : FS := fun Δ => match g Δ with
  | .nx Δ' => h Δ'
  | r => r
theorem bd_nil : BD X EX [] sNil := PSs.imp pss_nil fun D σ H ⟨H0, G0, G, Δ, O, E, q⟩ => q σ G H O E (Same.refl _)
theorem bd_one (h1 : SD X EX st g) : BD X EX [st] g := pss_one h1
theorem bd_cons (h1 : SD X EX st g) (h2 : BD X EX sts h) : BD X EX (st :: sts) (sSeq g h) :=
  PSs.imp (pss_cons h1 h2) fun D σ H ⟨H0, G0, G, Δ, O, E, q⟩ => by
    refine ⟨H0, G0, G, Δ, O, E, ?_⟩
    unfold sSeq at q
    cases e : g Δ with
    | nx Δ' => rw [e] at q; exact fun σ' G' H' O' E' sm => ⟨H0, G0, G', Δ', O', E', Fin.mono sm q⟩
    | bk Δ' => rw [e] at q; exact q
    | ct Δ' => rw [e] at q; exact q
    | rt w => rw [e] at q; exact q
    | ex x Δ' => rw [e] at q; exact q
    | no => rw [e] at q; exact q
noncomputable def exG (js : List Nat) (f : FE) (Δ : SE) : Fl := match f (vsh (gsome js Δ)) with
  | .ex x => .ex x (gsome js Δ)
  | _ => .no
noncomputable def exT (js : List Nat) (p : FT) (Δ : SE) : Fl := match p (vsh (gsome js Δ)) with
  | .ex x => .ex x (gsome js Δ)
  | _ => .no
theorem exG_core {K : PySem.W.Frag} {H0 : HB} {G0 G G1 H : Hp} {σ : Sg} {Δ : SE} {O : OS} {D : Ends} {js : List Nat} {Q : VK} (E : Ev K H0 G0 G H σ Δ O) (sg : Same G1 G) (q : Fin K EX H0 G0 G1 D (exG js f Δ)) : tD K EX f σ H Q := by
  obtain ⟨G', O', s', E'⟩ := E.gsome js
  refine ⟨G', vsh (gsome js Δ), E'.st.gh, E'.gsh, ?_⟩
  unfold exG at q
  cases e : f (vsh (gsome js Δ)) with
  | ok w => rw [e] at q; exact q.elim
  | ex x => rw [e] at q; exact q σ G' H O' E' (sg.trans s')
  | no => rw [e] at q; exact q.elim
theorem exT_core {K : PySem.W.Frag} {H0 : HB} {G0 G G1 H : Hp} {σ : Sg} {Δ : SE} {O : OS} {D : Ends} {js : List Nat} {Q : Bool → Hp → Prop} (E : Ev K H0 G0 G H σ Δ O) (sg : Same G1 G) (q : Fin K EX H0 G0 G1 D (exT js p Δ)) : tDt K EX p σ H Q := by
  obtain ⟨G', O', s', E'⟩ := E.gsome js
  refine ⟨G', vsh (gsome js Δ), E'.st.gh, E'.gsh, ?_⟩
  unfold exT at q
  cases e : p (vsh (gsome js Δ)) with
  | ok w => rw [e] at q; exact q.elim
  | ex x => rw [e] at q; exact q σ G' H O' E' (sg.trans s')
  | no => rw [e] at q; exact q.elim

noncomputable def sRet (js : List Nat) (f : FE) : FS := fun Δ => match f (vall Δ) with
  | .ok w => .rt w
  | .ex _ => exG js f Δ
  | .no => .no
theorem sd_ret (js : List Nat) (he : ED X EX e f) : SD X EX (.Return (some e) pos) (sRet js f) :=
  PS.imp (ps_ret he) fun D σ H ⟨H0, G0, G, Δ, O, E, q⟩ => by
    unfold sRet at q
    cases e1 : f (vall Δ) with
    | ok w =>
      rw [e1] at q
      exact ⟨allG G H O, vall Δ, E.aH, E.gall, by rw [e1]; exact WP.mono E.aStep q⟩
    | ex x => rw [e1] at q; exact exG_core E (Same.refl _) q
    | no => rw [e1] at q; exact q.elim
noncomputable def sRetV (i : Nat) : FS := fun Δ => match Δ[i]? with
  | some (.sh d) => .rt (.sh d)
  | some (.ow d) => .rt (.ow d)
  | some (.tr t) => .rt (.tr t)
  | _ => .no
theorem sd_retV (i : Nat) {x : Str} {pos pos' : Pos} (hN : X.N[i]? = some x := by rfl) (hv : Vis X.env.scope x := by first | exact Or.inl rfl | exact Or.inr (Or.inl rfl) | exact Or.inr (Or.inr rfl)) (hd : (x == ("__debug__" : Str)) = false := by decide)
    (hcd : (x == ("__classdict__" : Str)) = false := by decide) : SD X EX (.Return (some (.Name x pos)) pos') (sRetV i) :=
  PS.imp (ps_ret (pe_var hN hv hd hcd)) fun D σ H ⟨H0, G0, G, Δ, O, E, q⟩ => by
    unfold sRetV at q
    split at q
    · rename_i d e
      obtain ⟨v, e1, r⟩ := E.sh i d e
      exact ⟨v, e1, (WP.mono (w := .sh d) (Q := D.rt) E.st q).use E.st.gh r⟩
    · rename_i d e
      obtain ⟨v, e1, t⟩ := E.ow i _ _ e rfl
      exact ⟨v, e1, q v (O i) G H E.st (fun a ha => let ⟨h1, h2, h3⟩ := E.out i a ha; ⟨h2, h1, h3⟩) t⟩
    · rename_i d e
      obtain ⟨v, e1, t⟩ := E.ow i _ _ e rfl
      exact ⟨v, e1, q v (O i) G H E.st (fun a ha => let ⟨h1, h2, h3⟩ := E.out i a ha; ⟨h2, h1, h3⟩) t⟩
    · exact q.elim

noncomputable def sPut (i : Nat) (Δ : SE) : R W → Fl
  | .ok (.sh d) => .nx (Δ.set i (.sh d))
  | .ok (.ow d) => .nx (Δ.set i (.ow d))
  | .ok (.tr t) => .nx (Δ.set i (.tr t))
  | .ex x => .ex x Δ
  | .no => .no
noncomputable def sSet (i : Nat) (js : List Nat) (f : FE) : FS := fun Δ => match f (vsh Δ) with
  | .ok (.sh d) => .nx (Δ.set i (.sh d))
  | .ok (.ow d) => .nx (Δ.set i (.ow d))
  | .ok (.tr t) => .nx (Δ.set i (.tr t))
  | .ex x => .ex x Δ
  | .no => match f (vall Δ) with
    | .ex _ => sPut i (gsome js Δ) (f (vsh (gsome js Δ)))
    | .no => .no
    | .ok w => if flatD w.d = true then .nx (Δ.set i (.sh w.d)) else sPut i (gsome js Δ) (f (vsh (gsome js Δ)))
theorem set_one {K : PySem.W.Frag} {H0 : HB} {G0 G G1 H : Hp} {σ : Sg} {Δ : SE} {O : OS} {D : Ends} {i : Nat} (E : Ev K H0 G0 G H σ Δ O) (sg : Same G1 G)
    (q : Fin K EX H0 G0 G1 D (sPut i Δ (f (vsh Δ)))) : tAsg (tD K EX f) (gName i) D σ H := by
  refine ⟨G, vsh Δ, E.st.gh, E.gsh, ?_⟩
  unfold sPut at q
  cases e1 : f (vsh Δ) with
  | ok w =>
    rw [e1] at q
    cases w with
    | sh d => exact fun v G' H' st r => q _ G' H' O ((E.grow st).put r) (sg.trans st.gg)
    | ow d =>
      intro v S G' H' st fr t
      exact q _ G' H' _ ((E.grow st).putO (fun a ha => ⟨E.st.hh.free (fr a ha).1, (fr a ha).2⟩) rfl (fun _ z => by cases z) t fun j a hj hs => (E.out j a hj).2.2 (fr a hs).1) (sg.trans st.gg)
    | tr d =>
      intro v S G' H' st fr t
      exact q _ G' H' _ ((E.grow st).putO (fun a ha => ⟨E.st.hh.free (fr a ha).1, (fr a ha).2⟩) rfl (fun _ z => by cases z) t fun j a hj hs => (E.out j a hj).2.2 (fr a hs).1) (sg.trans st.gg)
  | ex x => rw [e1] at q; exact q σ G H O E sg
  | no => rw [e1] at q; exact q
theorem set_core {K : PySem.W.Frag} {D : Ends} {σ : Sg} {H : Hp} {i : Nat} {js : List Nat} (q : tS K EX (sSet i js f) D σ H) : tAsg (tD K EX f) (gName i) D σ H := by
  obtain ⟨H0, G0, G, Δ, O, E, q⟩ := q
  unfold sSet at q
  cases e1 : f (vsh Δ) with
  | ok w =>
    rw [e1] at q
    refine set_one E (Same.refl _) ?_
    unfold sPut
    rw [e1]
    cases w <;> exact q
  | ex x =>
    rw [e1] at q
    refine set_one E (Same.refl _) ?_
    unfold sPut
    rw [e1]
    exact q
  | no =>
    rw [e1] at q
    cases e2 : f (vall Δ) with
    | ok w =>
      simp only [e2] at q
      split at q
      · rename_i fl
        refine ⟨allG G H O, vall Δ, E.aH, E.gall, ?_⟩
        rw [e2]
        exact WP.intro fun v G' H' st r => q _ G H' O ((E.keep st.hh).put (r.ofFl fl)) (Same.refl _)
      · obtain ⟨G', O', sg, E'⟩ := E.gsome js
        exact set_one E' sg q
    | ex x =>
      simp only [e2] at q
      obtain ⟨G', O', sg, E'⟩ := E.gsome js
      exact set_one E' sg q
    | no => simp only [e2] at q; exact q.elim
theorem sd_set {i : Nat} (js : List Nat) {x : Str} {pos' : Pos} (he : ED X EX e f) (hN : X.N.Nodup) (hi : X.N[i]? = some x := by rfl) (hx : Loc X.env.scope x := by first | exact Or.inl rfl | exact Or.inr rfl) (hs : swapsWith e (some (.Name x pos')) pos.line X.env = pure false := by rfl)
    (hf : X.fn x = true ∨ X.env.scope.names.lookup x = some .local := by first | exact .inl rfl | exact .inr rfl | assumption) : SD X EX (.Assign [.Name x pos'] e pos) (sSet i js f) :=
  PS.imp (ps_set hN hi hx he hs hf) fun D σ H q => set_core q

noncomputable def sExpr (js : List Nat) (f : FE) : FS := fun Δ => match f (vall Δ) with
  | .ok _ => .nx Δ
  | .ex _ => exG js f Δ
  | .no => .no
theorem sd_expr (js : List Nat) (he : ED X EX e f) (hs : swapsWith e none pos.line X.env = pure false := by rfl) : SD X EX (.Expr e pos) (sExpr js f) :=
  PS.imp (ps_expr he hs) fun D σ H ⟨H0, G0, G, Δ, O, E, q⟩ => by
    unfold sExpr at q
    cases e1 : f (vall Δ) with
    | ok w =>
      rw [e1] at q
      exact ⟨allG G H O, vall Δ, E.aH, E.gall, by rw [e1]; exact WP.intro fun v G' H' st r => q σ G H' O (E.keep st.hh) (Same.refl _)⟩
    | ex x => rw [e1] at q; exact exG_core E (Same.refl _) q
    | no => rw [e1] at q; exact q.elim
noncomputable def sIf (js : List Nat) (p : FT) (g h : FS) : FS := fun Δ => match p (vall Δ) with
  | .ok b => if b = true then g Δ else h Δ
  | .ex _ => exT js p Δ
  | .no => .no
theorem test_core {K : PySem.W.Frag} {H0 : HB} {G0 G H : Hp} {σ : Sg} {Δ : SE} {O : OS} {D : Ends} {k : Bool → Fl} {P : Bool → Hp → Prop} {js : List Nat} (E : Ev K H0 G0 G H σ Δ O)
    {G1 : Hp} (sg : Same G1 G) (q : Fin K EX H0 G0 G1 D (match p (vall Δ) with | .ok b => k b | .ex _ => exT js p Δ | .no => .no)) (i : ∀ b H', p (vall Δ) = .ok b → Ev K H0 G0 G H' σ Δ O → Fin K EX H0 G0 G1 D (k b) → P b H') : tDt K EX p σ H P := by
  cases e1 : p (vall Δ) with
  | ok b => rw [e1] at q; exact ⟨allG G H O, vall Δ, E.aH, E.gall, by rw [e1]; exact fun G' H' st => i b H' e1 (E.keep st.hh) q⟩
  | ex x => rw [e1] at q; exact exT_core E sg q
  | no => rw [e1] at q; exact q.elim
theorem sd_if (js : List Nat) {c : Expr} {as bs : List Stmt} (hc : TD X EX c p) (ha : BD X EX as g) (hb : BD X EX bs h) : SD X EX (.If c as bs pos) (sIf js p g h) :=
  PS.imp (ps_if hc ha hb) fun D σ H ⟨H0, G0, G, Δ, O, E, q⟩ => test_core (k := fun b => if b = true then g Δ else h Δ) E (Same.refl _) q fun b H' _ E' q' => by
    cases b with
    | true => rw [if_pos rfl]; exact ⟨H0, G0, G, Δ, O, E', q'⟩
    | false => rw [if_neg Bool.false_ne_true]; exact ⟨H0, G0, G, Δ, O, E', q'⟩

noncomputable def sWhile (js : List Nat) (p : FT) (g : FS) : Nat → FS
  | 0 => fun _ => .no
  | n + 1 => fun Δ => match p (vall Δ) with
    | .ok b => if b = true then (match g Δ with
        | .nx Δ' => sWhile js p g n Δ'
        | .ct Δ' => sWhile js p g n Δ'
        | .bk Δ' => .nx Δ'
        | r => r) else .nx Δ
    | .ex _ => exT js p Δ
    | .no => .no
theorem sd_while (js : List Nat) (n : Nat) {c : Expr} {body : List Stmt} (hp : PassesOwn (model X.prog X.w) X.A X.env X.xe) (hc : TD X EX c p) (hb : BD X EX body g) : SD X EX (.While c body [] pos) (sWhile js p g n) :=
  PS.imp (ps_while hp hc hb) fun D σ H ⟨H0, G0, G1, Δ, O, E, q⟩ => by
    refine ⟨fun m σ H => ∃ G Δ O, Ev X.K H0 G0 G H σ Δ O ∧ Same G1 G ∧ Fin X.K EX H0 G0 G1 D (sWhile js p g m Δ), ⟨n, G1, Δ, O, E, Same.refl _, q⟩, ?_⟩
    rintro m σ H ⟨G, Δ, O, E, sg, q⟩
    cases m with
    | zero => exact False.elim q
    | succ m =>
      refine test_core (k := fun b => if b = true then (match g Δ with | .nx Δ' => sWhile js p g m Δ' | .ct Δ' => sWhile js p g m Δ' | .bk Δ' => .nx Δ' | r => r) else .nx Δ) E sg q fun b H' _ E' q' => ?_
      cases b with
      | false => rw [if_neg Bool.false_ne_true]; exact q' σ G H' O E' sg
      | true =>
        rw [if_pos rfl]
        rw [if_pos rfl] at q'
        refine ⟨fun σ' H' => ∃ G Δ O, Ev X.K H0 G0 G H' σ' Δ O ∧ Same G1 G ∧ Fin X.K EX H0 G0 G1 D (sWhile js p g m Δ), fun σ' H' w => ⟨m, Nat.lt_succ_self _, w⟩, H0, G0, G, Δ, O, E', ?_⟩
        cases e1 : g Δ with
        | nx Δ' => rw [e1] at q'; exact fun σ' G' H' O' E2 s2 => ⟨G', Δ', O', E2, sg.trans s2, q'⟩
        | ct Δ' => rw [e1] at q'; exact fun σ' G' H' O' E2 s2 => ⟨G', Δ', O', E2, sg.trans s2, q'⟩
        | bk Δ' => rw [e1] at q'; exact Fin.mono (r := .nx Δ') sg q'
        | rt w => rw [e1] at q'; exact q'
        | ex x Δ' => rw [e1] at q'; exact Fin.mono (r := .ex x Δ') sg q'
        | no => rw [e1] at q'; exact q'
end

noncomputable def start3 (n : Nat) (ds : List D) : SE := ds.map Sl.sh ++ List.replicate (n - ds.length) .no
noncomputable def bodyD (n : Nat) (g : FS) (ds : List D) : R W := match g (start3 n ds) with
  | .nx _ => .ok (.sh .non)
  | .rt w => .ok w
  | .ex x _ => .ex x
  | _ => .no
theorem ev_start {K : PySem.W.Frag} {G H : Hp} {vs : List V} {ds : List D} {N : List Str} (g : Same G H) (r : HasL K G vs ds) : Ev K ⟨H, fun _ => 0⟩ G G H (L2.start N vs) (start3 N.length ds) (fun _ _ => False) := by
  refine ⟨Step.refl g, ?_, fun i d e => ?_, fun i z d e zo => ?_, fun _ _ ha => ha.elim, fun _ _ _ ha => ha.elim, fun i d e => ?_, fun i d e => ?_⟩
  · unfold L2.start start3
    simp only [List.length_append, List.length_map, List.length_replicate, r.length]
  · unfold start3 at e
    by_cases hi : i < ds.length
    · rw [List.getElem?_append_left (by rw [List.length_map]; exact hi), List.getElem?_map] at e
      cases q : ds[i]? with
      | none => rw [q] at e; cases e
      | some d' =>
        rw [q] at e
        cases e
        obtain ⟨v, e1, h⟩ := r.get q
        refine ⟨v, ?_, h⟩
        unfold L2.start
        rw [List.getElem?_append_left (by rw [List.length_map, r.length]; exact hi), List.getElem?_map, e1]
        rfl
    · rw [List.getElem?_append_right (by rw [List.length_map]; omega), List.getElem?_replicate] at e
      split at e <;> cases e
  · exfalso
    unfold start3 at e
    by_cases hi : i < ds.length
    · rw [List.getElem?_append_left (by rw [List.length_map]; exact hi), List.getElem?_map] at e
      cases q : ds[i]? with
      | none => rw [q] at e; cases e
      | some d' => rw [q] at e; cases e; cases zo
    · rw [List.getElem?_append_right (by rw [List.length_map]; omega), List.getElem?_replicate] at e
      split at e
      · cases e; cases zo
      · cases e
  · exfalso
    unfold start3 at e
    by_cases hi : i < ds.length
    · rw [List.getElem?_append_left (by rw [List.length_map]; exact hi), List.getElem?_map] at e
      cases q : ds[i]? with
      | none => rw [q] at e; cases e
      | some d' => rw [q] at e; cases e
    · rw [List.getElem?_append_right (by rw [List.length_map]; omega), List.getElem?_replicate] at e
      split at e <;> cases e
  · exfalso
    unfold start3 at e
    by_cases hi : i < ds.length
    · rw [List.getElem?_append_left (by rw [List.length_map]; exact hi), List.getElem?_map] at e
      cases q : ds[i]? with
      | none => rw [q] at e; cases e
      | some d' => rw [q] at e; cases e
    · rw [List.getElem?_append_right (by rw [List.length_map]; omega), List.getElem?_replicate] at e
      split at e <;> cases e
theorem fn_D {c : Bool} {P : Program} {w : World} {K : PySem.W.Frag} {mg : Str → Option Value} {base : Heap} {x qual : Str} {st : Stmt} {f : Addr} {fd : FuncData} {N ps : List Str} {k : Nat} {g : FS} (F : Fun K x qual st f fd) (S : FnScope N ps (defScope st))
    (hbody : ∀ (cdv : Value) (A : Around) (outer : List Env) (s : Shared) (H : Hp) (E : XK), RoomC c k (A.deeper (envOfC qual (defScope st) s.heap.objs.size f cdv)) →
      BD (cxN c P w K mg base N qual (defScope st) f cdv A outer s H E) (fun _ => EXof K E) (defBody st) g) : FnX P w K mg base c (k + 1) f fd ps (spX K ps.length (bodyD N.length g)) := by
  refine Fun.okX F S (fun vs H Q E h => h.1) fun cdv A outer s H vs Q E hr h => ⟨_, hbody cdv A outer s H E hr, ?_⟩
  obtain ⟨hl, G, ds, g0, r, o⟩ := h
  refine ⟨⟨H, fun _ => 0⟩, G, G, _, _, ev_start g0 r, ?_⟩
  unfold bodyD at o
  cases e : g (start3 N.length ds) with
  | nx Δ => rw [e] at o; exact fun σ G' H' O E' _ => (WP.mono (w := .sh .non) (Q := Q) E'.st o).use E'.st.gh .non
  | rt w => rw [e] at o; exact o
  | ex x Δ => rw [e] at o; exact fun σ G' H' O E' _ => (EXof K E).mono _ _ _ _ _ E'.st o
  | bk Δ => rw [e] at o; exact o.elim
  | ct Δ => rw [e] at o; exact o.elim
  | no => rw [e] at o; exact o
theorem fnd_mk {c : Bool} {P : Program} {w : World} {K : PySem.W.Frag} {mg : Str → Option Value} {base : Heap} {x : Str} {st : Stmt} {f : Addr} {fd : FuncData} {ps : List Str} {k : Nat} {Fn : List D → R W} (F : Fun K x x st f fd) (hm : mg x = some (.ref f)) (hb : Binds K fd ps [])
    (ok : FnX P w K mg base c k f fd ps (spX K ps.length Fn)) : FnD P w K mg base c x k ps Fn := ⟨f, fd, ok, hm, F.kp, hb⟩
end L3

namespace L3
open PySem PySem.Spec PyProof.Rows L2

noncomputable def strIt (x : Str) : It := ⟨fun i _ => i < x.cps.size, fun i H v H' => H' = H ∧ ∃ c, x.cps[i]? = some c ∧ v = .str ⟨#[c]⟩, fun i _ => i = x.cps.size⟩
theorem turn_walks {P : Program} {w : World} {K : PySem.W.Frag} {tg : Expr} {it : Addr} {n : Nat} {Pv : Nat → Value → Prop} {St : Nat → Heap → Prop} {J : It}
    (W : ∀ A' : Around, A'.handled = none → Walks P w A' it [it] [it] n Pv St)
    (hobj : ∀ i h, St i h → ∃ o nm vs, h.get? it = some o ∧ o.cls = .type nm ∧ o.data = .fields vs ∧ ["enumerate", "zip", "dict_itemiterator", "dict_reverseitemiterator", "odict_iterator", "itertools.zip_longest", "itertools.pairwise"].contains nm = false)
    (hkeep : ∀ (i : Nat) (h h' : Heap), St i h → (∀ b ∈ [it], ∀ o, h.get? b = some o → h'.get? b = some o) → St i h') (hself : ∀ (A : Around) (i : Nat) (s : Shared) (Q E : Value → Shared → Prop), St i s.heap → Q (.ref it) s → wpAny (model P w) A (pyIter (.ref it)) Q E s)
    (hgo : ∀ i H, J.go i H → i < n) (hst : ∀ i H, J.stop i H → i = n) (hy : ∀ i H u, Pv i u → ∃ x, RelV x u ∧ J.yld i H x H) : Turn P w K tg J [it] it St where
  mem := by simp
  obj := fun i h st b hb => by
    have e : b = it := by simpa using hb
    subst e
    obtain ⟨o, nm, vs, e, c, d, _⟩ := hobj i h st
    exact ⟨o, e, fun v z => by rw [d] at z; cases z⟩
  keep := hkeep
  item := by
    intro X hP hw hK hc i pins s σ H E I hf st hg
    subst hP hw hK
    obtain ⟨f0, f1, f2, f3, f4, f5⟩ := hf it (by simp)
    refine (W X.A (I.ok.hd hc)).item i s _ _ (hgo i H hg) st fun v h' tk hv st' kk => ?_
    have I1 : Inv X pins σ H { s with heap := h', toks := tk } := I.turned (fun b o hb e => kk b o (by simpa using hb) e) f0 f1 f3 f4 f5
    obtain ⟨x, rx, yx⟩ := hy i H v hv
    obtain ⟨o, nm, vs, e, c, d, hn⟩ := hobj (i + 1) h' st'
    exact ⟨v, rfl, go_of (s := { s with heap := h', toks := tk }) e c d hn ⟨x, H, I1, rx, yx, st', fun b hb => (hf b hb).1⟩⟩
  done := by
    intro X hP hw hK hc i pins s σ H E I hf st hg
    subst hP hw hK
    obtain ⟨f0, f1, f2, f3, f4, f5⟩ := hf it (by simp)
    obtain rfl := hst i H hg
    exact (W X.A (I.ok.hd hc)).done s _ _ st fun h' tk kk => ⟨rfl, I.turned (fun b o hb e => kk b o (by simpa using hb) e) f0 f1 f3 f4 f5⟩
  self := hself

noncomputable def ItD (K : PySem.W.Frag) (G1 : Hp) (J : It) (ds : List D) : Prop := ∀ G H, Same G1 G → Same G H → ∀ i,
  (∀ d, ds[i]? = some d → J.go i H ∧ ∀ x H', J.yld i H x H' → ∃ G', Step G H G' H' ∧ Has K G' x d) ∧ (ds.length = i → J.stop i H)
noncomputable abbrev FI := DE → R (List D)
noncomputable def tI (K : PySem.W.Frag) (EX : EXS) (fi : FI) : TI := fun σ H Q => ∃ G δ, Same G H ∧ HasS K G σ δ ∧ match fi δ with
  | .ok ds => ∀ J G' H', Step G H G' H' → ItD K G' J ds → Q J H'
  | .ex x => (EX σ).p x G H
  | .no => False
noncomputable abbrev ID (X : Cx) (EX : EXS) (tg iter : Expr) (fi : FI) : Prop := PI X tg iter (tI X.K EX fi)
theorem PI.imp {X : Cx} {tg e : Expr} {t t' : TI} (h : PI X tg e t) (i : ∀ σ H Q, t' σ H Q → t σ H Q) : PI X tg e t' := fun pins s σ H Q I q => h pins s σ H Q I (i σ H Q q)
section
variable {X : Cx} {EX : EXS} {tg e a b : Expr} {f : FE} {fa : FA} {p pos : Pos}
theorem tDa.seqI {K : PySem.W.Frag} {G H : Hp} {σ : Sg} {δ : DE} {k : List D → R (List D)} {Q : It → Hp → Prop} {P : List V → Hp → Prop} (g : Same G H) (s : HasS K G σ δ)
    (h : match (fa δ).bind k with | .ok ds => ∀ J G' H', Step G H G' H' → ItD K G' J ds → Q J H' | .ex x => (EX σ).p x G H | .no => False)
    (i : ∀ ds vs G' H', Step G H G' H' → HasL K G' vs ds → (match k ds with | .ok ds => ∀ J G2 H2, Step G' H' G2 H2 → ItD K G2 J ds → Q J H2 | .ex x => (EX σ).p x G' H' | .no => False) → P vs H') : tDa K EX fa σ H P := by
  refine ⟨G, δ, g, s, ?_⟩
  cases e : fa δ with
  | ok ds =>
    rw [e] at h
    simp only [R.bind_ok] at h
    refine fun vs G' H' st r => i ds vs G' H' st r ?_
    cases e2 : k ds with
    | ok ds' => rw [e2] at h; exact fun J G2 H2 st2 it => h J G2 H2 (st.trans st2) it
    | ex x => rw [e2] at h; exact (EX σ).mono _ _ _ _ _ st h
    | no => rw [e2] at h; exact h
  | ex x => rw [e] at h; exact h
  | no => rw [e] at h; exact h

noncomputable def zints (lo : Int) (n : Nat) : List D := (List.range n).map fun (k : Nat) => D.int (lo + (k : Int))
theorem zints_get {lo : Int} {n i : Nat} {d : D} (h : (zints lo n)[i]? = some d) : i < n ∧ d = .int (lo + (i : Int)) := by
  unfold zints at h
  rw [List.getElem?_map] at h
  by_cases hi : i < n
  · rw [List.getElem?_range hi] at h
    cases h
    exact ⟨hi, rfl⟩
  · rw [List.getElem?_eq_none (by rw [List.length_range]; omega)] at h
    cases h
theorem zints_len (lo : Int) (n : Nat) : (zints lo n).length = n := by unfold zints; rw [List.length_map, List.length_range]
theorem itd_range {K : PySem.W.Frag} {G : Hp} (lo : Int) (n : Nat) : ItD K G (Itr lo n) (zints lo n) := fun G' H _ g i => by
  refine ⟨fun d e => ?_, fun e => ?_⟩
  · obtain ⟨hi, rfl⟩ := zints_get e
    refine ⟨hi, fun x H' y => ?_⟩
    obtain ⟨e1, e2⟩ := y
    subst e1 e2
    exact ⟨G', Step.refl g, .int _⟩
  · rw [zints_len] at e
    exact Nat.le_of_eq e
noncomputable def rng1 : List D → R (List D)
  | [.int j] => if j.natAbs < 4611686018427387904 then .ok (zints 0 j.toNat) else .no
  | _ => .no
noncomputable def iArgs (k : List D → R (List D)) (fa : FA) : FI := fun δ => (fa δ).bind k
theorem id_range1 (hm : X.mg "range" = none) (ha : AD X EX [a] fa) (hg : Gl X "range" := by rfl) (hs : starEach [a] X.env = [(false, eval a X.env)] := by rfl) : ID X EX tg (.Call (.Name "range" p) [a] [] pos) (iArgs rng1 fa) :=
  PI.imp (pi_range1 hg hm ha hs) fun σ H Q ⟨G, δ, g0, s0, o⟩ => tDa.seqI g0 s0 o fun ds vs G' H' st r o' => by
    cases r with
    | nil => exact False.elim o'
    | cons h t =>
      cases t with
      | cons _ _ => cases h <;> exact False.elim o'
      | nil =>
        cases h with
        | int j =>
          by_cases hc : j.natAbs < 4611686018427387904
          · rw [show rng1 [.int j] = .ok (zints 0 j.toNat) from if_pos hc] at o'
            exact ⟨j, rfl, by omega, by omega, o' _ G' H' (Step.refl st.gh) (itd_range 0 j.toNat)⟩
          · rw [show rng1 [.int j] = .no from if_neg hc] at o'
            exact o'.elim
        | _ => exact False.elim o'
noncomputable def signs (x : Str) : List D := x.cps.toList.map fun c => .str ⟨#[c]⟩
noncomputable def itemsD : D → R (List D)
  | .lst ds => .ok ds
  | .tup ds => .ok ds
  | .str x => .ok (signs x)
  | _ => .no
noncomputable def iOf (f : FE) : FI := fun δ => (f δ).bind fun w => itemsD w.d
noncomputable def iAny (K : PySem.W.Frag) (tl : TE) : TI := fun σ H Q => tl σ H fun x H1 =>
  (∃ a, x = .ref a ∧ (∃ xs, SqL K H1 a xs) ∧ Q (Itl K a) H1) ∨ (∃ a, x = .ref a ∧ (∃ xs, SqT K H1 a xs) ∧ Q (Itt K a) H1) ∨ (∃ z, x = .str z ∧ Q (strIt z) H1)
theorem pi_any {l : Expr} {tl : TE} (hl : PE X l tl) : PI X tg l (iAny X.K tl) := by
  intro pins s σ H Q I h
  refine thn (hl pins s σ H _ I h) fun v s1 ⟨x, H1, I1, r1, q1⟩ => ?_
  rcases q1 with ⟨a, e, ⟨xs, hq⟩, q⟩ | ⟨a, e, ⟨xs, hq⟩, q⟩ | ⟨z, e, q⟩
  · subst e
    cases r1
    obtain ⟨its, rv, p, hz⟩ := I1.list hq
    refine wpAny_pyIter_list p.isList ?_
    refine ⟨s1.heap.objs.size, [s1.heap.objs.size], _, _, H1, rfl, I1.kept (t' := s1.toks) fun b o e => Heap.get?_push_of_some _ e, turn_list a _, ⟨_, Heap.get?_push_size _ rfl, rfl, rfl⟩, fun b hb => ?_, q⟩
    have e : b = s1.heap.objs.size := by simpa using hb
    subst e
    exact I1.fpOk (Nat.le_refl _) (I1.hok.fresh (Nat.le_refl _))
  · subst e
    cases r1
    obtain ⟨its, rv, p, hz⟩ := I1.tuple hq
    refine wpAny_pyIter_tuple (show s1.heap.IsTuple a its.toArray from p) ?_
    refine ⟨s1.heap.objs.size, [s1.heap.objs.size], _, _, H1, rfl, I1.kept (t' := s1.toks) fun b o e => Heap.get?_push_of_some _ e, turn_tuple a _, ⟨_, Heap.get?_push_size _ rfl, rfl, rfl⟩, fun b hb => ?_, q⟩
    have e : b = s1.heap.objs.size := by simpa using hb
    subst e
    exact I1.fpOk (Nat.le_refl _) (I1.hok.fresh (Nat.le_refl _))
  · subst e
    obtain ⟨t, rfl⟩ := r1
    have fin : ∀ (nm : String) (St : Nat → Heap → Prop), (∀ i h, St i h ↔ h.IsStrIter s1.heap.objs.size nm z t i) → (∀ A' : Around, A'.handled = none → Walks X.prog X.w A' s1.heap.objs.size [s1.heap.objs.size] [s1.heap.objs.size] z.cps.size (SignAt z) St) →
        ["enumerate", "zip", "dict_itemiterator", "dict_reverseitemiterator", "odict_iterator", "itertools.zip_longest", "itertools.pairwise"].contains nm = false →
        (∀ (A : Around) (i : Nat) (s : Shared) (Q E : Value → Shared → Prop), s.heap.IsStrIter s1.heap.objs.size nm z t i → Q (.ref s1.heap.objs.size) s → wpAny (model X.prog X.w) A (pyIter (.ref s1.heap.objs.size)) Q E s) →
        PIE X pins σ tg Q (.ref s1.heap.objs.size) { s1 with heap := s1.heap.push { cls := .type nm, data := .fields #[.str z t, .int 0 0] } } := by
      intro nm St hS W hn hslf
      refine ⟨s1.heap.objs.size, [s1.heap.objs.size], St, strIt z, H1, rfl, I1.kept (t' := s1.toks) fun b o e => Heap.get?_push_of_some _ e,
        turn_walks W (fun i h st => ?_) (fun i h h' st k => ?_) (fun A i s Q E st h => hslf A i s Q E ((hS _ _).mp st) h) (fun i H g => g) (fun i H g => ?_) (fun i H u hu => ?_), (hS _ _).mpr ⟨_, Heap.get?_push_size _ rfl, rfl, rfl⟩, fun b hb => ?_, q⟩
      · obtain ⟨o, ho, hc, hd⟩ := (hS _ _).mp st
        exact ⟨o, nm, _, ho, hc, hd, hn⟩
      · obtain ⟨o, ho, r⟩ := (hS _ _).mp st
        exact (hS _ _).mpr ⟨o, k _ (by simp) o ho, r⟩
      · exact g
      · obtain ⟨c, u', e1, e2⟩ := hu
        subst e2
        exact ⟨.str ⟨#[c]⟩, ⟨u', rfl⟩, rfl, c, e1, rfl⟩
      · have e : b = s1.heap.objs.size := by simpa using hb
        subst e
        exact I1.fpOk (Nat.le_refl _) (I1.hok.fresh (Nat.le_refl _))
    cases ha : z.cps.all (· < 128)
    · exact wpAny_pyIter_wide ha (fin "str_iterator" _ (fun _ _ => Iff.rfl) (fun A' hA => Walks.strWide hA _ z t) (by decide) fun A i s Q E st h => wpAny_pyIter_striter_wide st h)
    · exact wpAny_pyIter_ascii ha (fin "str_ascii_iterator" _ (fun _ _ => Iff.rfl) (fun A' hA => Walks.strAscii hA _ z t) (by decide) fun A i s Q E st h => wpAny_pyIter_striter_ascii st h)
theorem itd_list {K : PySem.W.Frag} {G : Hp} {a : Addr} {vs : List V} {ds : List D} (h : SqL K G a vs) (r : HasL K G vs ds) : ItD K G (Itl K a) ds := fun G' H g1 g i => by
  refine ⟨fun d e => ?_, fun e => ?_⟩
  · obtain ⟨v, e1, hv⟩ := r.get e
    refine ⟨⟨vs, v, (g1.trans g).seq h, e1⟩, fun x H' y => ?_⟩
    obtain ⟨e2, y⟩ := y
    subst e2
    have e3 := y vs ((g1.trans g).seq h)
    rw [e1] at e3
    cases e3
    exact ⟨G', Step.refl g, hv.mono g1⟩
  · exact ⟨vs, (g1.trans g).seq h, by rw [r.length]; exact Nat.le_of_eq e⟩
theorem itd_tup {K : PySem.W.Frag} {G : Hp} {a : Addr} {vs : List V} {ds : List D} (h : SqT K G a vs) (r : HasL K G vs ds) : ItD K G (Itt K a) ds := fun G' H g1 g i => by
  refine ⟨fun d e => ?_, fun e => ?_⟩
  · obtain ⟨v, e1, hv⟩ := r.get e
    refine ⟨⟨vs, v, Same.tupS (g1.trans g) h, e1⟩, fun x H' y => ?_⟩
    obtain ⟨e2, y⟩ := y
    subst e2
    have e3 := y vs (Same.tupS (g1.trans g) h)
    rw [e1] at e3
    cases e3
    exact ⟨G', Step.refl g, hv.mono g1⟩
  · exact ⟨vs, Same.tupS (g1.trans g) h, by rw [r.length]; exact Nat.le_of_eq e⟩
theorem itd_str {K : PySem.W.Frag} {G : Hp} (z : Str) : ItD K G (strIt z) (signs z) := fun G' H g1 g i => by
  refine ⟨fun d e => ?_, fun e => ?_⟩
  · unfold signs at e
    rw [List.getElem?_map] at e
    cases q : z.cps.toList[i]? with
    | none => rw [q] at e; cases e
    | some c =>
      rw [q] at e
      cases e
      have hi : i < z.cps.size := by
        have := (List.getElem?_eq_some_iff.mp q).1
        simpa using this
      refine ⟨hi, fun x H' y => ?_⟩
      obtain ⟨e2, c', e3, e4⟩ := y
      subst e2 e4
      have : z.cps.toList[i]? = some c' := by simpa using e3
      rw [q] at this
      cases this
      exact ⟨G', Step.refl g, .str _⟩
  · unfold signs at e
    rw [List.length_map] at e
    show i = z.cps.size
    simp at e
    omega
theorem id_of (he : ED X EX e f) : ID X EX tg e (iOf f) :=
  PI.imp (pi_any he) fun σ H Q ⟨G, δ, g0, s0, o⟩ => by
    refine ⟨G, δ, g0, s0, ?_⟩
    unfold iOf at o
    cases e1 : f δ with
    | ok w =>
      rw [e1] at o
      simp only [R.bind_ok] at o
      refine WP.intro fun v G' H' st r => ?_
      revert r o
      cases w.d with
      | lst ds =>
        intro o r
        cases r with
        | lst h r => exact .inl ⟨_, rfl, ⟨_, st.gh.seq h⟩, o _ G' H' st (itd_list h r)⟩
      | tup ds =>
        intro o r
        cases r with
        | tup h r => exact .inr (.inl ⟨_, rfl, ⟨_, Same.tupS st.gh h⟩, o _ G' H' st (itd_tup h r)⟩)
      | str z =>
        intro o r
        cases r
        exact .inr (.inr ⟨z, rfl, o _ G' H' st (itd_str z)⟩)
      | _ => intro o _; exact False.elim o
    | ex x => rw [e1] at o; exact o
    | no => rw [e1] at o; exact o
end

noncomputable abbrev FG := D → SE → R SE
noncomputable def tG (K : PySem.W.Frag) (EX : EXS) (fg : FG) : TG := fun v σ H Q => ∃ H0 G0 G Δ O d, Ev K H0 G0 G H σ Δ O ∧ Has K G v d ∧ match fg d Δ with
  | .ok Δ' => ∀ σ' G' H' O', Ev K H0 G0 G' H' σ' Δ' O' → Same G G' → Q σ' H'
  | .ex _ => False
  | .no => False
theorem PG.imp {X : Cx} {tg : Expr} {t t' : TG} (h : PG X tg t) (i : ∀ v σ H Q, t' v σ H Q → t v σ H Q) : PG X tg t' := fun pins s σ H v u Q I r q => h pins s σ H v u Q I r (i v σ H Q q)
noncomputable abbrev GD (X : Cx) (EX : EXS) (tg : Expr) (fg : FG) : Prop := PG X tg (tG X.K EX fg)
section
variable {X : Cx} {EX : EXS} {pos : Pos}
noncomputable def gV (i : Nat) : FG := fun d Δ => .ok (Δ.set i (.sh d))
theorem gd_name {i : Nat} {x : Str} (hN : X.N.Nodup) (hi : X.N[i]? = some x := by rfl) (hx : Loc X.env.scope x := by first | exact Or.inl rfl | exact Or.inr rfl)
    (hf : X.fn x = true ∨ X.env.scope.names.lookup x = some .local := by first | exact .inl rfl | exact .inr rfl | assumption) : GD X EX (.Name x pos) (gV i) :=
  PG.imp (pg_name hN hi hx hf) fun v σ H Q ⟨H0, G0, G, Δ, O, d, E, r, q⟩ => q _ G H O (E.put r) (Same.refl _)
noncomputable def gV2 (i j : Nat) : FG := fun d Δ => match d with
  | .tup [a, b] => .ok ((Δ.set i (.sh a)).set j (.sh b))
  | _ => .no
theorem gd_two {i j k : Nat} {x y : Str} {p1 p2 : Pos} (hc : X.calm = true) (hN : X.N.Nodup) (hi : X.N[i]? = some x := by rfl) (hj : X.N[j]? = some y := by rfl) (hx : Loc X.env.scope x := by first | exact Or.inl rfl | exact Or.inr rfl) (hy : Loc X.env.scope y := by first | exact Or.inl rfl | exact Or.inr rfl)
    (hf : X.fn x = true ∨ X.env.scope.names.lookup x = some .local := by first | exact .inl rfl | exact .inr rfl | assumption) (hf2 : X.fn y = true ∨ X.env.scope.names.lookup y = some .local := by first | exact .inl rfl | exact .inr rfl | assumption)
    (hn : (assignEach [.Name x p1, .Name y p2] X.env).length = 2 := by rfl) (hst : (assignEach [.Name x p1, .Name y p2] X.env).findIdx? (·.1) = none := by rfl)
    (hs : (assignEach [.Name x p1, .Name y p2] X.env).map (·.2) = assign (.Name x p1) X.env :: (assignEach [.Name y p2] X.env).map (·.2) := by rfl) (hs2 : (assignEach [.Name y p2] X.env).map (·.2) = assign (.Name y p2) X.env :: (assignEach [] X.env).map (·.2) := by rfl) :
    GD X EX (.Tuple [.Name x p1, .Name y p2] k pos) (gV2 i j) :=
  PG.imp (pg_tup hc (pgs_cons (pg_name hN hi hx hf) (pgs_cons (pg_name hN hj hy hf2) pgs_nil hs2) hs) hn hst) fun v σ H Q ⟨H0, G0, G, Δ, O, d, E, r, q⟩ => by
    cases r with
    | tup h r =>
      cases r with
      | nil => exact False.elim q
      | cons r1 r =>
        cases r with
        | nil => exact False.elim q
        | cons r2 r =>
          cases r with
          | nil => exact ⟨_, _, rfl, Same.tupS E.st.gh h, rfl, _, _, rfl, _, _, rfl, rfl, q _ G H O ((E.put r1).put r2) (Same.refl _)⟩
          | cons _ _ => exact False.elim q
    | _ => exact False.elim q
noncomputable def sLoop (fg : FG) (g : FS) : List D → FS
  | [] => fun Δ => .nx Δ
  | d :: ds => fun Δ => match fg d Δ with
    | .ok Δ1 => (match g Δ1 with
      | .nx Δ2 => sLoop fg g ds Δ2
      | .ct Δ2 => sLoop fg g ds Δ2
      | .bk Δ2 => .nx Δ2
      | r => r)
    | .ex _ => .no
    | .no => .no
noncomputable def sFor (js : List Nat) (fi : FI) (fg : FG) (g : FS) : FS := fun Δ => match fi (vsh Δ) with
  | .ok ds => sLoop fg g ds Δ
  | .ex x => .ex x Δ
  | .no => match fi (vsh (gsome js Δ)) with
    | .ok ds => sLoop fg g ds (gsome js Δ)
    | .ex x => .ex x (gsome js Δ)
    | .no => .no
theorem drop_one {α : Type} {l : List α} {i : Nat} (h : i < l.length) : ∃ x, l[i]? = some x ∧ l.drop i = x :: l.drop (i + 1) := ⟨l[i], by simp [h], List.drop_eq_getElem_cons h⟩
theorem loop_core {K : PySem.W.Frag} {fg : FG} {g : FS} {H0 : HB} {G0 G1 H1 : Hp} {J : It} {ds : List D} {Δ : SE} {O : OS} {σ : Sg} {D : Ends} (E : Ev K H0 G0 G1 H1 σ Δ O) (it : ItD K G1 J ds) (q : Fin K EX H0 G0 G1 D (sLoop fg g ds Δ)) :
    ∃ W : Nat → Nat → Sg → Hp → Prop, (∃ m, W 0 m σ H1) ∧ ∀ i m σ H, W i m σ H →
      (J.stop i H ∧ D.nx σ H) ∨ (J.go i H ∧ ∃ N : Sg → Hp → Prop, (∀ σ' H', N σ' H' → ∃ m', m' < m ∧ W (i + 1) m' σ' H') ∧ ∀ x H', J.yld i H x H' → tG K EX fg x σ H' fun σ2 H2 => tS K EX g { D with nx := N, ct := N, bk := D.nx } σ2 H2) := by
  refine ⟨fun i m σ H => m = ds.length - i ∧ i ≤ ds.length ∧ ∃ G Δ O, Ev K H0 G0 G H σ Δ O ∧ Same G1 G ∧ Fin K EX H0 G0 G1 D (sLoop fg g (ds.drop i) Δ), ⟨ds.length, by simp, Nat.zero_le _, G1, Δ, O, E, Same.refl _, q⟩, ?_⟩
  rintro i m σ H ⟨rfl, hi, G, Δ, O, E, sg, q⟩
  obtain ⟨i1, i2⟩ := it G H sg E.st.gh i
  by_cases hlt : i < ds.length
  · obtain ⟨d, e1, e2⟩ := drop_one hlt
    obtain ⟨go, yl⟩ := i1 d e1
    refine .inr ⟨go, fun σ' H' => ∃ G Δ O, Ev K H0 G0 G H' σ' Δ O ∧ Same G1 G ∧ Fin K EX H0 G0 G1 D (sLoop fg g (ds.drop (i + 1)) Δ), fun σ' H' w => ⟨ds.length - (i + 1), by omega, rfl, hlt, w⟩, fun x H' y => ?_⟩
    obtain ⟨G', st, hx⟩ := yl x H' y
    rw [e2] at q
    refine ⟨H0, G0, G', Δ, O, d, E.grow st, hx, ?_⟩
    have q' : Fin K EX H0 G0 G1 D (match fg d Δ with
      | .ok Δ1 => (match g Δ1 with
        | .nx Δ2 => sLoop fg g (ds.drop (i + 1)) Δ2
        | .ct Δ2 => sLoop fg g (ds.drop (i + 1)) Δ2
        | .bk Δ2 => .nx Δ2
        | r => r)
      | .ex _ => .no
      | .no => .no) := q
    cases e3 : fg d Δ with
    | ok Δ1 =>
      rw [e3] at q'
      intro σ2 G2 H2 O2 E2 s2
      have s12 : Same G1 G2 := sg.trans (st.gg.trans s2)
      refine ⟨H0, G0, G2, Δ1, O2, E2, ?_⟩
      cases e4 : g Δ1 with
      | nx Δ2 => simp only [e4] at q'; exact fun σ3 G3 H3 O3 E3 s3 => ⟨G3, Δ2, O3, E3, s12.trans s3, q'⟩
      | ct Δ2 => simp only [e4] at q'; exact fun σ3 G3 H3 O3 E3 s3 => ⟨G3, Δ2, O3, E3, s12.trans s3, q'⟩
      | bk Δ2 => simp only [e4] at q'; exact fun σ3 G3 H3 O3 E3 s3 => q' σ3 G3 H3 O3 E3 (s12.trans s3)
      | rt w => simp only [e4] at q'; exact q'
      | ex x Δ2 => simp only [e4] at q'; exact fun σ3 G3 H3 O3 E3 s3 => q' σ3 G3 H3 O3 E3 (s12.trans s3)
      | no => simp only [e4] at q'; exact q'
    | ex x => rw [e3] at q'; exact q'
    | no => rw [e3] at q'; exact q'
  · have e : ds.length = i := by omega
    refine .inl ⟨i2 e, ?_⟩
    rw [List.drop_eq_nil_of_le (by omega)] at q
    exact q σ G H O E sg
theorem sd_for {tg iter : Expr} {body : List Stmt} {fi : FI} {fg : FG} {g : FS} (js : List Nat) (hp : PassesOwn (model X.prog X.w) X.A X.env X.xe) (hc : X.calm = true) (hi : ID X EX tg iter fi) (hg : GD X EX tg fg) (hb : BD X EX body g)
    (hs : ∀ x, foldedSetIterable iter X.env x = pure x := by intro _; rfl) : SD X EX (.For tg iter body [] pos) (sFor js fi fg g) :=
  PS.imp (ps_for hp hc hi hg hb hs) fun D σ H ⟨H0, G0, G, Δ, O, E, q⟩ => by
    unfold sFor at q
    cases e1 : fi (vsh Δ) with
    | ok ds =>
      rw [e1] at q
      refine ⟨G, vsh Δ, E.st.gh, E.gsh, ?_⟩
      rw [e1]
      exact fun J G' H' st it => loop_core (E.grow st) it (Fin.mono st.gg q)
    | ex x =>
      rw [e1] at q
      exact ⟨G, vsh Δ, E.st.gh, E.gsh, by rw [e1]; exact q σ G H O E (Same.refl _)⟩
    | no =>
      rw [e1] at q
      obtain ⟨G1, O1, sg, E1⟩ := E.gsome js
      refine ⟨G1, vsh (gsome js Δ), E1.st.gh, E1.gsh, ?_⟩
      cases e2 : fi (vsh (gsome js Δ)) with
      | ok ds =>
        simp only [e2] at q
        exact fun J G' H' st it => loop_core (E1.grow st) it (Fin.mono (sg.trans st.gg) q)
      | ex x => simp only [e2] at q; exact q σ G1 H O1 E1 sg
      | no => simp only [e2] at q; exact q

noncomputable def sApp (i : Nat) (f : FE) : FS := fun Δ => match Δ[i]? with
  | some (.ow (.lst ds)) => if ds.length < 16777216 then (match f (vsh Δ) with
      | .ok w => .nx (Δ.set i (.ow (.lst (ds ++ [w.d]))))
      | .ex x => .ex x Δ
      | .no => match f (vall Δ) with
        | .ok w => if flatD w.d = true then .nx (Δ.set i (.ow (.lst (ds ++ [w.d])))) else .no
        | _ => .no) else .no
  | _ => .no
theorem sd_app {i : Nat} {x : Str} {e : Expr} {f : FE} {p1 apos cpos : Pos} (he : ED X EX e f) (hN : X.N[i]? = some x := by rfl) (hv : Vis X.env.scope x := by first | exact Or.inl rfl | exact Or.inr (Or.inl rfl) | exact Or.inr (Or.inr rfl)) (hd : (x == ("__debug__" : Str)) = false := by decide)
    (hcd : (x == ("__classdict__" : Str)) = false := by decide) (hsw : swapsWith (.Call (.Attribute (.Name x p1) "append" apos) [e] [] cpos) none pos.line X.env = pure false := by rfl)
    (hbase : attributeBase (.Name x p1) "append" X.env (eval (.Name x p1) X.env) = eval (.Name x p1) X.env := by rfl)
    (hfew : ((backTo cpos (starEach [e] X.env)).all (fun x => !x.1) && (backToKw cpos (keywordEach [] X.env)).all (fun x => x.1.isSome)
      && decide ([e].length + ([] : List Keyword).length + (if ([] : List Keyword).isEmpty then 0 else 1) < 30)) = true := by rfl)
    (hline : (apos.endLine == cpos.line) = true := by rfl) (hs : starEach [e] X.env = (false, eval e X.env) :: starEach [] X.env := by rfl) (hplain : (backTo cpos (starEach [] X.env)).any (·.1) = false := by rfl) :
    SD X EX (.Expr (.Call (.Attribute (.Name x p1) "append" apos) [e] [] cpos) pos) (sApp i f) :=
  PS.imp (ps_expr (pe_bm PySem.F.plainAttrs_list PySem.F.slot_list_append PySem.F.type_list_append mt_append (pe_var hN hv hd hcd) (pa_cons he pa_nil hs) hbase hfew hline hs hplain) hsw) fun D σ H ⟨H0, G0, G, Δ, O, E, q⟩ => by
    unfold sApp at q
    split at q
    · rename_i ds e1
      split at q
      · rename_i hz
        obtain ⟨v0, s1, t⟩ := E.ow i _ _ e1 rfl
        obtain ⟨a, vs, rfl, m, hH, rl⟩ := t.list_of
        · skip
          refine ⟨.ref a, s1, .inl ⟨rfl, _, SqL.of hH⟩, ?_⟩
          have fin : ∀ {G' H' : Hp} {v : V} {d : L3.D}, Ev X.K H0 G0 G' H' σ Δ O → Same G G' → H' a = some (.lst vs) → HasL X.K G' vs ds → Has X.K G' v d → Fin X.K EX H0 G0 G D (.nx (Δ.set i (.ow (.lst (ds ++ [d]))))) →
              rAppend (.ref a) [v] H' fun _ H1 => D.nx σ H1 := fun {G' H' v d} E' sg hH' r' hv' q' =>
            ⟨a, vs, v, rfl, rfl, hH', by rw [r'.length, sizeLine_eq]; exact hz, q' σ G' _ _ (E'.writeL s1 m (r'.append (.cons hv' .nil))) sg⟩
          cases e2 : f (vsh Δ) with
          | ok w =>
            simp only [e2] at q
            refine ⟨G, vsh Δ, E.st.gh, E.gsh, ?_⟩
            rw [e2]
            exact WP.intro fun v G' H' st r => fin (E.grow st) st.gg (st.hh _ _ hH) (rl.mono st.gg) r q
          | ex x =>
            simp only [e2] at q
            exact ⟨G, vsh Δ, E.st.gh, E.gsh, by rw [e2]; exact q σ G H O E (Same.refl _)⟩
          | no =>
            simp only [e2] at q
            refine ⟨allG G H O, vall Δ, E.aH, E.gall, ?_⟩
            cases e3 : f (vall Δ) with
            | ok w =>
              simp only [e3] at q
              split at q
              · rename_i fl
                exact WP.intro fun v G' H' st r => fin (E.keep st.hh) (Same.refl _) (st.hh _ _ hH) rl (r.ofFl fl) q
              · exact q.elim
            | ex x => simp only [e3] at q; exact q.elim
            | no => simp only [e3] at q; exact q
      · exact q.elim
    · exact q.elim
end
end L3

namespace L3
open PySem PySem.Spec PyProof.Rows L2

noncomputable def compCx (X : Cx) (scope : Scope) (cl : List (Str × Addr)) (N' : List Str) (C : Addr) (s0 : Shared) (H0 : Hp) (fp : List Addr) (pn : List (Addr × Obj)) : Cx where
  prog := X.prog
  w := X.w
  K := X.K
  mg := X.mg
  base := X.base
  A := X.A
  N := N'
  s₀ := s0
  H₀ := H0
  env := compEnvC scope cl C X.env
  outer := X.stack
  stack := X.stack
  ex := fp
  fn := fun _ => false
  calm := X.calm
  pn := pn
  xe := fun _ _ => False
noncomputable abbrev FGc := D → DE → R DE
noncomputable def tGc (K : PySem.W.Frag) (EX : EXS) (fg : FGc) : TG := fun v σ H Q => ∃ G δ d, Same G H ∧ HasS K G σ δ ∧ Has K G v d ∧ match fg d δ with
  | .ok δ' => ∀ σ', HasS K G σ' δ' → HasS K G σ' δ → Q σ' H
  | .ex x => (EX σ).p x G H
  | .no => False
noncomputable abbrev GC (X : Cx) (EX : EXS) (tg : Expr) (fg : FGc) : Prop := PG X tg (tGc X.K EX fg)
noncomputable def CTs (X : Cx) (EX : EXS) (ifs : List Expr) (p : FT) : Prop :=
  ∀ (pins : List (Addr × Obj)) (s : Shared) (σ : Sg) (H : Hp) (Q : Bool → Hp → Prop), Inv X pins σ H s → tDt X.K EX p σ H Q →
    wpAny (model X.prog X.w) X.A (forIn ifs true fun c r => if r = true then do let ok ← isTrue c X.env (eval c X.env); pure (ForInStep.yield ok) else pure (ForInStep.yield r)) (TP X pins σ Q) X.xe s
section
variable {X : Cx} {EX : EXS} {pos : Pos}
noncomputable def gC (i : Nat) : FGc := fun d δ => match δ[i]? with
  | some none => .ok (δ.set i (some d))
  | _ => .no
theorem HasS.put {K : PySem.W.Frag} {G : Hp} {σ : Sg} {δ : DE} {v : V} {d : D} (h : HasS K G σ δ) (r : Has K G v d) (i : Nat) : HasS K G (σ.set i (some v)) (δ.set i (some d)) := by
  refine ⟨by rw [List.length_set, List.length_set]; exact h.len, fun j d' e => ?_⟩
  rcases getSet e with ⟨rfl, q⟩ | ⟨n, q⟩
  · cases q
    have hlt : i < δ.length := by
      by_cases hh : i < δ.length
      · exact hh
      · rw [List.getElem?_eq_none (by rw [List.length_set]; omega)] at e; cases e
    exact ⟨v, by rw [List.getElem?_set_self (by rw [h.len]; exact hlt)], r⟩
  · obtain ⟨v', e1, r'⟩ := h.get j d' q
    exact ⟨v', by rw [List.getElem?_set_ne n]; exact e1, r'⟩
theorem gc_name {i : Nat} {x : Str} (hN : X.N.Nodup) (hi : X.N[i]? = some x := by rfl) (hx : Loc X.env.scope x := by first | exact Or.inl rfl | exact Or.inr rfl)
    (hf : X.fn x = true ∨ X.env.scope.names.lookup x = some .local := by first | exact .inl rfl | exact .inr rfl | assumption) : GC X EX (.Name x pos) (gC i) :=
  PG.imp (pg_name hN hi hx hf) fun v σ H Q ⟨G, δ, d, g, s, r, q⟩ => by
    unfold gC at q
    cases e : δ[i]? with
    | none => rw [e] at q; exact q.elim
    | some o =>
      rw [e] at q
      cases o with
      | some _ => exact q.elim
      | none =>
        refine q _ (s.put r i) ⟨by rw [List.length_set]; exact s.len, fun j d' e' => ?_⟩
        obtain ⟨v', e1, r'⟩ := s.get j d' e'
        refine ⟨v', ?_, r'⟩
        rw [List.getElem?_set_ne]
        · exact e1
        · rintro rfl
          rw [e] at e'
          cases e'
theorem ct_nil : CTs X EX [] (fun _ => .ok true) := fun pins s σ H Q I ⟨G, δ, g, h, q⟩ => wpAny_tests_nil ⟨H, I, q G H (Step.refl g)⟩
theorem ct_one {c : Expr} {p : FT} (h : TD X EX c p) : CTs X EX [c] p := fun pins s σ H Q I q => wpAny_tests_one (h pins s σ H Q I q)

noncomputable def compD (fg : FGc) (p : FT) (f : FE) (δ : DE) : List D → R (List D)
  | [] => .ok []
  | d :: ds => (fg d δ).bind fun δ1 => (p δ1).bind fun b => if b = true then (f δ1).bind fun w => (compD fg p f δ ds).bind fun rs => .ok (w.d :: rs) else compD fg p f δ ds
noncomputable def R.calm {α : Type} : R α → R α
  | .ok w => .ok w
  | _ => .no
@[simp] theorem R.calm_ok {α : Type} (a : α) : (R.ok a).calm = .ok a := rfl
@[simp] theorem R.calm_ex {α : Type} (x : Xn) : (R.ex x : R α).calm = .no := rfl
@[simp] theorem R.calm_no {α : Type} : (R.no : R α).calm = .no := rfl
noncomputable def eComp (m : Nat) (fi : FI) (fg : FGc) (p : FT) (f : FE) : FE := fun δ => ((fi δ).bind fun ds => if ds.length ≤ 16777216 then (compD fg p f (δ ++ List.replicate m none) ds).bind fun rs => .ok (.ow (.lst rs)) else .no).calm
theorem R.calm_never {α : Type} {r : R α} {x : Xn} (h : r.calm = .ex x) : False := by
  cases r <;> cases h
theorem eComp_no {m : Nat} {fi : FI} {fg : FGc} {p : FT} {f : FE} {δ : DE} {x : Xn} (h : eComp m fi fg p f δ = .ex x) : False := R.calm_never h

@[reducible] def CompGo (prog : Program) (w : World) (A : Around) (env : Env) (tg elt : Expr) (ifs : List Expr) (it acc : Value) (bad : Value → Shared → Prop) (fin more : Shared → Prop) : Option Value → Shared → Prop
  | none => fin
  | some v => wpAny (model prog w) A (letOwnedTupleGo tg it v) (fun _ => wpAny (model prog w) A (assign tg env v) (fun _ =>
      wpAny (model prog w) A (forIn ifs true fun c r => if r = true then do let ok ← isTrue c env (eval c env); pure (ForInStep.yield ok) else pure (ForInStep.yield r)) (fun ok =>
        if ok = true then wpAny (model prog w) A (eval elt env) (fun x => wpAny (model prog w) A (call (.builtin "list.append") [acc, x]) (fun _ => more) bad) bad else more) bad) bad) bad
theorem comp_turns {prog : Program} {w : World} {A : Around} {R : Result → Shared → Prop} {s : Shared} {elt target iter : Expr} {ifs : List Expr} {scope : Scope} {pos : Pos} {it acc : Value} {env : Env} (I : Nat → Shared → Prop)
    (turn : ∀ n s, I n s → wpAny (model prog w) A (pyNext it) (CompGo prog w A env target elt ifs it acc (notedBy (model prog w) A env fun e => R (.error e)) (R (.ok .next)) fun s' => ∃ m, m < n ∧ I m s') (notedBy (model prog w) A env fun e => R (.error e)) s)
    (n : Nat) (h : I n s) : codeAny (model prog w) A (.compLoop (.ListComp elt [⟨target, iter, ifs, 0⟩] scope pos) 0 it acc env) R s := by
  refine codeAny_loop rfl I (fun k t hk => wpAny_noted (env := env) (m := compTurn (.ListComp elt [⟨target, iter, ifs, 0⟩] scope pos) 0 it acc env) (compTurn_list .. ▸ ?_)) n h
  refine wpAny_bind (wpAny_standAt (wpAny_bind (thn (turn k t hk) ?_)))
  rintro (_ | v) t1 g1
  · exact wpAny_pure g1
  refine wpAny_bind (thn g1 fun _ t2 g2 => wpAny_bind (thn g2 fun _ t3 g3 => wpAny_bind (thn g3 ?_)))
  rintro (_ | _) t4 g4
  · exact wpAny_pure ⟨rfl, g4⟩
  · exact wpAny_bind (wpAny_bind (thn g4 fun _ t5 g5 => wpAny_bind (thn g5 fun _ t6 g6 => wpAny_pure (wpAny_pure ⟨rfl, g6⟩))))

structure CompN (X : Cx) (scope : Scope) (cl : List (Str × Addr)) (N' : List Str) : Prop where
  clos : closureFor scope X.env = pure cl
  cell : ∀ y ∈ scope.names, y.2 ≠ .cell
  kind : scope.kind = .function
  names : ∀ y ∈ scope.names, y.2 = .local → scope.names.lookup y.1 = some .local
  sub : ∀ x c, cl.lookup x = some c → X.env.cells.lookup x = some c
  has : ∀ x, ((relabel scope X.env).names.lookup x = some .cell ∨ (relabel scope X.env).names.lookup x = some .free) → ∃ c, cl.lookup x = some c
  old : ∀ (i : Nat) (x : Str), N'[i]? = some x → i < X.N.length → Vis (relabel scope X.env) x → X.N[i]? = some x ∧ (X.env.scope.names.lookup x = some .cell ∨ X.env.scope.names.lookup x = some .free) ∧ (∃ c, cl.lookup x = some c) ∧ ((relabel scope X.env).names.lookup x = some .cell ∨ (relabel scope X.env).names.lookup x = some .free)
noncomputable def clOf (cells : List (Str × Addr)) : List (Str × NameKind) → List (Str × Addr) → List (Str × Addr)
  | [], acc => acc
  | (x, k) :: r, acc => clOf cells r (if k = .free then (x, (cells.lookup x).getD 0) :: acc else acc)
theorem closureFor_eq {scope : Scope} {env : Env} (h : ∀ p ∈ scope.names, p.2 = .free → ∃ c, env.cells.lookup p.1 = some c) : closureFor scope env = pure (clOf env.cells scope.names []) := by
  have all : ∀ (names : List (Str × NameKind)) (acc : List (Str × Addr)), (∀ p ∈ names, p.2 = .free → ∃ c, env.cells.lookup p.1 = some c) →
      (forIn names acc fun (x : Str × NameKind) (r : List (Str × Addr)) => if (x.2 == .free) = true then do let a ← cellOf env x.1; pure (ForInStep.yield ((x.1, a) :: r)) else pure (ForInStep.yield r) : Sem (List (Str × Addr))) = pure (clOf env.cells names acc) := by
    intro names
    induction names with
    | nil => intro acc _; rfl
    | cons p r ih =>
      intro acc hp
      obtain ⟨x, k⟩ := p
      rw [List.forIn_cons]
      by_cases hk : k = .free
      · subst hk
        obtain ⟨c, e⟩ := hp (x, .free) List.mem_cons_self rfl
        have e1 : cellOf env x = pure c := by unfold cellOf; rw [show env.cells.lookup x = some c from e]
        simp only [beq_self_eq_true, if_true, e1, pure_bind]
        rw [ih _ fun q hq => hp q (List.mem_cons_of_mem _ hq)]
        show _ = pure (clOf env.cells r (if NameKind.free = .free then (x, (env.cells.lookup x).getD 0) :: acc else acc))
        rw [if_pos rfl, show env.cells.lookup x = some c from e]
        rfl
      · have hb : (k == NameKind.free) = false := by simpa using hk
        simp only [hb, Bool.false_eq_true, if_false, pure_bind]
        rw [ih _ fun q hq => hp q (List.mem_cons_of_mem _ hq)]
        show _ = pure (clOf env.cells r (if k = .free then (x, (env.cells.lookup x).getD 0) :: acc else acc))
        rw [if_neg hk]
  unfold closureFor
  have := all scope.names [] h
  simpa using this
theorem clOf_mem {cells : List (Str × Addr)} {q : Str × Addr} : ∀ {names : List (Str × NameKind)} {acc : List (Str × Addr)}, q ∈ clOf cells names acc → q ∈ acc ∨ ((q.1, NameKind.free) ∈ names ∧ q.2 = (cells.lookup q.1).getD 0)
  | [], acc, h => .inl h
  | (x, k) :: r, acc, h => by
    rcases clOf_mem (names := r) h with h | ⟨h1, h2⟩
    · split at h
      · rename_i hk
        rcases List.mem_cons.mp h with rfl | h
        · exact .inr ⟨by rw [hk]; exact List.mem_cons_self, rfl⟩
        · exact .inl h
      · exact .inl h
    · exact .inr ⟨List.mem_cons_of_mem _ h1, h2⟩
theorem clOf_acc {cells : List (Str × Addr)} {x : Str} : ∀ {names : List (Str × NameKind)} {acc : List (Str × Addr)}, (acc.lookup x).isSome = true → ((clOf cells names acc).lookup x).isSome = true
  | [], acc, h => h
  | (y, k) :: r, acc, h => by
    refine clOf_acc (names := r) ?_
    split
    · rw [List.lookup_cons]
      split
      · rfl
      · exact h
    · exact h
theorem clOf_has {cells : List (Str × Addr)} {x : Str} : ∀ {names : List (Str × NameKind)} {acc : List (Str × Addr)}, (x, NameKind.free) ∈ names → ((clOf cells names acc).lookup x).isSome = true
  | (y, k) :: r, acc, h => by
    rcases List.mem_cons.mp h with h | h
    · cases h
      refine clOf_acc (names := r) ?_
      rw [if_pos rfl, List.lookup_cons]
      simp
    · exact clOf_has (names := r) h
theorem lookup_relabel {env : Env} : ∀ (names : List (Str × NameKind)) (x : Str),
    (names.map fun (n, k) => if (k == NameKind.free && env.scope.kind == .function && env.kindOf n == some .cell) then (n, NameKind.cell) else (n, k)).lookup x = (names.lookup x).map fun k => if (k == NameKind.free && env.scope.kind == .function && env.kindOf x == some .cell) = true then NameKind.cell else k
  | [], x => rfl
  | (n, k) :: r, x => by
    have ih := lookup_relabel (env := env) r x
    show List.lookup x ((if (k == NameKind.free && env.scope.kind == .function && env.kindOf n == some .cell) = true then (n, NameKind.cell) else (n, k)) :: _) = _
    cases hx : x == n with
    | true =>
      have e : x = n := eq_of_beq hx
      subst e
      by_cases hc : (k == NameKind.free && env.scope.kind == .function && env.kindOf x == some .cell) = true
      · rw [if_pos hc]; simp only [List.lookup_cons, beq_self_eq_true, Option.map_some]; rw [if_pos hc]
      · rw [if_neg hc]; simp only [List.lookup_cons, beq_self_eq_true, Option.map_some]; rw [if_neg hc]
    | false =>
      by_cases hc : (k == NameKind.free && env.scope.kind == .function && env.kindOf n == some .cell) = true
      · rw [if_pos hc]; simp only [List.lookup_cons, hx]; exact ih
      · rw [if_neg hc]; simp only [List.lookup_cons, hx]; exact ih
noncomputable def compB (inner outer : List (Str × NameKind)) (N N' : List Str) : Bool :=
  (inner.all fun p => p.2 != .cell && (p.2 != .local || inner.lookup p.1 == some .local) && (p.2 != .free || (outer.lookup p.1 == some .cell || outer.lookup p.1 == some .free))) &&
  (List.range N.length).all fun i => match N'[i]? with
    | some x => (match inner.lookup x with
      | some .free => N[i]? == some x && (outer.lookup x == some .cell || outer.lookup x == some .free)
      | some .local => false
      | some .cell => false
      | _ => true)
    | none => true
theorem compN_mk {scope : Scope} {N' : List Str} (ok : X.Ok) (hk : scope.kind = .function) (hb : compB scope.names X.env.scope.names X.N N' = true) : CompN X scope (clOf X.env.cells scope.names []) N' := by
  unfold compB at hb
  rw [Bool.and_eq_true] at hb
  obtain ⟨h1, h2⟩ := hb
  have h1 := List.all_eq_true.mp h1
  have h2 := List.all_eq_true.mp h2
  have fr : ∀ p ∈ scope.names, p.2 = .free → ∃ c, X.env.cells.lookup p.1 = some c := fun p hp hf => by
    have z := h1 p hp
    simp only [hf, Bool.and_eq_true, Bool.or_eq_true, bne_iff_ne, beq_iff_eq] at z
    exact ok.has p.1 (by
      rcases z.2 with z | z
      · exact absurd rfl z
      · exact z)
  have inn : ∀ x k, scope.names.lookup x = some k → (x, k) ∈ scope.names := fun x k e => PySem.mem_of_lookup e
  have nocell : ∀ p ∈ scope.names, p.2 ≠ .cell := fun p hp hc => by
    have z := h1 p hp
    rw [hc] at z
    simp at z
  have hasF : ∀ x, scope.names.lookup x = some .free → ∃ c, (clOf X.env.cells scope.names []).lookup x = some c := fun x e => Option.isSome_iff_exists.mp (clOf_has (inn x _ e))
  have relF : ∀ x, ((relabel scope X.env).names.lookup x = some .cell ∨ (relabel scope X.env).names.lookup x = some .free) → scope.names.lookup x = some .free := fun x h => by
    unfold relabel at h
    rw [lookup_relabel] at h
    cases e : scope.names.lookup x with
    | none => rw [e] at h; simp at h
    | some k =>
      rw [e] at h
      have nc := nocell (x, k) (inn x k e)
      cases k with
      | free => rfl
      | cell => exact absurd rfl nc
      | «local» => simp at h
      | globalExplicit => simp at h
      | globalImplicit => simp at h
  refine ⟨closureFor_eq fr, nocell, hk, fun y hy hl => ?_, fun x c e => ?_, fun x h => hasF x (relF x h), fun i x e hi hv => ?_⟩
  · have z := h1 y hy
    simp only [hl, Bool.and_eq_true, Bool.or_eq_true, bne_iff_ne, beq_iff_eq] at z
    rcases z.1.2 with z | z
    · exact absurd rfl z
    · exact z
  · rcases clOf_mem (PySem.mem_of_lookup e) with z | ⟨z1, z2⟩
    · exact absurd z (by simp)
    · obtain ⟨c', e'⟩ := fr (x, .free) z1 rfl
      have z2 : c = (X.env.cells.lookup x).getD 0 := z2
      have e' : X.env.cells.lookup x = some c' := e'
      rw [e'] at z2 ⊢
      cases z2
      rfl
  · have z := h2 i (List.mem_range.mpr hi)
    rw [e] at z
    dsimp only at z
    have look : scope.names.lookup x = some .free ∧ (((relabel scope X.env).names.lookup x = some .cell ∨ (relabel scope X.env).names.lookup x = some .free)) := by
      unfold Vis relabel at hv
      unfold relabel
      rw [lookup_relabel] at hv ⊢
      cases q : scope.names.lookup x with
      | none => rw [q] at hv; simp at hv
      | some k =>
        rw [q] at hv z
        cases k with
        | free =>
          refine ⟨rfl, ?_⟩
          by_cases hc : (X.env.scope.kind == .function && X.env.kindOf x == some .cell) = true
          · left; simp [Bool.and_assoc, hc]
          · right; simp [Bool.and_assoc, hc]
        | cell => simp at z
        | «local» => simp at z
        | globalExplicit => simp at hv
        | globalImplicit => simp at hv
    rw [look.1] at z
    simp only [Bool.and_eq_true, Bool.or_eq_true, beq_iff_eq] at z
    exact ⟨z.1, z.2, hasF x look.1, look.2⟩
theorem comp_core {elt iter tg : Expr} {ifs : List Expr} {scope : Scope} {N' : List Str} {fi : FI} {fg : FGc} {p : FT} {f : FE} {m : Nat} (hx0 : ∀ e s, ¬ X.xe e s) (hc : X.calm = true) (hk : scope.kind = .function) (hb : compB scope.names X.env.scope.names X.N N' = true)
    (hm : N'.length = X.N.length + m)
    (hin : ∀ C s0 H0 fp pn, GC (compCx X scope (clOf X.env.cells scope.names []) N' C s0 H0 fp pn) EXS0 tg fg ∧ CTs (compCx X scope (clOf X.env.cells scope.names []) N' C s0 H0 fp pn) EXS0 ifs p ∧ ED (compCx X scope (clOf X.env.cells scope.names []) N' C s0 H0 fp pn) EXS0 elt f)
    {pins : List (Addr × Obj)} {s : Shared} {σ : Sg} {H : Hp} {δ : DE} (I : Inv X pins σ H s) {Z : Hp → Hp → Prop} (hZ : ∀ G2 H2, Z G2 H2 → Same G2 H2 ∧ HasS X.K G2 σ δ)
    (hit : wpAny (model X.prog X.w) X.A (eval iter X.env) (fun xv s₁ => wpAny (model X.prog X.w) X.A (pyIter xv) (fun itv s₂ => ∃ (it : Addr) (fp : List Addr) (tn : Nat → Heap → Prop) (J : It) (H2 : Hp) (ds : List D) (G2 : Hp), itv = .ref it ∧ Inv X pins σ H2 s₂ ∧ Turn X.prog X.w X.K tg J fp it tn ∧ tn 0 s₂.heap ∧ (∀ b ∈ fp, FpOk X pins H2 b) ∧ fi δ = .ok ds ∧ Z G2 H2 ∧ ItD X.K G2 J ds) X.xe s₁) X.xe s)
    {RR : Value → Addr → Result → Shared → Prop}
    (o : match eComp m fi fg p f δ with | .ok _ => True | .ex x => False | .no => False)
    (hRR : ∀ (Da C : Addr) (s1 : Shared) (G2 H2 G' H' : Hp) (vs : List V) (rs : List D), eComp m fi fg p f δ = .ok (.ow (.lst rs)) → Inv X pins σ H' s1 → (∃ m, s1.heap.Ns C m) → FpOk X pins H' C → Z G2 H2 → Step G2 H2 G' H' → H2 Da = none → H' Da = some (.lst vs) → G' Da = none → HasL X.K G' vs rs → RR (.ref Da) C (.ok .next) s1) :
    wpAny (model X.prog X.w) X.A (eval iter X.env) (fun x s₁ => wpAny (model X.prog X.w) X.A (pyIter x) (fun it s₂ => wpAny (model X.prog X.w) X.A (newList []) (fun acc s₃ =>
      wpAny (model X.prog X.w) X.A (newFunctionEnv scope X.env.globals (clOf X.env.cells scope.names []) [] X.env.qual none .none (some X.env)) (fun cenv s₄ =>
        codeAny (model X.prog X.w) X.A (.compStart (.ListComp elt [⟨tg, iter, ifs, 0⟩] scope pos) 0 it acc { cenv with scope := relabel scope X.env }) (RR acc cenv.locals) s₄) X.xe s₃) X.xe s₂) X.xe s₁) X.xe s := by
  have n := compN_mk I.ok hk hb
  generalize hcle : clOf X.env.cells scope.names [] = cl at n hin ⊢
  have hcomp : ∀ ds, fi δ = .ok ds → ds.length ≤ 16777216 ∧ (match compD fg p f (δ ++ List.replicate m none) ds with | .ok rs => eComp m fi fg p f δ = .ok (.ow (.lst rs)) | .ex x => False | .no => False) := fun ds e => by
    unfold eComp at o ⊢
    simp only [e, R.bind_ok] at o ⊢
    by_cases hz : ds.length ≤ 16777216
    · refine ⟨hz, ?_⟩
      rw [if_pos hz] at o ⊢
      cases e2 : compD fg p f (δ ++ List.replicate m none) ds with
      | ok rs => rfl
      | ex x => rw [e2] at o; exact o
      | no => rw [e2] at o; exact o
    · rw [if_neg hz] at o; exact o.elim
  
  refine wpAny_mono hit (fun xv s₁ h₁ => wpAny_mono h₁ (fun itv s₂ h₂ => ?_) fun _ _ e => (hx0 _ _ e).elim) fun _ _ e => (hx0 _ _ e).elim
  obtain ⟨it, fp, tn, J, H2, ds, G2, rfl, I2, T, st2, f2, e2, hz2, itd⟩ := h₂
  obtain ⟨sg2, h0⟩ := hZ G2 H2 hz2
  obtain ⟨hz, o⟩ := hcomp ds e2
  
  have hfD : H2 s₂.heap.objs.size = none := I2.hok.fresh (Nat.le_refl _)
  refine wpAny_newObj_type (wpAny_newFunctionEnv n.cell (by intro y hy; simp at hy) (fun h₁ hns₁ hsb₁ => ?_) n.kind)
  dsimp only at hns₁ hsb₁ ⊢
  generalize hDa : s₂.heap.objs.size = Da at hfD
  have hDn : @Eq Nat s₂.heap.objs.size Da := hDa
  have I3 : Inv X pins σ (upd H2 Da (.lst [])) { s₂ with heap := s₂.heap.push { cls := .type "list", dict := none, data := .seq ([] : List Value).toArray } } := by
    rw [← hDa]
    exact I2.lnew (t' := s₂.toks) .nil (Nat.zero_le _)
  generalize hH3 : s₂.heap.push { cls := .type "list", dict := none, data := .seq ([] : List Value).toArray } = hp3 at hns₁ hsb₁ I3 ⊢
  have hC : hp3.objs.size = Da + 1 := by rw [← hH3, Heap.size_push, hDa]
  generalize hCe : hp3.objs.size = C at hns₁ hsb₁ hC
  have hCn : @Eq Nat hp3.objs.size C := hCe
  have hC2 : @Eq Nat C (Da + 1) := hC
  have old3 : ∀ b o, s₂.heap.get? b = some o → hp3.get? b = some o := fun b o e => by rw [← hH3]; exact Heap.get?_push_of_some _ e
  have up : ∀ b o, hp3.get? b = some o → h₁.get? b = some o := fun b o e => hsb₁.extBut b o (Nat.ne_of_lt (show @LT.lt Nat _ b C by rw [← hCn]; exact Heap.lt_size e)) (Heap.get?_push_of_some _ e)
  
  have fpC : ∀ b ∈ fp, b < s₂.heap.objs.size := fun b hb => by
    obtain ⟨o, e, _⟩ := T.obj _ _ st2 b hb
    exact Heap.lt_size e
  have hcl : ∀ x c, cl.lookup x = some c → c < hp3.objs.size ∧ c ∉ fp ∧ (upd H2 Da (.lst [])) c = none := fun x c e => by
    have e' := n.sub x c e
    obtain ⟨v, hv⟩ := I3.cell x c e'
    exact ⟨hv.lt, fun z => (f2 c z).2.2.2.2.1 x c e' rfl, I3.freeC x c e'⟩
  let X' := compCx X scope cl N' C { s₂ with heap := hp3 } (upd H2 Da (.lst [])) fp (X.pn ++ pins)
  have ok' : X'.Ok := by
    refine ⟨I.ok.mod, n.kind, I.ok.glob, I.ok.blt, Nat.le_of_eq hCe, fun x y c h1 h2 => I.ok.inj x y c (n.sub x c h1) (n.sub y c h2), fun x hx => n.has x hx, fun x c z => ?_, I.ok.hd, I.ok.frames, .inl rfl, fun b hb => ⟨?_, fun x c e z => ?_⟩, fun b o e => ?_, ?_, fun b o e hb => ?_, fun b hb z => ?_, I3.stack, I3.stkFree⟩
    · exact absurd z Bool.false_ne_true
    · exact Nat.ne_of_lt (Nat.lt_of_lt_of_le (fpC b hb) (show @LE.le Nat _ s₂.heap.objs.size C by omega))
    · subst z; exact (hcl x c e).2.1 hb
    · exact I3.bs b o e
    · exact Nat.le_trans I.ok.bsz I3.sz
    · rcases (f2 b hb).2.2.2.1 with z | z
      · exact I.ok.noex b o e z
      · exact absurd (Heap.lt_size (I.ok.bs b o e).1) (Nat.not_lt_of_le z)
    · rcases List.mem_cons.mp (I3.stkSub b z) with z | z
      · exact (f2 b hb).2.1 z
      · exact (f2 b hb).2.2.1 z
  have lenσ : σ.length = X.N.length := I.len
  have I4 : Inv X' [] (σ ++ List.replicate m none) (upd H2 Da (.lst [])) { s₂ with heap := h₁, toks := s₂.toks + ([] : List (Str × Value)).length } := by
    refine ⟨ok', rfl, I2.bare, Un.kept up, ⟨_, hns₁, fun i x v e1 e2 e3 => ?_⟩, fun x c e => ?_, ?_, fun x c e => (hcl x c e).2.2, fun p hp => ?_, I3.hok.kept up, ?_⟩
    · have hi : i < σ.length := by
        by_cases hh : i < σ.length
        · exact hh
        · rw [List.getElem?_append_right (by omega), List.getElem?_replicate] at e2
          split at e2 <;> cases e2
      rw [List.getElem?_append_left hi] at e2
      obtain ⟨n1, n2, ⟨c, n3⟩, n4⟩ := n.old i x e1 (by omega) e3
      obtain ⟨mm, hnm, hl⟩ := I3.loc
      obtain ⟨u, r, l⟩ := hl i x v n1 e2 (.inr n2)
      refine ⟨u, r, .inr ⟨n4, c, n3, ?_⟩⟩
      have n3' := n.sub x c n3
      rcases l with ⟨k1, k2⟩ | ⟨k1, c', k2, k3⟩
      · exfalso
        have k1' : X.env.scope.names.lookup x = some .local := k1
        rcases n2 with n2 | n2
        · rw [n2] at k1'; cases k1'
        · rw [n2] at k1'; cases k1'
      · rw [n3'] at k2
        cases k2
        exact k3.keeps up
    · obtain ⟨v, hv⟩ := I3.cell x c (n.sub x c e)
      exact ⟨v, hv.keeps up⟩
    · show upd H2 Da (.lst []) C = none
      exact I3.hok.fresh (by show hp3.objs.size ≤ C; omega)
    · have hp' : p ∈ X.pn ++ pins := by
        have hp2 : p ∈ (X.pn ++ pins) ++ [] := hp
        rwa [List.append_nil] at hp2
      obtain ⟨z1, z2, z3, z4, z5⟩ := I3.pin p hp'
      refine ⟨up _ _ z1, z2, ?_, fun z => ?_, z5⟩
      · exact Nat.ne_of_lt (show @LT.lt Nat _ p.1 C by rw [← hCn]; exact Heap.lt_size z1)
      · rcases List.mem_cons.mp (I3.stkSub p.1 z) with z | z
        · exact z3 z
        · exact z4 z
    · rw [List.length_append, List.length_replicate, lenσ]
      exact hm.symm
  obtain ⟨hgc, hct, hel⟩ := hin C { s₂ with heap := hp3 } (upd H2 Da (.lst [])) fp (X.pn ++ pins)
  have hS4 : HasS X.K G2 (σ ++ List.replicate m none) (δ ++ List.replicate m none) := by
    refine ⟨by rw [List.length_append, List.length_append, List.length_replicate, List.length_replicate, h0.len], fun i d e => ?_⟩
    by_cases hh : i < δ.length
    · rw [List.getElem?_append_left hh] at e
      obtain ⟨v, e1, r⟩ := h0.get i d e
      exact ⟨v, by rw [List.getElem?_append_left (by rw [h0.len]; exact hh)]; exact e1, r⟩
    · rw [List.getElem?_append_right (by omega), List.getElem?_replicate] at e
      split at e <;> cases e
  generalize hδ : δ ++ List.replicate m none = δ' at hS4 o
  have stn : tn 0 h₁ := T.keep 0 _ _ st2 fun b hb o e => up b o (old3 b o e)
  have fpn : ∀ b ∈ fp, (upd H2 Da (.lst [])) b = none := fun b hb => by
    rw [upd_ne (Nat.ne_of_lt (show @LT.lt Nat _ b Da by rw [← hDn]; exact fpC b hb))]
    exact (f2 b hb).1
  have fpok : ∀ {pl : List (Addr × Obj)} {H' : Hp}, pl = [] → (∀ b ∈ fp, H' b = none) → ∀ b ∈ fp, FpOk X' pl H' b := fun {pl H'} hpl hn b hb => by
    subst hpl
    refine ⟨hn b hb, ?_, fun z => ?_, .inl hb, fun x c e z => ?_, fun p hp z => ?_⟩
    · exact Nat.ne_of_lt (Nat.lt_of_lt_of_le (fpC b hb) (show @LE.le Nat _ s₂.heap.objs.size C by omega))
    · rcases List.mem_cons.mp (I3.stkSub b z) with z | z
      · exact (f2 b hb).2.1 z
      · exact (f2 b hb).2.2.1 z
    · subst z; exact (hcl x c e).2.1 hb
    · have hp' : p ∈ X.pn ++ pins := by
        have hp2 : p ∈ (X.pn ++ pins) ++ [] := hp
        rwa [List.append_nil] at hp2
      exact (f2 b hb).2.2.2.2.2 p hp' z
  have loop : ∀ s4 : Shared, Inv X' [] (σ ++ List.replicate m none) (upd H2 Da (.lst [])) s4 → tn 0 s4.heap → codeAny (model X.prog X.w) X.A (.compLoop (.ListComp elt [⟨tg, iter, ifs, 0⟩] scope pos) 0 (.ref it) (.ref Da) (compEnvC scope cl C X.env)) (RR (.ref Da) C) s4 := by
    intro s4 I4 tn4
    refine comp_turns (fun k s' => ∃ i σ' H' G' vs rs, k = ds.length - i ∧ i ≤ ds.length ∧ Inv X' [] σ' H' s' ∧ tn i s'.heap ∧ (∀ b ∈ fp, H' b = none) ∧ HasS X.K G' σ' δ' ∧ Step G2 H2 G' H' ∧ Same G2 G' ∧ H' Da = some (.lst vs) ∧ G' Da = none ∧
      HasL X.K G' vs rs ∧ rs.length ≤ i ∧ (match compD fg p f δ' (ds.drop i) with | .ok rs2 => eComp m fi fg p f δ = .ok (.ow (.lst (rs ++ rs2))) | .ex x => False | .no => False)) ?_ ds.length
      ⟨0, _, _, G2, [], [], by simp, Nat.zero_le _, I4, tn4, fpn, hS4, Step.own sg2 hfD _, Same.refl _, upd_same, sg2.free hfD, .nil, Nat.zero_le _, by simpa using o⟩
    rintro k s' ⟨i, σ', H', G', vs, rs, rfl, hi, I', tni, fn', hS, st, sg, hD, gD, rl, hl, o'⟩
    obtain ⟨i1, i2⟩ := itd G' H' sg st.gh i
    by_cases hlt : i < ds.length
    · obtain ⟨d, e1, e2⟩ := drop_one hlt
      obtain ⟨go, yl⟩ := i1 d e1
      refine thn (T.item X' rfl rfl rfl hc i [] s' σ' H' _ I' (fpok rfl fn') tni go) fun r s1 ⟨u, hr, h1⟩ => ?_
      subst hr
      refine thn h1 fun _ s5 ⟨x, H5, I5, r5, y5, st5, fr5⟩ => ?_
      obtain ⟨G5, stp5, hx5⟩ := yl x H5 y5
      have I5' := I5.pinned (fpok rfl fr5) (T.obj _ _ st5)
      rw [e2] at o'
      have o1 : match ((fg d δ').bind fun δ1 => (p δ1).bind fun b => if b = true then (f δ1).bind fun w => (compD fg p f δ' (ds.drop (i + 1))).bind fun rs => .ok (w.d :: rs) else compD fg p f δ' (ds.drop (i + 1))) with | .ok rs2 => eComp m fi fg p f δ = .ok (.ow (.lst (rs ++ rs2))) | .ex x => False | .no => False := o'
      have hS5 : HasS X.K G5 σ' δ' := hS.mono stp5.gg
      refine wpAny_mono (hgc _ s5 σ' H5 x u (fun σ6 H6 => ∃ δ1, fg d δ' = .ok δ1 ∧ H6 = H5 ∧ HasS X.K G5 σ6 δ1 ∧ HasS X.K G5 σ6 δ') I5' r5 ⟨G5, δ', d, stp5.gh, hS5, hx5, ?_⟩) (fun _ s6 ⟨σ6, H6, I6, δ1, e6, eH, hS6, hS6'⟩ => ?_) fun _ _ z => False.elim z
      · cases e6 : fg d δ' with
        | ok δ1 => exact fun σ6 h6 h6' => ⟨δ1, rfl, rfl, h6, h6'⟩
        | ex x => rw [e6] at o1; exact o1
        | no => rw [e6] at o1; exact o1
      subst eH
      rw [e6] at o1
      simp only [R.bind_ok] at o1
      refine wpAny_mono (hct _ s6 σ6 H6 (fun b H7 => ∃ G7, p δ1 = .ok b ∧ Step G5 H6 G7 H7) I6 ⟨G5, δ1, stp5.gh, hS6, ?_⟩) (fun b s7 ⟨H7, I7, G7, e7, stp7⟩ => ?_) fun _ _ z => False.elim z
      · cases e7 : p δ1 with
        | ok b => exact fun G7 H7 st7 => ⟨G7, rfl, st7⟩
        | ex x => rw [e7] at o1; exact o1
        | no => rw [e7] at o1; exact o1
      rw [e7] at o1
      simp only [R.bind_ok] at o1
      
      have gD7 : G7 Da = none := (stp5.trans stp7).nw Da gD (by rw [hD]; simp)
      have hD7 : H7 Da = some (.lst vs) := (stp5.trans stp7).hh _ _ hD
      have pinK : ∀ {σ9 : Sg} {H9 : Hp} {s9 : Shared}, Inv X' ([] ++ pinsAt fp s5.heap) σ9 H9 s9 → tn (i + 1) s9.heap ∧ ∀ b ∈ fp, H9 b = none := fun {σ9 H9 s9} I9 =>
        ⟨T.keep _ _ _ st5 fun b hb o e => (I9.pin (b, o) (List.mem_append_right _ (List.mem_append_right _ (mem_pinsAt hb e)))).1, fun b hb => by
          obtain ⟨o, e, d⟩ := T.obj _ _ st5 b hb
          exact (I9.pin (b, o) (List.mem_append_right _ (List.mem_append_right _ (mem_pinsAt hb e)))).2.1⟩
      have hSk : ∀ {G9 : Hp}, Same G7 G9 → HasS X.K G9 σ6 δ' := fun {G9} sm => hS6'.mono (stp7.gg.trans sm)
      cases b with
      | false =>
        rw [if_neg Bool.false_ne_true] at o1 ⊢
        exact ⟨ds.length - (i + 1), by omega, i + 1, σ6, H7, G7, vs, rs, rfl, hlt, I7.unpinned, (pinK I7).1, (pinK I7).2, hSk (Same.refl _), st.trans (stp5.trans stp7), sg.trans (stp5.gg.trans stp7.gg), hD7, gD7, rl.mono (stp5.gg.trans stp7.gg), by omega, o1⟩
      | true =>
        rw [if_pos rfl] at o1 ⊢
        refine wpAny_mono (hel _ s7 σ6 H7 (fun v H8 => ∃ w G8, f δ1 = .ok w ∧ Step G7 H7 G8 H8 ∧ Has X.K G8 v w.d) I7 ⟨G7, δ1, stp7.gh, hS6.mono stp7.gg, ?_⟩) (fun u8 s8 ⟨v8, H8, I8, r8, w8, G8, e8, stp8, hv8⟩ => ?_) fun _ _ z => False.elim z
        · cases e8 : f δ1 with
          | ok w => exact WP.intro fun v G8 H8 st8 r8 => ⟨w, G8, rfl, st8, r8⟩
          | ex x => rw [e8] at o1; exact o1
          | no => rw [e8] at o1; exact o1
        rw [e8] at o1
        simp only [R.bind_ok] at o1
        have gD8 : G8 Da = none := stp8.nw Da gD7 (by rw [hD7]; simp)
        have hD8 : H8 Da = some (.lst vs) := stp8.hh _ _ hD7
        have rl8 : HasL X.K G8 vs rs := rl.mono (stp5.gg.trans (stp7.gg.trans stp8.gg))
        refine wpAny_mono (mt_append (X := X') _ s8 σ6 H8 (.ref Da) [v8] (.ref Da) [u8] (fun _ H9 => H9 = upd H8 Da (.lst (vs ++ [v8]))) I8 rfl (.cons r8 .nil) ⟨Da, vs, v8, rfl, rfl, hD8, by rw [rl.length, sizeLine_eq]; omega, rfl⟩) (fun _ s9 ⟨_, H9, I9, _, e9⟩ => ?_) fun _ _ z => False.elim z
        subst e9
        have stA := st.trans (stp5.trans (stp7.trans stp8))
        refine ⟨ds.length - (i + 1), by omega, i + 1, σ6, _, G8, vs ++ [v8], rs ++ [w8.d], rfl, hlt, I9.unpinned, (pinK I9).1, (pinK I9).2, hSk stp8.gg, ⟨fun b o z => ?_, fun b o z => ?_, stA.gg, stA.nw⟩, sg.trans (stp5.gg.trans (stp7.gg.trans stp8.gg)), upd_same, gD8, rl8.append (.cons hv8 .nil), by rw [List.length_append, List.length_singleton]; omega, ?_⟩
        · rw [upd_ne (ne_of_none z hfD)]; exact stA.hh b o z
        · rw [upd_ne (ne_of_none z gD8)]; exact stp8.gh b o z
        · cases e10 : compD fg p f δ' (ds.drop (i + 1)) with
          | ok rs2 =>
            rw [e10] at o1
            simp only [R.bind_ok] at o1 ⊢
            rw [List.append_assoc]
            exact o1
          | ex x => rw [e10] at o1; exact o1
          | no => rw [e10] at o1; exact o1
    · have e : ds.length = i := by omega
      refine thn (T.done X' rfl rfl rfl hc i [] s' σ' H' _ I' (fpok rfl fn') tni (i2 e)) fun r s1 ⟨hr, I1⟩ => ?_
      subst hr
      rw [List.drop_eq_nil_of_le (by omega)] at o'
      have o1 : eComp m fi fg p f δ = .ok (.ow (.lst (rs ++ []))) := o'
      rw [List.append_nil] at o1
      obtain ⟨mm, hnm, _⟩ := I1.loc
      have Iout : Inv X pins σ H' s1 := I3.call' (s' := s1) (ch := fp) I1.os I1.base I1.hok I1.bare fun b hb => by
        obtain ⟨f0, f1', f2', f3, f4, f5⟩ := f2 b hb
        exact ⟨f3, f1', f4, f5⟩
      exact hRR Da C s1 G2 H2 G' H' vs rs o1 Iout ⟨mm, hnm⟩ (I3.fpOk (by show hp3.objs.size ≤ C; omega) I1.free) hz2 st hfD hD gD rl
  exact codeAny_compStart_list (loop _ I4 stn) (T.self X.A 0 _ _ _ stn (loop _ I4 stn))
theorem comp_block {elt iter tg : Expr} {ifs : List Expr} {scope : Scope} {N' : List Str} {fi : FI} {fg : FGc} {p : FT} {f : FE} {m : Nat} (hx0 : ∀ e s, ¬ X.xe e s) (hc : X.calm = true) (hi : ID X EXS0 tg iter fi) (hk : scope.kind = .function) (hb : compB scope.names X.env.scope.names X.N N' = true)
    (hm : N'.length = X.N.length + m)
    (hin : ∀ C s0 H0 fp pn, GC (compCx X scope (clOf X.env.cells scope.names []) N' C s0 H0 fp pn) EXS0 tg fg ∧ CTs (compCx X scope (clOf X.env.cells scope.names []) N' C s0 H0 fp pn) EXS0 ifs p ∧ ED (compCx X scope (clOf X.env.cells scope.names []) N' C s0 H0 fp pn) EXS0 elt f)
    {pins : List (Addr × Obj)} {s : Shared} {σ : Sg} {G H : Hp} {δ : DE} (I : Inv X pins σ H s) (g0 : Same G H) (h0 : HasS X.K G σ δ) {RR : Value → Addr → Result → Shared → Prop}
    (o : match eComp m fi fg p f δ with | .ok _ => True | .ex x => False | .no => False)
    (hRR : ∀ (Da C : Addr) (s1 : Shared) (G' H' : Hp) (vs : List V) (rs : List D), eComp m fi fg p f δ = .ok (.ow (.lst rs)) → Inv X pins σ H' s1 → (∃ m, s1.heap.Ns C m) → FpOk X pins H' C → Step G H G' H' → H Da = none → H' Da = some (.lst vs) → G' Da = none → HasL X.K G' vs rs → RR (.ref Da) C (.ok .next) s1) :
    wpAny (model X.prog X.w) X.A (eval iter X.env) (fun x s₁ => wpAny (model X.prog X.w) X.A (pyIter x) (fun it s₂ => wpAny (model X.prog X.w) X.A (newList []) (fun acc s₃ =>
      wpAny (model X.prog X.w) X.A (newFunctionEnv scope X.env.globals (clOf X.env.cells scope.names []) [] X.env.qual none .none (some X.env)) (fun cenv s₄ =>
        codeAny (model X.prog X.w) X.A (.compStart (.ListComp elt [⟨tg, iter, ifs, 0⟩] scope pos) 0 it acc { cenv with scope := relabel scope X.env }) (RR acc cenv.locals) s₄) X.xe s₃) X.xe s₂) X.xe s₁) X.xe s := by
  refine comp_core hx0 hc hk hb hm hin I (Z := fun G2 H2 => Step G H G2 H2) (fun G2 H2 z => ⟨z.gh, h0.mono z.gg⟩) ?_ o fun Da C s1 G2 H2 G' H' vs rs e Io hm' fc z st h1 h2 h3 rl => hRR Da C s1 G' H' vs rs e Io hm' fc (z.trans st) (z.hh.free h1) h2 h3 rl
  refine wpAny_mono (hi pins s σ H (fun J H2 => ∃ ds G2, fi δ = .ok ds ∧ Step G H G2 H2 ∧ ItD X.K G2 J ds) I ⟨G, δ, g0, h0, ?_⟩) (fun xv s₁ h₁ => wpAny_mono h₁ (fun itv s₂ h₂ => ?_) fun _ _ e => (hx0 _ _ e).elim) fun _ _ e => (hx0 _ _ e).elim
  · unfold eComp at o
    cases e : fi δ with
    | ok ds => exact fun J G2 H2 st it => ⟨ds, G2, rfl, st, it⟩
    | ex x => rw [e] at o; exact o
    | no => rw [e] at o; exact o
  · obtain ⟨it, fp, tn, J, H2, rfl, I2, T, st2, f2, ds, G2, e2, stp, itd⟩ := h₂
    exact ⟨it, fp, tn, J, H2, ds, G2, rfl, I2, T, st2, f2, e2, stp, itd⟩
theorem ed_comp0 {elt iter tg : Expr} {ifs : List Expr} {scope : Scope} {N' : List Str} {fi : FI} {fg : FGc} {p : FT} {f : FE} {m : Nat} (hx0 : ∀ e s, ¬ X.xe e s) (hc : X.calm = true) (hi : ID X EXS0 tg iter fi) (hk : scope.kind = .function) (hb : compB scope.names X.env.scope.names X.N N' = true)
    (hm : N'.length = X.N.length + m)
    (hin : ∀ C s0 H0 fp pn, GC (compCx X scope (clOf X.env.cells scope.names []) N' C s0 H0 fp pn) EXS0 tg fg ∧ CTs (compCx X scope (clOf X.env.cells scope.names []) N' C s0 H0 fp pn) EXS0 ifs p ∧ ED (compCx X scope (clOf X.env.cells scope.names []) N' C s0 H0 fp pn) EXS0 elt f)
    (hs : ∀ x, foldedSetIterable iter X.env x = pure x := by intro _; rfl) : ED X EXS0 (.ListComp elt [⟨tg, iter, ifs, 0⟩] scope pos) (eComp m fi fg p f) := by
  intro pins s σ H Q I q
  obtain ⟨G, δ, g0, h0, o⟩ := q
  rw [eval_ListComp]
  have n := compN_mk I.ok hk hb
  refine wpAny_comprehension_free (use := none) rfl hs n.clos n.kind n.names (comp_block (RR := fun acc C => compPost (model X.prog X.w) X.A X.xe none (EP X pins σ Q) acc C) hx0 hc hi hk hb hm hin I g0 h0 ?_ fun Da C s1 G' H' vs rs e Io hm' fc st h1 h2 h3 rl => ?_)
  · cases e : eComp m fi fg p f δ with
    | ok w => trivial
    | ex x => rw [e] at o; exact o
    | no => rw [e] at o; exact o
  · rw [e] at o
    obtain ⟨mm, hnm⟩ := hm'
    obtain ⟨c0, c1, c2, c3, c4, c5⟩ := fc
    exact ⟨mm, hnm, fun h' sb => ⟨.ref Da, H', Io.turned (t' := s1.toks) (fun b ob hb e => (sb.2 b hb).trans e) c0 c1 c3 c4 c5, rfl, o (.ref Da) (fun b => b = Da) G' H' st (fun a e => by subst e; exact ⟨h1, h3, by rw [h2]; simp⟩) (.list h2 rfl rl)⟩⟩
theorem ed_comp {elt iter tg : Expr} {ifs : List Expr} {scope : Scope} {N' : List Str} {fi : FI} {fg : FGc} {p : FT} {f : FE} {m : Nat} (hc : X.calm = true) (hi : ID X.nox EXS0 tg iter fi) (hk : scope.kind = .function) (hb : compB scope.names X.env.scope.names X.N N' = true)
    (hm : N'.length = X.N.length + m)
    (hin : ∀ C s0 H0 fp pn, GC (compCx X scope (clOf X.env.cells scope.names []) N' C s0 H0 fp pn) EXS0 tg fg ∧ CTs (compCx X scope (clOf X.env.cells scope.names []) N' C s0 H0 fp pn) EXS0 ifs p ∧ ED (compCx X scope (clOf X.env.cells scope.names []) N' C s0 H0 fp pn) EXS0 elt f)
    (hs : ∀ x, foldedSetIterable iter X.env x = pure x := by intro _; rfl) : ED X EX (.ListComp elt [⟨tg, iter, ifs, 0⟩] scope pos) (eComp m fi fg p f) :=
  PE.imp (PE.nox (ed_comp0 (X := X.nox) (fun _ _ z => z) hc hi hk hb hm hin hs)) fun σ H Q ⟨G, δ, g0, h0, o⟩ => by
    refine ⟨G, δ, g0, h0, ?_⟩
    cases e : eComp m fi fg p f δ with
    | ok w => rw [e] at o; exact o
    | ex x => exact (eComp_no e).elim
    | no => rw [e] at o; exact o
theorem PS.nox {st : Stmt} {t : TS} (h : PS X.nox st t) : PS X st t := fun pins s σ H D I hw =>
  wpAny_mono (h pins s σ H D (I.wish _) hw) (fun _ _ q => q.unwish) fun _ _ z => False.elim z
end
end L3

namespace L3
open PySem PySem.Spec PyProof.Rows L2
theorem boot_bool : bootBuiltins "bool" = some (.type "bool") := by decide +kernel
theorem room_comp {X : Cx} {k : Nat} {scope : Scope} {cl : List (Str × Addr)} {N' : List Str} {C : Addr} {s0 : Shared} {H0 : Hp} {fp : List Addr} {pn : List (Addr × Obj)} {c : Bool} (h : RoomC c k (Cx.A X)) : RoomC c k (Cx.A (compCx X scope cl N' C s0 H0 fp pn)) := h
theorem calm_comp {X : Cx} {scope : Scope} {cl : List (Str × Addr)} {N' : List Str} {C : Addr} {s0 : Shared} {H0 : Hp} {fp : List Addr} {pn : List (Addr × Obj)} (h : Cx.calm X = true) : Cx.calm (compCx X scope cl N' C s0 H0 fp pn) = true := h
section
variable {X : Cx} {EX : EXS} {a b e : Expr} {es : List Expr} {f g : FE} {fa : FA} {pos p2 : Pos}

noncomputable abbrev FO := DE → R (Option Int)
noncomputable def tDo (K : PySem.W.Frag) (EX : EXS) (fo : FO) : TO := fun σ H Q => ∃ G δ, Same G H ∧ HasS K G σ δ ∧ match fo δ with
  | .ok i => ∀ G' H', Step G H G' H' → Q i H'
  | .ex x => (EX σ).p x G H
  | .no => False
noncomputable abbrev OD (X : Cx) (EX : EXS) (e : Option Expr) (fo : FO) : Prop := PO X e (tDo X.K EX fo)
noncomputable def oNone : FO := fun _ => .ok none
noncomputable def intPart : D → R (Option Int)
  | .int i => .ok (some i)
  | _ => .no
noncomputable def oSome (f : FE) : FO := fun δ => (f δ).bind fun w => intPart w.d
theorem PO.imp {X : Cx} {e : Option Expr} {t t' : TO} (h : PO X e t) (i : ∀ σ H Q, t' σ H Q → t σ H Q) : PO X e t' := fun pins s σ H Q I q => h pins s σ H Q I (i σ H Q q)
theorem od_none : OD X EX none oNone := PO.imp po_none fun σ H Q ⟨G, δ, g, s, o⟩ => o G H (Step.refl g)
theorem od_some (h : ED X EX e f) : OD X EX (some e) (oSome f) := PO.imp (po_some h) fun σ H Q ⟨G, δ, g, s, o⟩ => by
  refine ⟨G, δ, g, s, ?_⟩
  unfold oSome at o
  cases e1 : f δ with
  | ok w =>
    rw [e1] at o
    simp only [R.bind_ok] at o
    refine WP.intro fun v G' H' st r => ?_
    revert r o
    cases w.d with
    | int i => intro o r; cases r; exact ⟨i, rfl, o G' H' st⟩
    | _ => intro o _; exact False.elim o
  | ex x => rw [e1] at o; exact o
  | no => rw [e1] at o; exact o
noncomputable def cutL {α : Type} (xs : List α) (lo hi : Option Int) : List α := (xs.drop (HT.sIx xs.length 0 lo)).take (HT.sIx xs.length xs.length hi - HT.sIx xs.length 0 lo)
noncomputable def sliceD : D → Option Int → Option Int → R W
  | .lst ds, lo, hi => .ok (.ow (.lst (cutL ds lo hi)))
  | .str x, lo, hi => if x.length ≤ 16777216 then .ok (.sh (.str (Txt.slice x lo hi))) else .no
  | _, _, _ => .no
theorem sl_str : SlR X (fun x lo hi H Q => ∃ z, x = .str z ∧ z.length ≤ sizeLine ∧ Q (.str (Txt.slice z lo hi)) H) := by
  intro pins s σ H x v vl vu lo hi sl Q I rx hs pl pu h
  obtain ⟨z, rfl, hz, q⟩ := h
  obtain ⟨t, rfl⟩ := rx
  refine ⟨"str", _, PySem.F.slot_str_getitem.lookup, typeIs_str _ _ _, ?_⟩
  obtain ⟨o, ho, hc, hd⟩ := hs
  have fin : ∀ t' k, EP X pins σ Q (.str (Txt.slice z lo hi) t') { s with toks := k } := fun t' k => ⟨.str _, H, I.tok _, ⟨_, rfl⟩, q⟩
  cases pl with
  | none =>
    cases pu with
    | none => exact wpAny_getItem_str_slice (l := none) (u := none) (st := none) ⟨o, ho, hc, hd⟩ rfl (post_val_or_str ⟨Nat.le_trans (Txt.slice_le z _ _) hz, fin⟩)
    | int j uj => exact wpAny_getItem_str_slice (l := none) (u := some (j, uj)) (st := none) ⟨o, ho, hc, hd⟩ rfl (post_val_or_str ⟨Nat.le_trans (Txt.slice_le z _ _) hz, fin⟩)
  | int i ui =>
    cases pu with
    | none => exact wpAny_getItem_str_slice (l := some (i, ui)) (u := none) (st := none) ⟨o, ho, hc, hd⟩ rfl (post_val_or_str ⟨Nat.le_trans (Txt.slice_le z _ _) hz, fin⟩)
    | int j uj => exact wpAny_getItem_str_slice (l := some (i, ui)) (u := some (j, uj)) (st := none) ⟨o, ho, hc, hd⟩ rfl (post_val_or_str ⟨Nat.le_trans (Txt.slice_le z _ _) hz, fin⟩)
noncomputable def rSlD (K : PySem.W.Frag) : V → Option Int → Option Int → Hp → VK → Prop := fun x lo hi H Q => ∃ (EX : EXT) (G : Hp) (d : D), Same G H ∧ Has K G x d ∧ Out K EX G H (sliceD d lo hi) Q
theorem sl_d : SlR X (rSlD X.K) := by
  intro pins s σ H x v vl vu lo hi sl Q I rx hs pl pu h
  obtain ⟨EX, G, d, g, r, o⟩ := h
  cases r with
  | lst h r =>
    rename_i vs ds
    refine sl_list pins s σ H _ v vl vu lo hi sl Q I rx hs pl pu ⟨_, _, rfl, g.seq h, fun p hp => ?_⟩
    have hcut : HasL X.K G (cutV vs lo hi) (cutL ds lo hi) := by
      unfold cutV cutL
      rw [r.length]
      exact (r.drop _).take _
    exact out_own o g hcut p hp
  | str z =>
    simp only [sliceD] at o
    split at o
    · rename_i hz
      exact sl_str pins s σ H _ v vl vu lo hi sl Q I rx hs pl pu ⟨z, rfl, by rw [sizeLine_eq]; exact hz, out_sh o g (.str _)⟩
    · exact o.elim
  | _ => exact False.elim o
noncomputable def eSlice (f : FE) (lo hi : FO) : FE := fun δ => (f δ).bind fun w => (lo δ).bind fun l => (hi δ).bind fun u => sliceD w.d l u
theorem tDo.seq {K : PySem.W.Frag} {G H : Hp} {σ : Sg} {δ : DE} {fo : FO} {k : Option Int → R W} {Q : VK} {P : Option Int → Hp → Prop} (g : Same G H) (s : HasS K G σ δ) (h : Out K (EX σ) G H ((fo δ).bind k) Q)
    (i : ∀ b G' H', fo δ = .ok b → Step G H G' H' → Out K (EX σ) G' H' (k b) Q → P b H') : tDo K EX fo σ H P := by
  refine ⟨G, δ, g, s, ?_⟩
  cases e : fo δ with
  | ok w => rw [e] at h; exact fun G' H' st => i w G' H' e st (Out.mono st h)
  | ex x => rw [e] at h; exact h
  | no => rw [e] at h; exact h
theorem ed_slice {lo hi : Option Expr} {fl fh : FO} (he : ED X EX e f) (hl : OD X EX lo fl) (hu : OD X EX hi fh) : ED X EX (.Subscript e (.Slice lo hi none p2) pos) (eSlice f fl fh) :=
  PE.imp (pe_slice sl_d he hl hu) fun σ H Q ⟨G, δ, g0, s0, o⟩ => tD.seq g0 s0 o fun w v G1 H1 _ st1 r1 o1 => tDo.seq st1.gh (s0.mono st1.gg) o1 fun l G2 H2 _ st2 o2 =>
    tDo.seq st2.gh (s0.mono (st1.gg.trans st2.gg)) o2 fun u G3 H3 _ st3 o3 => ⟨_, G3, w.d, st3.gh, r1.mono (st2.gg.trans st3.gg), o3⟩

noncomputable def tyD (T : String) : D → Bool
  | .str _ => T == "str"
  | .int _ => T == "int"
  | .lst _ => T == "list"
  | _ => false
theorem tyD_V {K : PySem.W.Frag} {G H : Hp} {T : String} {v : V} {d : D} (g : Same G H) (r : Has K G v d) (h : tyD T d = true) : tyV K T v H := by
  cases r with
  | str x => exact eq_of_beq h
  | int i => exact eq_of_beq h
  | lst hq r => exact .inl ⟨eq_of_beq h, _, g.seq hq⟩
  | _ => cases h
noncomputable def rDm (K : PySem.W.Frag) (fn : D → List D → R W) : V → List V → Hp → VK → Prop := fun x vs H Q => ∃ (EX : EXT) (G : Hp) (d : D) (ds : List D), Same G H ∧ Has K G x d ∧ HasL K G vs ds ∧ Out K EX G H (fn d ds) Q
noncomputable abbrev MtD (X : Cx) (id : String) (fn : D → List D → R W) : Prop := MtR X id (rDm X.K fn)
noncomputable def eMeth (T : String) (fn : D → List D → R W) (f : FE) (fa : FA) : FE := fun δ => (f δ).bind fun w => if tyD T w.d = true then (fa δ).bind fun ds => fn w.d ds else .no
variable {o : Expr} {name : Str} {apos cpos : Pos} {T id : String} {fn : D → List D → R W}
theorem ed_meth (pa : PlainAttrs T) (slot : Slot T name id) (hty : typeOf (.builtin id) = pure (.type "method_descriptor")) (hm : MtD X id fn) (ho : ED X EX o f) (ha : AD X EX (e :: es) fa)
    (hbase : attributeBase o name X.env (eval o X.env) = eval o X.env := by rfl)
    (hfew : ((backTo cpos (starEach (e :: es) X.env)).all (fun x => !x.1) && (backToKw cpos (keywordEach [] X.env)).all (fun x => x.1.isSome)
      && decide ((e :: es).length + ([] : List Keyword).length + (if ([] : List Keyword).isEmpty then 0 else 1) < 30)) = true := by rfl)
    (hline : (apos.endLine == cpos.line) = true := by rfl) (hs : starEach (e :: es) X.env = (false, eval e X.env) :: starEach es X.env := by rfl) (hplain : (backTo cpos (starEach es X.env)).any (·.1) = false := by rfl) :
    ED X EX (.Call (.Attribute o name apos) (e :: es) [] cpos) (eMeth T fn f fa) :=
  PE.imp (pe_bm pa slot hty hm ho ha hbase hfew hline hs hplain) fun σ H Q ⟨G, δ, g0, s0, o⟩ => tD.seq g0 s0 o fun w v G1 H1 _ st1 r1 o1 => by
    split at o1
    · rename_i ht
      exact ⟨tyD_V st1.gh r1 ht, tDa.seq st1.gh (s0.mono st1.gg) o1 fun ds vs G2 H2 _ st2 r2 o2 => ⟨_, G2, w.d, ds, st2.gh, r1.mono st2.gg, r2, o2⟩⟩
    · exact o1.elim
noncomputable def eMeth0 (T : String) (fn : D → List D → R W) (f : FE) : FE := fun δ => (f δ).bind fun w => if tyD T w.d = true then fn w.d [] else .no
noncomputable def strsD : List D → Option (List Str)
  | [] => some []
  | .str x :: ds => (strsD ds).map (x :: ·)
  | _ => none
theorem strs_are {K : PySem.W.Frag} {G : Hp} : ∀ {vs : List V} {ds : List D} {us : List Value} {ys : List Str}, HasL K G vs ds → Vals vs us → strsD ds = some ys → StrsAre us ys
  | _, _, _, _, .nil, r, e => by cases r; cases e; exact .nil
  | _, _, _, _, .cons h t, r, e => by
    cases r with
    | cons r1 r2 =>
      cases h with
      | str x =>
        obtain ⟨t', rfl⟩ := r1
        simp only [strsD] at e
        obtain ⟨zs, q, rfl⟩ := Option.map_eq_some_iff.mp e
        exact .cons x t' (strs_are t r2 q)
      | _ => cases e
noncomputable def joinS : D → List D → R W
  | .str x, [.lst ds] => match strsD ds with
    | some ys => if (ys.map (·.length)).sum + ys.length * x.length ≤ 16777216 then .ok (.sh (.str (Txt.join x ys))) else .no
    | none => .no
  | _, _ => .no
theorem mt_joinS : MtD X "str.join" joinS := by
  intro pins s σ H x vs v us Q I rx rv h
  obtain ⟨EX, G, d, ds, g, r, rl, o⟩ := h
  cases r with
  | str x =>
    cases rl with
    | nil => exact False.elim o
    | cons a t =>
      cases t with
      | cons _ _ => cases a <;> exact False.elim o
      | nil =>
        cases a with
        | lst h r =>
          obtain ⟨t, rfl⟩ := rx
          obtain ⟨u, rfl, ru⟩ := rv.one
          cases ru
          simp only [joinS] at o
          split at o
          · rename_i ys e
            split at o
            · rename_i hz
              obtain ⟨its, rv', pl, _⟩ := I.list (g.seq h)
              exact join_list pl.isList (by simpa using strs_are r rv' e) hz fun t' k => ⟨.str _, H, I.tok _, ⟨_, rfl⟩, out_sh o g (.str _)⟩
            · exact o.elim
          · exact o.elim
        | _ => exact False.elim o
  | _ => cases rl <;> exact False.elim o

noncomputable def isT (T : String) : D → Option Bool
  | .non => some false
  | .bl _ => some (T == "bool" || T == "int")
  | .int _ => some (T == "int")
  | .str _ => some (T == "str")
  | .lst _ => some (T == "list")
  | .tup _ => some (T == "tuple")
  | _ => none
noncomputable def eIs (T : String) (f : FE) : FE := fun δ => (f δ).bind fun w => match isT T w.d with
  | some k => .ok (.sh (.bl k))
  | none => .no
structure KitT (K : PySem.W.Frag) (T : String) : Prop where
  non : PySem.W.kitOne K (.type "NoneType") (.type T) = some false
  bl : PySem.W.kitOne K (.type "bool") (.type T) = some (T == "bool" || T == "int")
  int : PySem.W.kitOne K (.type "int") (.type T) = some (T == "int")
  str : PySem.W.kitOne K (.type "str") (.type T) = some (T == "str")
  lst : PySem.W.kitOne K (.type "list") (.type T) = some (T == "list")
  tup : PySem.W.kitOne K (.type "tuple") (.type T) = some (T == "tuple")
theorem call_isT {T : String} (k : KitT X.K T) : CallR X (.builtin "isinstance") (fun xs H Q => ∃ G x d b, xs = [x, .ty T] ∧ Same G H ∧ Has X.K G x d ∧ isT T d = some b ∧ Q (.bl b) H) := by
  intro pins s σ H xs us Q I rv h
  obtain ⟨G, x, d, b, rfl, g, r, e, q⟩ := h
  obtain ⟨u, u2, rfl, r1, r2⟩ := rv.two
  cases r2
  have fin : ∀ tk, EP X pins σ Q (.bool b) { s with toks := tk } := fun tk => ⟨.bl b, H, I.tok _, rfl, q⟩
  cases r with
  | non => cases r1; exact PySem.W.kia_one PySem.W.kitx_none I.kIn True.intro (k.non.trans e) (fun z => nomatch z) fin
  | bl y => cases r1; exact PySem.W.kia_one PySem.W.kitx_bool I.kIn True.intro (k.bl.trans e) (fun z => nomatch z) fin
  | int i => obtain ⟨t, rfl⟩ := r1; exact PySem.W.kia_one PySem.W.kitx_int I.kIn True.intro (k.int.trans e) (fun z => nomatch z) fin
  | str y => obtain ⟨t, rfl⟩ := r1; exact PySem.W.kia_one PySem.W.kitx_str I.kIn True.intro (k.str.trans e) (fun z => nomatch z) fin
  | lst h r =>
    cases r1
    obtain ⟨its, _, ⟨ob, n, e1, c, _, _⟩, _⟩ := I.list (g.seq h)
    exact PySem.W.kia_one PySem.W.kitx_list I.kIn ⟨ob, e1, c⟩ (k.lst.trans e) (fun z => nomatch z) fin
  | tup h r =>
    cases r1
    obtain ⟨its, _, ⟨ob, e1, c, _⟩, _⟩ := I.tuple (Same.tupS g h)
    exact PySem.W.kia_one PySem.W.kitx_tuple I.kIn ⟨ob, e1, c⟩ (k.tup.trans e) (fun z => nomatch z) fin
  | exn0 _ _ => cases e
  | exn1 _ _ _ _ _ => cases e
  | dic _ _ _ => cases e
  | obj _ _ _ _ => cases e
theorem ed_isT {Tn : Str} {T : String} {pp p3 : Pos} (k : KitT X.K T) (ha : ED X EX a f) (hm : X.mg "isinstance" = none) (hmT : X.mg Tn = none) (hvT : bootBuiltins Tn = some (.type T)) (hg : Gl X "isinstance" := by rfl) (hgT : Gl X Tn := by rfl)
    (hn : Tn ≠ "__name__" := by decide) (hdT : (Tn == ("__debug__" : Str)) = false := by decide)
    (he : starEach [a, .Name Tn p3] X.env = (false, eval a X.env) :: starEach [.Name Tn p3] X.env := by rfl) (hpl : (backTo pos (starEach [.Name Tn p3] X.env)).any (·.1) = false := by rfl)
    (hs : starEach [.Name Tn p3] X.env = (false, eval (.Name Tn p3) X.env) :: starEach [] X.env := by rfl) : ED X EX (.Call (.Name "isinstance" pp) [a, .Name Tn p3] [] pos) (eIs T f) :=
  PE.imp (pe_callB (call_isT k) hg hm boot_isinstance (pa_cons ha (pa_cons (pe_bltn (v := .ty T) hgT hmT hvT rfl hn hdT) pa_nil hs) he) (by decide) (by decide) he hpl) fun σ H Q ⟨G, δ, g0, s0, o⟩ => tD.seq g0 s0 o fun w v G1 H1 _ st1 r1 o1 => by
    split at o1
    · rename_i b e
      exact ⟨G1, v, w.d, b, rfl, st1.gh, r1, e, out_sh o1 st1.gh (.bl b)⟩
    · exact o1.elim
end

noncomputable def spLaw3 (K : PySem.W.Frag) : Sp := fun vs H Q _ => ∃ (a : Addr) (ns : List Int), vs = [.ref a] ∧ SqL K H a (ns.map V.int) ∧ ns.length ≤ 63 ∧ ∀ H', Q (.bl true) H'
theorem hasInts {K : PySem.W.Frag} {G : Hp} : ∀ ns : List Int, HasL K G (ns.map V.int) (ns.map D.int)
  | [] => .nil
  | n :: ns => .cons (.int n) (hasInts ns)
theorem law_of {P : Program} {w : World} {K : PySem.W.Frag} {mg : Str → Option Value} {base : Heap} {k : Nat} {f : Addr} {fd : FuncData} {x : Str} {F : List D → R W} (h : FnX P w K mg base true k f fd [x] (spX K 1 F))
    (hF : ∀ ns : List Int, ns.length ≤ 63 → ∃ v, F [.lst (ns.map D.int)] = .ok v ∧ v.d = .bl true) : FnOk P w K mg base CX0 k f fd [x] (spLaw3 K) := by
  have hs : ∀ vs H Q E, spLaw3 K vs H Q E → spX K 1 F vs H Q fun _ _ _ => False := fun vs H Q E q => by
    obtain ⟨a, ns, rfl, hS, hl, q⟩ := q
    obtain ⟨v, e, ev⟩ := hF ns hl
    refine ⟨rfl, H, [.lst (ns.map D.int)], Same.refl _, .cons (.lst hS (hasInts ns)) .nil, ?_⟩
    rw [e]
    refine WP.intro fun u G' H' st r => ?_
    rw [ev] at r
    cases r
    exact q H'
  refine ⟨fun vs H Q E q => (hs vs H Q E q).1, fun A outer s H args us vs Q E hr e0 hb hv q => codeAny_mono (h.run A outer s H args us vs Q _ (RoomC.of hr) e0 hb hv (hs vs H Q E q)) fun r s' hq => ?_⟩
  cases r with
  | error e =>
    obtain ⟨a, C, dx, T, H', _, _, _, _, _, _, _, _, _, _, z⟩ := hq
    exact z
  | ok fl => cases fl <;> exact hq
theorem walk3 {l : PySem.W.OpenLaw} {q : Program} {loose : List Str} {XP : (Str → Option Value) → Heap → Prop} {YP : World → Heap → Prop} {d : DefRec} {K : Params → PySem.W.Frag} {x : Str} {k : Nat} (hn : l.most = some 63) (hdf : d.params.defaults = []) (hr : Room k callerA)
    (hY : ∀ (w : World) (h : Heap), YP w h → (K w.params).In h)
    (F : ∀ (w : World) (mg : Str → Option Value) (fa : Addr) (h : Heap), (K w.params).In h → h.Ns mainGlobals mg → mg d.name = some (.ref fa) →
      ∃ fd : FuncData, (∀ (s : Shared) (u : Value), BindsTo s fd ⟨[u], []⟩ [(x, u)]) ∧ ∀ base : Heap, (K w.params).In base → base.Ns mainGlobals mg → FnOk l.prog w (K w.params) mg base CX0 k fa fd [x] (spLaw3 (K w.params))) :
    PySem.W.WalkO q loose XP YP l.row.toRowW d [] (fun f vs => PySem.call f vs) :=
  L2.walk_of (n := 63) (k := k) (x := x) (CX := fun _ => CX0) (sp := fun w => spLaw3 (K w.params)) hn (by decide) hdf hr hY F (fun _ _ a ns hl _ hS => ⟨a, ns, rfl, hS, hl, fun _ => rfl⟩) fun _ _ _ _ _ z => z
end L3

namespace L3
open PySem PySem.Spec PyProof.Rows L2
theorem Inv.pair {X : Cx} {pins : List (Addr × Obj)} {σ : Sg} {H : Hp} {s : Shared} {e it : Addr} {h' : Heap} {tk : Nat} {its : List Value} {vs : List V} (I : Inv X pins σ H s) (fe : FpOk X pins H e) (fi : FpOk X pins H it)
    (k : ∀ b o, b ≠ e → b ≠ it → s.heap.get? b = some o → h'.get? b = some o) (he : ∃ o, h'.get? e = some o) (hi : ∃ o, h'.get? it = some o) (ht : h'.get? s.heap.objs.size = some { cls := .type "tuple", data := .seq its.toArray }) (rv : Vals vs its) (hz : vs.length ≤ sizeLine) :
    Inv X pins σ (upd H s.heap.objs.size (.tup vs)) { s with heap := h', toks := tk } := by
  have hn : H s.heap.objs.size = none := I.hok.fresh (Nat.le_refl _)
  obtain ⟨e0, e1, e2, e3, e4, e5⟩ := fe
  obtain ⟨i0, i1, i2, i3, i4, i5⟩ := fi
  have neH : ∀ b u, H b = some u → b ≠ e ∧ b ≠ it := fun b u q => ⟨fun z => (by rw [z, e0] at q; cases q), fun z => (by rw [z, i0] at q; cases q)⟩
  have lt : ∀ b o, s.heap.get? b = some o → b ≠ s.heap.objs.size := fun b o q => Nat.ne_of_lt (Heap.lt_size q)
  refine I.step (g' := s.gens) (d' := s.drawn) (ch := [e, it]) (fun b hb => ?_) (fun b o _ _ hc q _ => k b o (fun z => hc (by simp [z])) (fun z => hc (by simp [z])) q)
    (fun b o _ _ hc q _ => ⟨o.slots, k b o (fun z => hc (by simp [z])) (fun z => hc (by simp [z])) q⟩) (fun b o _ q n => by rw [upd_ne (lt b o q)]; exact n) (fun b o hc q => ⟨o, k b o (fun z => hc (by simp [z])) (fun z => hc (by simp [z])) q⟩)
    (fun b xs q => by rw [upd_ne (ne_of_none q hn)]; exact q) (fun b o u q => by rw [upd_ne (ne_of_none q hn)]; exact q) (fun b ps q => ⟨#[], by rw [upd_ne (ne_of_none q hn), q]; simp⟩) (fun m hm => ?_) (fun b u q => ?_) I.bare
  · have hb' : b = e ∨ b = it := by simpa using hb
    rcases hb' with rfl | rfl
    · exact ⟨e3, e1, e4, e5⟩
    · exact ⟨i3, i1, i4, i5⟩
  · obtain ⟨o, es, ep, ho, r⟩ := hm
    exact ⟨o, es, ep, k _ o (Ne.symm e1) (Ne.symm i1) ho, r⟩
  · by_cases z : b = s.heap.objs.size
    · subst z
      rw [upd_same] at q
      cases q
      exact ⟨hz, its, rv, ⟨_, ht, rfl, 0, rfl⟩⟩
    · rw [upd_ne z] at q
      refine (I.hok b u q).stay (fun c v hc r => ?_) (fun c r => by rw [upd_ne (ne_of_none r hn)]; exact r) fun c xs r => by rw [upd_ne (ne_of_none r hn)]; exact r
      rcases hc with rfl | hc
      · exact k c v (neH c u q).1 (neH c u q).2 r
      · exact k c v (neH c _ hc).1 (neH c _ hc).2 r
theorem Inv.turned2 {X : Cx} {pins : List (Addr × Obj)} {σ : Sg} {H : Hp} {s : Shared} {e it : Addr} {h' : Heap} {tk : Nat} (I : Inv X pins σ H s) (fe : FpOk X pins H e) (fi : FpOk X pins H it)
    (k : ∀ b o, b ≠ e → b ≠ it → s.heap.get? b = some o → h'.get? b = some o) : Inv X pins σ H { s with heap := h', toks := tk } := by
  obtain ⟨e0, e1, e2, e3, e4, e5⟩ := fe
  obtain ⟨i0, i1, i2, i3, i4, i5⟩ := fi
  have neH : ∀ b u, H b = some u → b ≠ e ∧ b ≠ it := fun b u q => ⟨fun z => (by rw [z, e0] at q; cases q), fun z => (by rw [z, i0] at q; cases q)⟩
  refine I.step (g' := s.gens) (d' := s.drawn) (ch := [e, it]) (fun b hb => ?_) (fun b o _ _ hc q _ => k b o (fun z => hc (by simp [z])) (fun z => hc (by simp [z])) q)
    (fun b o _ _ hc q _ => ⟨o.slots, k b o (fun z => hc (by simp [z])) (fun z => hc (by simp [z])) q⟩) (fun b o _ q n => n) (fun b o hc q => ⟨o, k b o (fun z => hc (by simp [z])) (fun z => hc (by simp [z])) q⟩)
    (fun b xs q => q) (fun b o u q => q) (fun b ps q => ⟨#[], by rw [q]; simp⟩) (fun m hm => ?_) (fun b u q => ?_) I.bare
  · have hb' : b = e ∨ b = it := by simpa using hb
    rcases hb' with rfl | rfl
    · exact ⟨e3, e1, e4, e5⟩
    · exact ⟨i3, i1, i4, i5⟩
  · obtain ⟨o, es, ep, ho, r⟩ := hm
    exact ⟨o, es, ep, k _ o (Ne.symm e1) (Ne.symm i1) ho, r⟩
  · refine (I.hok b u q).stay (fun c v hc r => ?_) (fun c r => r) fun c xs r => r
    rcases hc with rfl | hc
    · exact k c v (neH c u q).1 (neH c u q).2 r
    · exact k c v (neH c _ hc).1 (neH c _ hc).2 r
noncomputable def enL (K : PySem.W.Frag) (l : Addr) : It :=
  ⟨fun i H => ∃ xs x, SqL K H l xs ∧ xs[i]? = some x, fun i H v H' => ∃ p, H p = none ∧ v = .ref p ∧ ∀ xs x, SqL K H l xs → xs[i]? = some x → H' = upd H p (.tup [.int (i : Int), x]), fun i H => ∃ xs, SqL K H l xs ∧ xs.length = i⟩
noncomputable def enS (z : Str) : It :=
  ⟨fun i _ => i < z.cps.size, fun i H v H' => ∃ p c, H p = none ∧ v = .ref p ∧ z.cps[i]? = some c ∧ H' = upd H p (.tup [.int (i : Int), .str ⟨#[c]⟩]), fun i _ => i = z.cps.size⟩
theorem turn_enL {P : Program} {w : World} {K : PySem.W.Frag} {elts : List Expr} {x1 : Nat} {pos : Pos} (e it l : Addr) (hei : e ≠ it) : Turn P w K (.Tuple elts x1 pos) (enL K l) [e, it] e (fun i h => (∃ old, IsEnum h e it (i : Int) old) ∧ h.IsListIter it l i) where
  mem := by simp
  obj := fun i h st b hb => by
    have hb' : b = e ∨ b = it := by simpa using hb
    rcases hb' with rfl | rfl
    · obtain ⟨⟨old, q⟩, _⟩ := st
      exact ⟨_, q, fun v z => by cases z⟩
    · obtain ⟨_, ⟨o, q, c, d⟩⟩ := st
      exact ⟨o, q, fun v z => by rw [d] at z; cases z⟩
  keep := fun i h h' st k => by
    obtain ⟨⟨old, q⟩, r⟩ := st
    exact ⟨⟨old, k e (by simp) _ q⟩, r.at fun o z => k it (by simp) o z⟩
  item := by
    intro X hP hw hK hc i pins s σ H E I hf st hg
    subst hP hw hK
    obtain ⟨xs, x, hq, hx⟩ := hg
    obtain ⟨its, rv, p, hz⟩ := I.list hq
    obtain ⟨u, hu, ru⟩ := rv.get hx
    obtain ⟨⟨old, he⟩, hit⟩ := st
    have fe := hf e (by simp)
    have fi := hf it (by simp)
    have pl := p.isList
    have nle : l ≠ e := fun z => by
      subst z
      obtain ⟨o, ho, hc', _⟩ := pl
      rw [show s.heap.get? l = _ from he] at ho
      cases ho
      exact absurd hc' (by simp)
    have nli : l ≠ it := fun z => by
      subst z
      obtain ⟨o, ho, hc', _⟩ := pl
      obtain ⟨o', ho', hc2, _⟩ := hit
      rw [ho] at ho'
      cases ho'
      rw [hc'] at hc2
      exact absurd hc2 (by simp)
    have hlt : i < its.toArray.size := by
      have := (List.getElem?_eq_some_iff.mp hu).1
      simpa using this
    refine wpAny_pyNext_enum_itemD (Draws.list (A := X.A.in1) (I.ok.hd hc) it l nli its.toArray) he ⟨hit, pl⟩ hlt hei (by simp [hei, Ne.symm nle]) fun y h' tk hy ho hst htup hsz kk => ?_
    have ey : y = u := by
      have : its.toArray[i]? = some u := by simpa using hu
      rw [this] at hy
      exact (Option.some.inj hy).symm
    subst ey
    refine ⟨_, rfl, wpAny_letOwnedTupleGo_enum ho fun h'' he'' sb => ?_⟩
    have hnext : ∃ old, IsEnum h'' e it ((i + 1 : Nat) : Int) old := ⟨_, by
      have e1 : ((i + 1 : Nat) : Int) = (i : Int) + 1 := by omega
      rw [e1]
      exact he''⟩
    refine ⟨.ref s.heap.objs.size, upd H s.heap.objs.size (.tup [.int (i : Int), x]), ?_, rfl, ⟨_, I.hok.fresh (Nat.le_refl _), rfl, fun ys y' hy' ey' => ?_⟩, ⟨hnext, ?_⟩, fun b hb => ?_⟩
    · have ne : s.heap.objs.size ≠ e := fun z => absurd (Heap.lt_size he) (by rw [← z]; exact Nat.lt_irrefl _)
      refine Inv.pair (its := [.int (i : Int) tk, y]) I fe fi (fun b o h1 h2 q => (sb.2 b h1).trans (kk b o h1 h2 q)) ⟨_, he''⟩ ?_ ((sb.2 _ ne).trans htup) (.cons ⟨_, rfl⟩ (.cons ru .nil)) (by show 2 ≤ sizeLine; decide)
      obtain ⟨⟨o, q, _⟩, _⟩ := hst
      exact ⟨o, (sb.2 it (Ne.symm hei)).trans q⟩
    · have := I.list_inj hy' hq
      subst this
      rw [hx] at ey'
      cases ey'
      rfl
    · exact hst.1.at fun o z => (sb.2 it (Ne.symm hei)).trans z
    · have hb' : b = e ∨ b = it := by simpa using hb
      have hbl : b < s.heap.objs.size := by
        rcases hb' with rfl | rfl
        · exact Heap.lt_size he
        · obtain ⟨o, q, _⟩ := hit; exact Heap.lt_size q
      rw [upd_ne (Nat.ne_of_lt hbl)]
      exact (hf b hb).1
  done := by
    intro X hP hw hK hc i pins s σ H E I hf st hg
    subst hP hw hK
    obtain ⟨xs, hq, hx⟩ := hg
    obtain ⟨its, rv, p, hz⟩ := I.list hq
    obtain ⟨⟨old, he⟩, hit⟩ := st
    have hl := rv.length
    have pl := p.isList
    have nli : l ≠ it := fun z => by
      subst z
      obtain ⟨o, ho, hc', _⟩ := pl
      obtain ⟨o', ho', hc2, _⟩ := hit
      rw [ho] at ho'
      cases ho'
      rw [hc'] at hc2
      exact absurd hc2 (by simp)
    have en : i = its.toArray.size := by simp; omega
    refine wpAny_pyNext_enum_endD (Draws.list (A := X.A.in1) (I.ok.hd hc) it l nli its.toArray) he (by rw [← en]; exact ⟨hit, pl⟩) fun h' eb => ⟨rfl, ?_⟩
    exact Inv.turned2 (tk := s.toks) I (hf e (by simp)) (hf it (by simp)) fun b o h1 h2 q => eb b o h2 q
  self := fun A i s Q E st h => by
    obtain ⟨⟨old, he⟩, _⟩ := st
    exact wpAny_pyIter_enum he h
theorem draws_str {prog : Program} {w : World} {A : Around} (hh : A.handled = none) (it : Addr) (x : Str) (t : Tok) :
    Draws prog w A it [it] x.cps.size (fun i v => ∃ c u, x.cps[i]? = some c ∧ v = .str ⟨#[c]⟩ u) (fun i h => h.IsStrIter it (strIterType x) x t i) := by
  unfold strIterType
  cases ha : x.cps.all (· < 128)
  · exact Draws.strWide hh it x t
  · exact Draws.strAscii hh it x t
theorem turn_enS {P : Program} {w : World} {K : PySem.W.Frag} {elts : List Expr} {x1 : Nat} {pos : Pos} (e it : Addr) (z : Str) (t : Tok) (hei : e ≠ it) : Turn P w K (.Tuple elts x1 pos) (enS z) [e, it] e (fun i h => (∃ old, IsEnum h e it (i : Int) old) ∧ h.IsStrIter it (strIterType z) z t i) where
  mem := by simp
  obj := fun i h st b hb => by
    have hb' : b = e ∨ b = it := by simpa using hb
    rcases hb' with rfl | rfl
    · obtain ⟨⟨old, q⟩, _⟩ := st
      exact ⟨_, q, fun v z => by cases z⟩
    · obtain ⟨_, ⟨o, q, c, d⟩⟩ := st
      exact ⟨o, q, fun v z => by rw [d] at z; cases z⟩
  keep := fun i h h' st k => by
    obtain ⟨⟨old, q⟩, ⟨o, r, c⟩⟩ := st
    exact ⟨⟨old, k e (by simp) _ q⟩, ⟨o, k it (by simp) o r, c⟩⟩
  item := by
    intro X hP hw hK hc i pins s σ H E I hf st hg
    subst hP hw hK
    obtain ⟨⟨old, he⟩, hit⟩ := st
    have fe := hf e (by simp)
    have fi := hf it (by simp)
    refine wpAny_pyNext_enum_itemD (draws_str (A := X.A.in1) (I.ok.hd hc) it z t) he hit hg hei (by simp [hei]) fun y h' tk hy ho hst htup hsz kk => ?_
    obtain ⟨c, uc, hcx, rfl⟩ := hy
    refine ⟨_, rfl, wpAny_letOwnedTupleGo_enum ho fun h'' he'' sb => ?_⟩
    have hnext : ∃ old, IsEnum h'' e it ((i + 1 : Nat) : Int) old := ⟨_, by
      have e1 : ((i + 1 : Nat) : Int) = (i : Int) + 1 := by omega
      rw [e1]
      exact he''⟩
    refine ⟨.ref s.heap.objs.size, upd H s.heap.objs.size (.tup [.int (i : Int), .str ⟨#[c]⟩]), ?_, rfl, ⟨_, c, I.hok.fresh (Nat.le_refl _), rfl, hcx, rfl⟩, ⟨hnext, ?_⟩, fun b hb => ?_⟩
    · have ne : s.heap.objs.size ≠ e := fun z => absurd (Heap.lt_size he) (by rw [← z]; exact Nat.lt_irrefl _)
      refine Inv.pair (its := [.int (i : Int) tk, .str ⟨#[c]⟩ uc]) I fe fi (fun b o h1 h2 q => (sb.2 b h1).trans (kk b o h1 h2 q)) ⟨_, he''⟩ ?_ ((sb.2 _ ne).trans htup) (.cons ⟨_, rfl⟩ (.cons ⟨_, rfl⟩ .nil)) (by show 2 ≤ sizeLine; decide)
      obtain ⟨o, q, _⟩ := hst
      exact ⟨o, (sb.2 it (Ne.symm hei)).trans q⟩
    · obtain ⟨o, q, r⟩ := hst
      exact ⟨o, (sb.2 it (Ne.symm hei)).trans q, r⟩
    · have hb' : b = e ∨ b = it := by simpa using hb
      have hbl : b < s.heap.objs.size := by
        rcases hb' with rfl | rfl
        · exact Heap.lt_size he
        · obtain ⟨o, q, _⟩ := hit; exact Heap.lt_size q
      rw [upd_ne (Nat.ne_of_lt hbl)]
      exact (hf b hb).1
  done := by
    intro X hP hw hK hc i pins s σ H E I hf st hg
    subst hP hw hK
    obtain ⟨⟨old, he⟩, hit⟩ := st
    have en : i = z.cps.size := hg
    refine wpAny_pyNext_enum_endD (draws_str (A := X.A.in1) (I.ok.hd hc) it z t) he (by rw [← en]; exact hit) fun h' eb => ⟨rfl, ?_⟩
    exact Inv.turned2 (tk := s.toks) I (hf e (by simp)) (hf it (by simp)) fun b o h1 h2 q => eb b o h2 q
  self := fun A i s Q E st h => by
    obtain ⟨⟨old, he⟩, _⟩ := st
    exact wpAny_pyIter_enum he h
noncomputable def enumD (k : Nat) : List D → List D
  | [] => []
  | d :: ds => .tup [.int (k : Int), d] :: enumD (k + 1) ds
theorem enumD_get : ∀ {ds : List D} {k i : Nat} {d : D}, (enumD k ds)[i]? = some d → ∃ d', ds[i]? = some d' ∧ d = .tup [.int ((k + i : Nat) : Int), d']
  | [], _, _, _, h => by simp [enumD] at h
  | x :: ds, k, 0, d, h => by simp [enumD] at h; exact ⟨x, rfl, h.symm⟩
  | x :: ds, k, i + 1, d, h => by
    obtain ⟨d', e1, e2⟩ := enumD_get (ds := ds) (k := k + 1) (i := i) (by simpa [enumD] using h)
    exact ⟨d', by simpa using e1, by rw [e2, show k + 1 + i = k + (i + 1) by omega]⟩
theorem enumD_len : ∀ (ds : List D) (k : Nat), (enumD k ds).length = ds.length
  | [], _ => rfl
  | _ :: ds, k => by simp [enumD, enumD_len ds (k + 1)]
noncomputable def enumOf : D → R (List D)
  | .lst ds => .ok (enumD 0 ds)
  | .str x => .ok (enumD 0 (signs x))
  | _ => .no
noncomputable def iEnum (f : FE) : FI := fun δ => (f δ).bind fun w => enumOf w.d
section
variable {X : Cx} {EX : EXS} {a : Expr} {f : FE} {elts : List Expr} {x1 : Nat} {tp p pos : Pos}
noncomputable def iEn (K : PySem.W.Frag) (t : TA) : TI := fun σ H Q => t σ H fun vs H1 => (∃ l, vs = [.ref l] ∧ (∃ xs, SqL K H1 l xs) ∧ Q (enL K l) H1) ∨ (∃ z, vs = [.str z] ∧ Q (enS z) H1)
theorem pi_enum {ta : TA} (hg : Gl X "enumerate") (hm : X.mg "enumerate" = none) (ha : PA X [a] ta) (hs : starEach [a] X.env = [(false, eval a X.env)] := by rfl) : PI X (.Tuple elts x1 tp) (.Call (.Name "enumerate" p) [a] [] pos) (iEn X.K ta) := by
  intro pins s σ H Q I h
  refine Call_ (ld_blt I hg hm PyProof.Rows.boot_enumerate (PyProof.Rows.callWith_type1 (thn (ha pos pins s σ H _ I h) fun us s1 ⟨vs, H1, I1, r1, q1⟩ => ?_) hs rfl))
  rcases q1 with ⟨l, rfl, ⟨xs, hq⟩, q⟩ | ⟨z, rfl, q⟩
  · obtain ⟨u, rfl, ru⟩ := r1.one
    cases ru
    obtain ⟨its, rv, pl, hz⟩ := I1.list hq
    refine call_enumerate_list pl.isList fun h' he hit hsz kk => wpAny_pyIter_enum he ?_
    refine ⟨s1.heap.objs.size + 1, [s1.heap.objs.size + 1, s1.heap.objs.size], _, enL X.K l, H1, rfl, I1.kept (t' := s1.toks) kk, turn_enL _ _ l (Nat.succ_ne_self _), ⟨⟨_, he⟩, hit⟩, fun b hb => ?_, q⟩
    have hb' : b = s1.heap.objs.size + 1 ∨ b = s1.heap.objs.size := by simpa using hb
    have hbl : s1.heap.objs.size ≤ b := by
      rcases hb' with rfl | rfl
      · exact Nat.le_succ _
      · exact Nat.le_refl _
    exact I1.fpOk hbl (I1.hok.fresh hbl)
  · obtain ⟨u, rfl, t, rfl⟩ := r1.one
    refine call_enumerate_str fun h' he hit hsz kk => wpAny_pyIter_enum he ?_
    refine ⟨s1.heap.objs.size + 1, [s1.heap.objs.size + 1, s1.heap.objs.size], _, enS z, H1, rfl, I1.kept (t' := s1.toks) kk, turn_enS _ _ z t (Nat.succ_ne_self _), ⟨⟨_, he⟩, hit⟩, fun b hb => ?_, q⟩
    have hb' : b = s1.heap.objs.size + 1 ∨ b = s1.heap.objs.size := by simpa using hb
    have hbl : s1.heap.objs.size ≤ b := by
      rcases hb' with rfl | rfl
      · exact Nat.le_succ _
      · exact Nat.le_refl _
    exact I1.fpOk hbl (I1.hok.fresh hbl)
theorem itd_enL {K : PySem.W.Frag} {G : Hp} {l : Addr} {vs : List V} {ds : List D} (h : SqL K G l vs) (r : HasL K G vs ds) : ItD K G (enL K l) (enumD 0 ds) := fun G' H g1 g i => by
  refine ⟨fun d e => ?_, fun e => ?_⟩
  · obtain ⟨d', e1, rfl⟩ := enumD_get e
    obtain ⟨v, e2, hv⟩ := r.get e1
    refine ⟨⟨vs, v, (g1.trans g).seq h, e2⟩, fun x H' y => ?_⟩
    obtain ⟨p, hp, rfl, y⟩ := y
    have := y vs v ((g1.trans g).seq h) e2
    subst this
    refine ⟨_, Step.new g hp _, .tup (SqT.of upd_same) (.cons (by rw [Nat.zero_add]; exact .int _) (.cons (hv.mono (g1.trans (same_new (g.free hp) _))) .nil))⟩
  · rw [enumD_len] at e
    exact ⟨vs, (g1.trans g).seq h, by rw [r.length]; exact e⟩
theorem itd_enS {K : PySem.W.Frag} {G : Hp} (z : Str) : ItD K G (enS z) (enumD 0 (signs z)) := fun G' H g1 g i => by
  refine ⟨fun d e => ?_, fun e => ?_⟩
  · obtain ⟨d', e1, rfl⟩ := enumD_get e
    unfold signs at e1
    rw [List.getElem?_map] at e1
    cases q : z.cps.toList[i]? with
    | none => rw [q] at e1; cases e1
    | some c =>
      rw [q] at e1
      cases e1
      have hi : i < z.cps.size := by
        have := (List.getElem?_eq_some_iff.mp q).1
        simpa using this
      refine ⟨hi, fun x H' y => ?_⟩
      obtain ⟨p, c', hp, rfl, hc, rfl⟩ := y
      have : z.cps.toList[i]? = some c' := by simpa using hc
      rw [q] at this
      cases this
      refine ⟨_, Step.new g hp _, .tup (SqT.of upd_same) (.cons (by rw [Nat.zero_add]; exact .int _) (.cons (.str _) .nil))⟩
  · rw [enumD_len] at e
    unfold signs at e
    rw [List.length_map] at e
    show i = z.cps.size
    simp at e
    omega
theorem id_enum (hm : X.mg "enumerate" = none) (he : ED X EX a f) (hg : Gl X "enumerate" := by rfl) (hs : starEach [a] X.env = [(false, eval a X.env)] := by rfl) (hs1 : starEach [a] X.env = (false, eval a X.env) :: starEach [] X.env := by rfl) :
    ID X EX (.Tuple elts x1 tp) (.Call (.Name "enumerate" p) [a] [] pos) (iEnum f) :=
  PI.imp (pi_enum hg hm (pa_cons he pa_nil hs1) hs) fun σ H Q ⟨G, δ, g0, s0, o⟩ => by
    refine ⟨G, δ, g0, s0, ?_⟩
    unfold iEnum at o
    cases e1 : f δ with
    | ok w =>
      rw [e1] at o
      simp only [R.bind_ok] at o
      refine WP.intro fun v G' H' st r => ?_
      revert r o
      cases w.d with
      | lst ds =>
        intro o r
        cases r with
        | lst h r => exact .inl ⟨_, rfl, ⟨_, st.gh.seq h⟩, o _ G' H' st (itd_enL h r)⟩
      | str z =>
        intro o r
        cases r
        exact .inr ⟨z, rfl, o _ G' H' st (itd_enS z)⟩
      | _ => intro o _; exact False.elim o
    | ex x => rw [e1] at o; exact o
    | no => rw [e1] at o; exact o
end
end L3

namespace L3
open PySem PySem.Spec PyProof.Rows L2
noncomputable def C3 (i j c : Int) : Prop := 0 ≤ i ∧ i.natAbs < 1073741824 ∧ j.natAbs < 1073741824 ∧ 0 < c ∧ c.natAbs < 1073741824
instance (i j c : Int) : Decidable (C3 i j c) := by unfold C3; exact inferInstance
section
variable {X : Cx} {EX : EXS} {tg a b c : Expr} {fa : FA} {ta : TA} {p pos : Pos}
end
end L3

namespace L3
open PySem PySem.Spec PyProof.Rows L2
section
variable {X : Cx} {EX : EXS} {a : Expr} {f : FE} {pos : Pos}
end
end L3

namespace L3
open PySem PySem.Spec PyProof.Rows L2
section
variable {prog : Program} {w : World} {A : Around} {E : Value → Shared → Prop} {s : Shared}
theorem assign_Tuple_list {env : Env} {elts : List Expr} {x1} {pos : Pos} {t : Addr} {items : Array Value} {Q : Unit → Shared → Prop} (hh : A.handled = none) (ht : s.heap.IsList t items)
    (hn : (assignEach elts env).length = items.size) (hstar : (assignEach elts env).findIdx? (·.1) = none)
    (h : ∀ h', Heap.ExtBut s.heap.objs.size s.heap h' → wpAny (model prog w) A (assignInOrder ((assignEach elts env).map (·.2)) items.toList) Q E { s with heap := h' }) :
    wpAny (model prog w) A (assign (.Tuple elts x1 pos) env (.ref t)) Q E s := by
  rw [assign_Tuple, unpack, hn, hstar]
  exact wpAny_bind (wpAny_standAt (wpAny_bind (wpAny_holding (PySem.W.kun_itemsOf hh ht h))))
end
section
variable {X : Cx} {EX : EXS} {pos : Pos}
noncomputable def gSeq (K : PySem.W.Frag) (n : Nat) (t : TGs) : TG := fun v σ H Q => ∃ a xs, v = .ref a ∧ (SqT K H a xs ∨ SqL K H a xs) ∧ xs.length = n ∧ t xs σ H Q
theorem pg_seq {es : List Expr} {k : Nat} {t : TGs} {n : Nat} (hc : X.calm = true) (h : PGs X es t)
    (hn : (assignEach es X.env).length = n := by rfl) (hst : (assignEach es X.env).findIdx? (·.1) = none := by rfl) : PG X (.Tuple es k pos) (gSeq X.K n t) := by
  intro pins s σ H v u Q I r hw
  obtain ⟨a, xs, e1, hq, hl, hw⟩ := hw
  rcases hq with hq | hq
  · exact pg_tup hc h hn hst pins s σ H v u Q I r ⟨a, xs, e1, hq, hl, hw⟩
  · subst e1
    cases r
    obtain ⟨its, rv, ht, hz⟩ := I.list hq
    refine assign_Tuple_list (I.ok.hd hc) ht.isList (by simp [hn, ← hl, rv.length]) hst fun h' hx => ?_
    have I1 : Inv X pins σ H { s with heap := h' } := I.kept (t' := s.toks) fun b o e => hx b o (Nat.ne_of_lt (Heap.lt_size e)) e
    exact h pins _ σ H xs _ Q I1 (by simpa using rv) hw
theorem HasS.skip {K : PySem.W.Frag} {G : Hp} {σ : Sg} {δ : DE} {v : V} {i : Nat} (h : HasS K G σ δ) (e : δ[i]? = some none) : HasS K G (σ.set i (some v)) δ := by
  refine ⟨by rw [List.length_set]; exact h.len, fun j d' e' => ?_⟩
  obtain ⟨v', e1, r'⟩ := h.get j d' e'
  refine ⟨v', ?_, r'⟩
  rw [List.getElem?_set_ne]
  · exact e1
  · rintro rfl
    rw [e] at e'
    cases e'
noncomputable def gC2 (i j : Nat) : FGc := fun d δ => match d with
  | .tup [a, b] => (gC i a δ).bind fun δ1 => gC j b δ1
  | .lst [a, b] => (gC i a δ).bind fun δ1 => gC j b δ1
  | _ => .no
theorem gC_cases (i : Nat) (d : D) (δ : DE) : (δ[i]? = some none ∧ gC i d δ = .ok (δ.set i (some d))) ∨ gC i d δ = .no := by
  unfold gC
  cases e : δ[i]? with
  | none => exact .inr rfl
  | some o =>
    cases o with
    | some _ => exact .inr rfl
    | none => exact .inl ⟨rfl, rfl⟩
theorem set_none {δ : DE} {i j : Nat} {d : D} (h : (δ.set i (some d))[j]? = some none) : δ[j]? = some none := by
  rcases getSet h with ⟨_, q⟩ | ⟨_, q⟩
  · cases q
  · exact q
theorem two_c {K : PySem.W.Frag} {G : Hp} {H : Hp} {σ : Sg} {δ : DE} {i j : Nat} {v1 v2 : V} {a b : D} {Q : Sg → Hp → Prop} (s : HasS K G σ δ) (r1 : Has K G v1 a) (r2 : Has K G v2 b)
    (q : match (gC i a δ).bind fun δ1 => gC j b δ1 with | .ok δ' => ∀ σ', HasS K G σ' δ' → HasS K G σ' δ → Q σ' H | .ex x => (EX σ).p x G H | .no => False) : Q ((σ.set i (some v1)).set j (some v2)) H := by
  rcases gC_cases i a δ with ⟨n1, e1⟩ | e1
  · rw [e1] at q
    simp only [R.bind_ok] at q
    rcases gC_cases j b (δ.set i (some a)) with ⟨n2, e2⟩ | e2
    · rw [e2] at q
      exact q _ ((s.put r1 i).put r2 j) ((s.skip n1).skip (set_none n2))
    · rw [e2] at q; exact q.elim
  · rw [e1] at q; exact q.elim
theorem gc_two {i j k : Nat} {x y : Str} {p1 p2 : Pos} (hc : X.calm = true) (hN : X.N.Nodup) (hi : X.N[i]? = some x := by rfl) (hj : X.N[j]? = some y := by rfl) (hx : Loc X.env.scope x := by first | exact Or.inl rfl | exact Or.inr rfl) (hy : Loc X.env.scope y := by first | exact Or.inl rfl | exact Or.inr rfl)
    (hf : X.fn x = true ∨ X.env.scope.names.lookup x = some .local := by first | exact .inl rfl | exact .inr rfl | assumption) (hf2 : X.fn y = true ∨ X.env.scope.names.lookup y = some .local := by first | exact .inl rfl | exact .inr rfl | assumption)
    (hn : (assignEach [.Name x p1, .Name y p2] X.env).length = 2 := by rfl) (hst : (assignEach [.Name x p1, .Name y p2] X.env).findIdx? (·.1) = none := by rfl)
    (hs : (assignEach [.Name x p1, .Name y p2] X.env).map (·.2) = assign (.Name x p1) X.env :: (assignEach [.Name y p2] X.env).map (·.2) := by rfl) (hs2 : (assignEach [.Name y p2] X.env).map (·.2) = assign (.Name y p2) X.env :: (assignEach [] X.env).map (·.2) := by rfl) :
    GC X EX (.Tuple [.Name x p1, .Name y p2] k pos) (gC2 i j) :=
  PG.imp (pg_seq hc (pgs_cons (pg_name hN hi hx hf) (pgs_cons (pg_name hN hj hy hf2) pgs_nil hs2) hs) hn hst) fun v σ H Q ⟨G, δ, d, g, s, r, q⟩ => by
    cases r with
    | tup h r =>
      cases r with
      | nil => exact False.elim q
      | cons r1 r =>
        cases r with
        | nil => exact False.elim q
        | cons r2 r =>
          cases r with
          | nil => exact ⟨_, _, rfl, .inl (Same.tupS g h), rfl, _, _, rfl, _, _, rfl, rfl, two_c s r1 r2 q⟩
          | cons _ _ => exact False.elim q
    | lst h r =>
      cases r with
      | nil => exact False.elim q
      | cons r1 r =>
        cases r with
        | nil => exact False.elim q
        | cons r2 r =>
          cases r with
          | nil => exact ⟨_, _, rfl, .inr (g.seq h), rfl, _, _, rfl, _, _, rfl, rfl, two_c s r1 r2 q⟩
          | cons _ _ => exact False.elim q
    | _ => exact False.elim q
end
end L3

namespace L3
open PySem PySem.Spec PyProof.Rows L2
section
variable {X : Cx} {EX : EXS}
noncomputable def nonB : D → Bool
  | .non => true
  | _ => false
noncomputable def isND (neg : Bool) : D → D → R W
  | d, .non => .ok (.sh (.bl (if neg then !nonB d else nonB d)))
  | _, _ => .no
theorem nonB_V {K : PySem.W.Frag} {G : Hp} {v : V} {d : D} (r : Has K G v d) : decide (v = .non) = nonB d := by
  cases r <;> rfl
theorem op_isND : OpD X (compareOp .Is) (isND false) := by
  intro pins s σ H x y v u Q I rx ry q
  obtain ⟨EX, G, a, b, g, ra, rb, o⟩ := q
  cases rb with
  | non => exact op_isN pins s σ H _ _ _ _ Q I rx ry ⟨rfl, by rw [nonB_V ra]; exact out_sh o g (.bl _)⟩
  | _ => exact False.elim o
theorem op_notND : OpD X (compareOp .IsNot) (isND true) := by
  intro pins s σ H x y v u Q I rx ry q
  obtain ⟨EX, G, a, b, g, ra, rb, o⟩ := q
  cases rb with
  | non => exact op_notN pins s σ H _ _ _ _ Q I rx ry ⟨rfl, by rw [nonB_V ra]; exact out_sh o g (.bl _)⟩
  | _ => exact False.elim o

noncomputable def repS (x : Str) (n : Nat) : Str := ⟨(List.replicate n x.cps).foldl (· ++ ·) #[]⟩
noncomputable def mulS : D → D → R W
  | .str x, .int n => if 2 ≤ n ∧ n ≤ 1000 ∧ 1 ≤ x.length ∧ x.length ≤ 1000 then .ok (.sh (.str (repS x n.toNat))) else .no
  | _, _ => .no
theorem repS_len (x : Str) (n : Nat) : (repS x n).length = n * x.length := by
  have all : ∀ (m : Nat) (a : Array Nat), ((List.replicate m x.cps).foldl (· ++ ·) a).size = a.size + m * x.cps.size := by
    intro m
    induction m with
    | zero => intro a; simp
    | succ m ih => intro a; rw [List.replicate_succ, List.foldl_cons, ih, Array.size_append, Nat.succ_mul]; omega
  show ((List.replicate n x.cps).foldl (· ++ ·) #[]).size = n * x.cps.size
  rw [all]; simp
theorem op_mulS : OpD X (binaryOp .Mult) mulS := by
  intro pins s σ H x y v u Q I rx ry q
  obtain ⟨EX, G, a, b, g, ra, rb, o⟩ := q
  cases ra with
  | str z =>
    cases rb with
    | int n =>
      simp only [mulS] at o
      split at o
      · rename_i h
        obtain ⟨t, rfl⟩ := rx
        obtain ⟨t', rfl⟩ := ry
        obtain ⟨h1, h2, h3, h4⟩ := h
        have e1 : ¬ n < 1 := by omega
        have e2 : (n == 1 || z.length == 0) = false := by
          have : (n == 1) = false := by simp; omega
          rw [this]; simp; omega
        have hz : (repS z n.toNat).length ≤ sizeLine := by
          rw [repS_len, sizeLine_eq]
          have : n.toNat ≤ 1000 := by omega
          calc n.toNat * z.length ≤ 1000 * 1000 := Nat.mul_le_mul this h4
            _ ≤ 16777216 := by decide
        refine P.mul_str ?_ (fun _ _ => ?_) (fun _ _ => ?_) ?_
        · have p1 : ¬ n < -(2 ^ 63 : Int) := by omega
          have p2 : ¬ n ≥ 2 ^ 63 := by omega
          rw [decide_eq_false p1, decide_eq_false p2]; rfl
        · have : (1000 : Int) ≤ (2 ^ 63 - 1) / n := by
            rw [Int.le_ediv_iff_mul_le (by omega)]
            omega
          omega
        · rw [repS_len, Nat.mul_comm] at hz
          unfold Builtin.Str.tooLong
          exact decide_eq_false (Nat.not_lt.mpr hz)
        · rw [if_neg e1, e2, if_neg Bool.false_ne_true]
          exact ⟨hz, ⟨.str _, H, I.tok _, ⟨_, rfl⟩, out_sh o g (.str _)⟩⟩
      · exact o.elim
    | _ => exact False.elim o
  | _ => cases rb <;> exact False.elim o

noncomputable def sSetI (i : Nat) (fi fe : FE) : FS := fun Δ => match Δ[i]? with
  | some (.ow (.lst ds)) => (match fe (vall Δ) with
    | .ok w => if flatD w.d = true then (match fi (vall Δ) with
      | .ok z => (match z.d with
        | .int k => (match ixN ds.length k with
          | some j => .nx (Δ.set i (.ow (.lst (ds.set j w.d))))
          | none => .no)
        | _ => .no)
      | _ => .no) else .no
    | _ => .no)
  | _ => .no
theorem sd_setI {i : Nat} {x : Str} {e ie : Expr} {fe fi : FE} {p1 tpos pos : Pos} (he : ED X EX e fe) (hi : ED X EX ie fi) (hN : X.N[i]? = some x := by rfl) (hv : Vis X.env.scope x := by first | exact Or.inl rfl | exact Or.inr (Or.inl rfl) | exact Or.inr (Or.inr rfl)) (hd : (x == ("__debug__" : Str)) = false := by decide)
    (hcd : (x == ("__classdict__" : Str)) = false := by decide)
    (ha : ∀ v, assign (.Subscript (.Name x p1) ie tpos) X.env v = (do
      let ov ← holding [v] (eval (.Name x p1) X.env)
      let iv ← holding [v, ov] (eval ie X.env)
      standAt tpos
      holding [v, ov, iv] (setItem ov iv v)
      release [v, ov, iv] []) := by intro _; rfl)
    (hs : swapsWithSole [.Subscript (.Name x p1) ie tpos] e pos.line X.env = pure false := by rfl) (hw : swappedStores [.Subscript (.Name x p1) ie tpos] e X.env = pure none := by rfl)
    (h1 : (assignEach [.Subscript (.Name x p1) ie tpos] X.env).map (·.2) = [assign (.Subscript (.Name x p1) ie tpos) X.env] := by rfl) :
    SD X EX (.Assign [.Subscript (.Name x p1) ie tpos] e pos) (sSetI i fi fe) :=
  PS.imp (ps_asg he (pg_sub (pe_var hN hv hd hcd) hi set_list ha) hs hw h1) fun D σ H ⟨H0, G0, G, Δ, O, E, q⟩ => by
    unfold sSetI at q
    split at q
    · rename_i ds e1
      obtain ⟨v0, s1, t⟩ := E.ow i _ _ e1 rfl
      obtain ⟨a, vs, rfl, m, hH, rl⟩ := t.list_of
      · skip
        refine ⟨allG G H O, vall Δ, E.aH, E.gall, ?_⟩
        cases e2 : fe (vall Δ) with
        | ex x => rw [e2] at q; exact q.elim
        | no => rw [e2] at q; exact q.elim
        | ok w =>
          simp only [e2] at q
          split at q
          · rename_i fl
            refine WP.intro fun v G' H' st r => ?_
            have E1 := E.keep st.hh
            refine ⟨.ref a, s1, allG G H' O, vall Δ, E1.aH, E1.gall, ?_⟩
            cases e3 : fi (vall Δ) with
            | ex x => simp only [e3] at q; exact q.elim
            | no => simp only [e3] at q; exact q.elim
            | ok z =>
              simp only [e3] at q
              refine WP.intro fun v2 G2 H2 st2 r2 => ?_
              revert q r2
              cases z.d with
              | int k =>
                intro q r2
                cases r2
                cases e4 : ixN ds.length k with
                | none => simp only [e4] at q; exact q.elim
                | some j =>
                  simp only [e4] at q
                  have hH2 : H2 a = some (.lst vs) := st2.hh _ _ (st.hh _ _ hH)
                  refine ⟨a, vs, k, j, rfl, rfl, hH2, by rw [rl.length]; exact e4, ?_⟩
                  exact q σ G _ _ ((E1.keep st2.hh).writeL s1 m (HasL.set (r.ofFl fl) j rl)) (Same.refl _)
              | _ => intro q _; exact False.elim q
          · exact q.elim
    · exact q.elim
end
end L3

namespace L3
open PySem PySem.Spec PyProof.Rows L2
section
variable {X : Cx} {EX : EXS} {tg a b : Expr} {f g : FE} {fa : FA} {p pos : Pos}
end
end L3
namespace L3
open PySem PySem.Spec PyProof.Rows L2
section
variable {K : PySem.W.Frag} {x qual : Str} {st : Stmt} {f : Addr} {fd : FuncData} {ps : List Str}
theorem Fun.binds1 (F : Fun K x qual st f fd) (hl : ps.length = 1) (h : ∀ (kV doc pm : Value) (an : Option Addr) (cdv ct a : Value), bindArgs (PySem.W.fnOf x qual (defArgs st) (defBody st) (defScope st) .none kV doc pm an cdv ct) ⟨[a], []⟩ = pure (ps.zip [a])) : Binds K fd ps [] :=
  F.binds fun kV doc pm an cdv ct us hu => match us, hu.trans hl with | [a], _ => h kV doc pm an cdv ct a
theorem Fun.binds2 (F : Fun K x qual st f fd) (hl : ps.length = 2) (h : ∀ (kV doc pm : Value) (an : Option Addr) (cdv ct a b : Value), bindArgs (PySem.W.fnOf x qual (defArgs st) (defBody st) (defScope st) .none kV doc pm an cdv ct) ⟨[a, b], []⟩ = pure (ps.zip [a, b])) : Binds K fd ps [] :=
  F.binds fun kV doc pm an cdv ct us hu => match us, hu.trans hl with | [a, b], _ => h kV doc pm an cdv ct a b
theorem Fun.binds3 (F : Fun K x qual st f fd) (hl : ps.length = 3) (h : ∀ (kV doc pm : Value) (an : Option Addr) (cdv ct a b c : Value), bindArgs (PySem.W.fnOf x qual (defArgs st) (defBody st) (defScope st) .none kV doc pm an cdv ct) ⟨[a, b, c], []⟩ = pure (ps.zip [a, b, c])) : Binds K fd ps [] :=
  F.binds fun kV doc pm an cdv ct us hu => match us, hu.trans hl with | [a, b, c], _ => h kV doc pm an cdv ct a b c
end
end L3

namespace L3
open PySem PySem.Spec PyProof.Rows L2
structure ZApart (z TI TO i1 i2 : Addr) : Prop where
  TIz : TI ≠ z
  TOz : TO ≠ z
  i1z : i1 ≠ z
  i2z : i2 ≠ z
  TITO : TI ≠ TO
  TIi1 : TI ≠ i1
  TIi2 : TI ≠ i2
  TOi1 : TO ≠ i1
  TOi2 : TO ≠ i2
  i12 : i1 ≠ i2
section
variable {X : Cx} {EX : EXS} {a b : Expr} {fa : FA} {elts : List Expr} {x1 : Nat} {tp p pos : Pos}
end
end L3

namespace L3
open PySem PySem.Spec PyProof.Rows L2
noncomputable def met (is : List Int) : List Int := PyProof.Rows.firstMet (fun i => is.getD i 0) is.length
section
variable {X : Cx} {EX : EXS} {a : Expr} {f : FE} {p p' pos pos' : Pos}
end
end L3

namespace L3
open PySem PySem.Spec PyProof.Rows L2
section
variable {α : Type}
end
section
variable {X : Cx} {EX : EXS} {pos : Pos}
theorem DGet.rd {H : Hp} {a : Addr} {kvs : List (Key × V)} {k : Key} (e : Rd H a (.dK kvs)) : DGet H a (kV k) (valV kvs k) := .inl ⟨kvs, k, e, rfl, rfl⟩
end
end L3

namespace L3
open PySem PySem.Spec PyProof.Rows L2
section
variable {K : PySem.W.Frag} {H0 H1 : HB} {G0 G H : Hp} {σ : Sg} {Δ : SE} {O : OS}
end
section
variable {X : Cx} {EX : EXS} {pos : Pos}
end
section
variable {X : Cx} {EX : EXS} {pos : Pos}
end
end L3

namespace L3
open PySem PySem.Spec PyProof.Rows L2
section
variable {X : Cx} {EX : EXS} {a b : Expr} {fa : FA} {p pos : Pos}
end
end L3

namespace L3
open PySem PySem.Spec PyProof.Rows L2
section
variable {K : PySem.W.Frag} {G H : Hp}
theorem OwL.append : ∀ {vs us : List V} {ts rs : List Tn} {S1 S2 S : AS}, OwL K G H vs ts S1 → OwL K G H us rs S2 → (∀ b, S1 b → S2 b → False) → (∀ b, S1 b → S b) → (∀ b, S2 b → S b) → OwL K G H (vs ++ us) (ts ++ rs) S
  | _, _, _, _, _, _, _, .nil, r, _, _, i2 => r.mono (Same.refl _) (fun _ _ _ q => q) i2
  | _, _, _, _, S1, S2, S, .cons (S1 := Sa) (S2 := Sb) h r dj s1 s2, q, d, i1, i2 =>
    .cons (S2 := fun b => Sb b ∨ S2 b) h (OwL.append r q (fun b z1 z2 => d b (s2 b z1) z2) (fun b z => .inl z) fun b z => .inr z) (fun b z1 z2 => by
      rcases z2 with z2 | z2
      · exact dj b z1 z2
      · exact d b (s1 b z1) z2) (fun b z => i1 b (s1 b z)) fun b z => by
      rcases z with z | z
      · exact i1 b (s2 b z)
      · exact i2 b z
end
section
variable {α : Type}
end
section
variable {K : PySem.W.Frag} {G H : Hp}
end
noncomputable def Sl.mk (b : Bool) (t : Tn) : Sl := if b then .lt t else .tr t
section
variable {X : Cx} {EX : EXS} {pos : Pos}
end
end L3

namespace L3
open PySem PySem.Spec PyProof.Rows L2
section
variable {X : Cx} {EX : EXS} {pos : Pos}
end
end L3

namespace L3
open PySem PySem.Spec PyProof.Rows L2
section
variable {X : Cx} {EX : EXS} {pos : Pos}
end
end L3

namespace L3
open PySem PySem.Spec PyProof.Rows L2
section
variable {X : Cx} {EX : EXS} {pos : Pos}
theorem HasL.ofFl {K : PySem.W.Frag} {G G' : Hp} : ∀ {vs : List V} {ds : List D}, HasL K G vs ds → ds.all flatD = true → HasL K G' vs ds
  | _, _, .nil, _ => .nil
  | _, _, .cons h r, f => by
    rw [List.all_cons, Bool.and_eq_true] at f
    exact .cons (h.ofFl f.1) (HasL.ofFl r f.2)
end
end L3

namespace L3
open PySem PySem.Spec PyProof.Rows L2
noncomputable def startM (n : Nat) (ds : List D) (t : Tn) : SE := (start3 n ds).set ds.length (.lt t)
noncomputable def bodyM (n : Nat) (g : FS) (ds : List D) (t : Tn) : Option Tn := match g (startM n ds t) with
  | .nx Δ => (match Δ[ds.length]? with
    | some (.lt t') => some t'
    | _ => none)
  | _ => none
noncomputable def spM (K : PySem.W.Frag) (n : Nat) (F : List D → Tn → Option Tn) : Sp := fun vs H Q _ => ∃ vs0 a0, vs = vs0 ++ [.ref a0] ∧ vs0.length = n ∧ ∃ G ds t S t', Same G H ∧ HasL K G vs0 ds ∧ Ow K G H (.ref a0) t S ∧ (∀ a, S a → G a = none ∧ H a ≠ none) ∧ F ds t = some t' ∧
  ∀ G' H' S', MStep2 S G H G' H' → (∀ a, S' a → (S a ∨ H a = none) ∧ G' a = none ∧ H' a ≠ none) → Ow K G' H' (.ref a0) t' S' → Q .non H'
theorem ev_startM {K : PySem.W.Frag} {G H h0 : Hp} {vs us : List V} {ds : List D} {N : List Str} {b : Nat → Addr} (g : Same G H) (i0 : Same h0 H) (r : HasL K G vs ds) (hl : (vs ++ us).length ≤ N.length) : Ev K ⟨h0, b⟩ G G H (L2.start N (vs ++ us)) (start3 N.length ds) (fun _ _ => False) := by
  have key : ∀ (i : Nat) (s : Sl), (start3 N.length ds)[i]? = some s → (∃ d, s = .sh d ∧ ds[i]? = some d) ∨ s = .no := fun i s e => by
    unfold start3 at e
    by_cases hi : i < ds.length
    · rw [List.getElem?_append_left (by rw [List.length_map]; exact hi), List.getElem?_map] at e
      obtain ⟨d, e1, e2⟩ := Option.map_eq_some_iff.mp e
      exact .inl ⟨d, e2.symm, e1⟩
    · rw [List.getElem?_append_right (by rw [List.length_map]; omega), List.getElem?_replicate] at e
      split at e
      · cases e; exact .inr rfl
      · cases e
  refine ⟨⟨i0, g, Same.refl _, fun _ n _ => n⟩, ?_, fun i d e => ?_, fun i z d e zo => ?_, fun _ _ ha => ha.elim, fun _ _ _ ha => ha.elim, fun i d e => ?_, fun i d e => ?_⟩
  · unfold L2.start start3
    have := r.length
    simp only [List.length_append, List.length_map, List.length_replicate] at hl ⊢
    omega
  · rcases key i _ e with ⟨d', q, q2⟩ | q
    · cases q
      obtain ⟨v, e1, h⟩ := r.get q2
      refine ⟨v, ?_, h⟩
      unfold L2.start
      have hi : i < vs.length := (List.getElem?_eq_some_iff.mp e1).1
      rw [List.getElem?_append_left (by rw [List.length_map, List.length_append]; omega), List.getElem?_map, List.getElem?_append_left hi, e1]
      rfl
    · cases q
  · rcases key i _ e with ⟨d', q, _⟩ | q <;> (subst q; cases zo)
  · rcases key i _ e with ⟨d', q, _⟩ | q <;> cases q
  · rcases key i _ e with ⟨d', q, _⟩ | q <;> cases q
open Classical in
theorem fn_M {c : Bool} {P : Program} {w : World} {K : PySem.W.Frag} {mg : Str → Option Value} {base : Heap} {x qual : Str} {st : Stmt} {f : Addr} {fd : FuncData} {N ps : List Str} {k n : Nat} {g : FS} (F : Fun K x qual st f fd) (S : FnScope N ps (defScope st)) (hn : ps.length = n + 1) (hle : ps.length ≤ N.length)
    (hbody : ∀ (cdv : Value) (A : Around) (outer : List Env) (s : Shared) (H : Hp) (E : XK), RoomC c k (A.deeper (envOfC qual (defScope st) s.heap.objs.size f cdv)) →
      BD (cxN c P w K mg base N qual (defScope st) f cdv A outer s H E) (fun _ => EXof K E) (defBody st) g) : FnX P w K mg base c (k + 1) f fd ps (spM K n (bodyM N.length g)) := by
  refine Fun.okX F S (fun vs H Q E h => ?_) fun cdv A outer s H vs Q E hr h => ⟨_, hbody cdv A outer s H E hr, ?_⟩
  · obtain ⟨vs0, a0, rfl, hl, _⟩ := h
    rw [List.length_append, hl, hn]; rfl
  obtain ⟨vs0, a0, rfl, hl, G, ds, t, S0, t', g0, r, tw, out, ef, q⟩ := h
  have i0 : Same (fun b => if S0 b then none else H b) H := fun b o e => by
    simp only at e
    split at e
    · cases e
    · exact e
  have E0 := ev_startM (N := N) (b := fun _ => a0) (us := [.ref a0]) g0 i0 r (by rw [List.length_append, hl]; show n + 1 ≤ _; omega)
  have hlen : ds.length = n := by rw [← r.length]; exact hl
  have hs : (L2.start N (vs0 ++ [.ref a0]))[ds.length]? = some (some (.ref a0)) := by
    unfold L2.start
    rw [List.getElem?_append_left (by rw [List.length_map, List.length_append, hl, hlen]; exact Nat.lt_succ_self _), List.getElem?_map, List.getElem?_append_right (by rw [hl, hlen]; exact Nat.le_refl _), hl, hlen, Nat.sub_self]
    rfl
  have E1 := E0.putO (i := ds.length) (z := .lt t) (S := S0) (fun a ha => ⟨by simp only; rw [if_pos ha], (out a ha).1, (out a ha).2⟩) rfl (fun _ z => by cases z) tw (fun j a ha => ha.elim) (fun _ _ => rfl)
  rw [set_same hs] at E1
  refine ⟨⟨fun b => if S0 b then none else H b, fun _ => a0⟩, G, G, _, _, E1, ?_⟩
  unfold bodyM at ef
  have e2 : (start3 N.length ds).set ds.length (.lt t) = startM N.length ds t := rfl
  rw [e2]
  cases e : g (startM N.length ds t) with
  | nx Δ =>
    rw [e] at ef
    simp only at ef
    split at ef
    · rename_i t2 e3
      cases ef
      intro σ G' H' O E' _
      obtain ⟨v, s1, t3⟩ := E'.ow _ _ _ e3 rfl
      have s2 := E'.lt _ _ e3
      rw [s1] at s2
      cases s2
      refine q G' H' (O ds.length) ⟨fun b o nb z => E'.st.hh b o (by simp only; rw [if_neg nb]; exact z), E'.st.gh, E'.st.gg, fun b nb z1 z2 => E'.st.nw b z1 (by simp only; rw [if_neg nb]; exact z2)⟩ (fun a ha => ?_) t3
      obtain ⟨k1, k2, k3⟩ := E'.out _ a ha
      refine ⟨?_, k1, k3⟩
      simp only at k2
      split at k2
      · rename_i z; exact .inl z
      · exact .inr k2
    · cases ef
  | rt w => rw [e] at ef; cases ef
  | ex x Δ => rw [e] at ef; cases ef
  | bk Δ => rw [e] at ef; cases ef
  | ct Δ => rw [e] at ef; cases ef
  | no => rw [e] at ef; cases ef
section
variable {X : Cx} {EX : EXS} {e : Expr} {es : List Expr} {x : Str} {pp pos : Pos} {c : Bool} {k k' : Nat} {ps : List Str}
end
end L3

namespace L3
open PySem PySem.Spec PyProof.Rows L2
noncomputable def OFld (K : PySem.W.Frag) (cs : List Str) (f : Str) : Prop := ∀ c, cs.contains c = true → ∀ C, ClsAt K c C → Cls K C ∧ NoAttr K C f
theorem OFld.nil {K : PySem.W.Frag} {f : Str} : OFld K [] f := fun c h => by cases h
theorem ClsAt.same {K : PySem.W.Frag} {c : Str} {C C' : Addr} (a : ClsAt K c C) (b : ClsAt K c C') : C' = C := by
  unfold ClsAt at a b
  rw [a] at b
  injection b with b
  injection b with b
  injection b with b
  exact b.symm
theorem OFld.one {K : PySem.W.Frag} {c : Str} {C : Addr} {cs : List Str} {f : Str} (a : ClsAt K c C) (k : Cls K C) (n : NoAttr K C f) (r : OFld K cs f) : OFld K (c :: cs) f := fun c' h C' a' => by
  rw [List.contains_cons, Bool.or_eq_true] at h
  rcases h with h | h
  · have e := beq_iff_eq.mp h
    subst e
    rw [a.same a']
    exact ⟨k, n⟩
  · exact r c' h C' a'
section
variable {X : Cx} {EX : EXS} {e : Expr} {pos : Pos}
end
structure MethD (P : Program) (w : World) (K : PySem.W.Frag) (mg : Str → Option Value) (base : Heap) (cc : Bool) (k n : Nat) (m c : Str) (F : List D → R W) : Prop where
  ex : ∃ C f fd ps, ClsAt K c C ∧ Cls K C ∧ Meth K C m f ∧ FnX P w K mg base cc k f fd ps (spX K (n + 1) F) ∧ Binds K fd ps []
noncomputable def MethT (P : Program) (w : World) (K : PySem.W.Frag) (mg : Str → Option Value) (base : Heap) (cc : Bool) (k n : Nat) (m : Str) (tb : List (Str × (List D → R W))) : Prop := ∀ c F, tb.lookup c = some F → MethD P w K mg base cc k n m c F
theorem MethT.nil {P : Program} {w : World} {K : PySem.W.Frag} {mg : Str → Option Value} {base : Heap} {cc : Bool} {k n : Nat} {m : Str} : MethT P w K mg base cc k n m [] := fun c F e => by cases e
theorem FnX.up {P : Program} {w : World} {K : PySem.W.Frag} {mg : Str → Option Value} {base : Heap} {c : Bool} {j k : Nat} {f : Addr} {fd : FuncData} {ps : List Str} {sp : Sp} (F : FnX P w K mg base c j f fd ps sp) (h : j ≤ k) : FnX P w K mg base c k f fd ps sp :=
  ⟨F.len, fun A outer s H args us vs Q E hr => F.run A outer s H args us vs Q E (hr.mono h)⟩
theorem MethT.one {P : Program} {w : World} {K : PySem.W.Frag} {mg : Str → Option Value} {base : Heap} {cc : Bool} {j k n : Nat} {m c : Str} {F : List D → R W} {tb : List (Str × (List D → R W))} (d : MethD P w K mg base cc j n m c F) (hj : j ≤ k) (r : MethT P w K mg base cc k n m tb) : MethT P w K mg base cc k n m ((c, F) :: tb) := fun c' F' e => by
  rw [List.lookup_cons] at e
  cases hb : c' == c with
  | true =>
    simp only [hb] at e
    cases e
    have := beq_iff_eq.mp hb
    subst this
    obtain ⟨C, f, fd, ps, a1, a2, a3, a4, a5⟩ := d.ex
    exact ⟨C, f, fd, ps, a1, a2, a3, a4.up hj, a5⟩
  | false => simp only [hb] at e; exact r c' F' e
section
variable {X : Cx} {EX : EXS} {e o : Expr} {es : List Expr} {pos apos : Pos} {cc : Bool} {k k' n : Nat} {m : Str} {tb : List (Str × (List D → R W))} {fo : FE} {fa : FA}
end
end L3

namespace L3
open PySem PySem.Spec PyProof.Rows L2
section
variable {X : Cx} {EX : EXS} {pos : Pos}
end
section
variable {X : Cx} {EX : EXS} {e : Expr} {es : List Expr} {x : Str} {pp pos : Pos} {cc : Bool} {k k' n : Nat} {ps : List Str} {C f : Addr} {fd : FuncData}
end
end L3

namespace L3
open PySem PySem.Spec PyProof.Rows L2
noncomputable def sameF : List D → List D → Bool
  | [], [] => true
  | .non :: a, .non :: b => sameF a b
  | .bl x :: a, .bl y :: b => (x == y) && sameF a b
  | .int x :: a, .int y :: b => decide (x = y) && sameF a b
  | .str x :: a, .str y :: b => decide (x = y) && sameF a b
  | _, _ => false
theorem sameF_self : ∀ {ds : List D}, ds.all flatD = true → sameF ds ds = true
  | [], _ => rfl
  | d :: ds, h => by
    rw [List.all_cons, Bool.and_eq_true] at h
    have ih := sameF_self h.2
    cases d with
    | non => exact ih
    | bl x => simp [sameF, ih]
    | int x => simp [sameF, ih]
    | str x => simp [sameF, ih]
    | _ => cases h.1
mutual
noncomputable def noL (ds : List D) : D → Bool
  | .lst es => !sameF ds es && noLs ds es
  | .tup es => noLs ds es
  | .dic kvs => noLk ds kvs
  | .exn _ _ vs => noLs ds vs
  | .obj _ _ vs => noLs ds vs
  | _ => true
noncomputable def noLs (ds : List D) : List D → Bool
  | [] => true
  | e :: es => noL ds e && noLs ds es
noncomputable def noLk (ds : List D) : List (Key × D) → Bool
  | [] => true
  | (_, e) :: es => noL ds e && noLk ds es
end
theorem noLk_map (ds : List D) : ∀ kvs : List (Key × D), noLk ds kvs = noLs ds (kvs.map (·.2))
  | [] => rfl
  | (k, e) :: es => by show (noL ds e && noLk ds es) = (noL ds e && noLs ds (es.map (·.2))); rw [noLk_map ds es]
noncomputable def offG (G : Hp) (a : Addr) : Hp := fun b => if b = a then none else G b
theorem offG_ne {G : Hp} {a b : Addr} (h : b ≠ a) : offG G a b = G b := if_neg h
section
variable {K : PySem.W.Frag} {G : Hp} {a : Addr} {vs : List V} {ds : List D}
theorem HasL.flat_same : ∀ {vs : List V} {ds es : List D}, HasL K G vs ds → HasL K G vs es → ds.all flatD = true → es = ds
  | _, _, _, .nil, .nil, _ => rfl
  | _, _, _, .cons h r, .cons h' r', f => by
    rw [List.all_cons, Bool.and_eq_true] at f
    rw [HasL.flat_same r r' f.2]
    congr 1
    cases h with
    | non => cases h'; rfl
    | bl b => cases h'; rfl
    | int i => cases h'; rfl
    | str x => cases h'; rfl
    | _ => cases f.1
mutual
theorem Has.off (ha : G a = some (.lst vs)) (rl : HasL K G vs ds) (fl : ds.all flatD = true) : ∀ {v : V} {d : D}, Has K G v d → noL ds d = true → Has K (offG G a) v d
  | _, _, .non, _ => .non
  | _, _, .bl b, _ => .bl b
  | _, _, .int i, _ => .int i
  | _, _, .str x, _ => .str x
  | _, _, .lst (a := b) (vs := us) (ds := es) h r, n => by
    have n' : (!sameF ds es && noLs ds es) = true := n
    rw [Bool.and_eq_true] at n'
    have r' := HasL.off ha rl fl r n'.2
    by_cases hb : b = a
    · subst hb
      rcases h with (h | ⟨o, h⟩) | h
      · rw [ha] at h
        cases h
        have := HasL.flat_same rl r fl
        subst this
        rw [sameF_self fl] at n'
        cases n'.1
      · rw [ha] at h; cases h
      · exact .lst (.inr h) r'
    · refine .lst ?_ r'
      rcases h with (h | ⟨o, h⟩) | h
      · exact .inl (.inl (by rw [offG_ne hb]; exact h))
      · exact .inl (.inr ⟨o, by rw [offG_ne hb]; exact h⟩)
      · exact .inr h
  | _, _, .tup (a := b) h r, n => by
    have r' := HasL.off ha rl fl r n
    by_cases hb : b = a
    · subst hb
      rcases h with (h | ⟨o, h⟩) | h
      · rw [ha] at h; cases h
      · rw [ha] at h; cases h
      · exact .tup (.inr h) r'
    · refine .tup ?_ r'
      rcases h with (h | ⟨o, h⟩) | h
      · exact .inl (.inl (by rw [offG_ne hb]; exact h))
      · exact .inl (.inr ⟨o, by rw [offG_ne hb]; exact h⟩)
      · exact .inr h
  | _, _, .exn0 (a := b) hc h, _ => by
    have hb : b ≠ a := fun z => by rw [z, ha] at h; cases h
    exact .exn0 hc (by rw [offG_ne hb]; exact h)
  | _, _, .exn1 (a := b) (d := e) hc h hd hl r, n => by
    have hb : b ≠ a := fun z => by rw [z, ha] at h; cases h
    have he : e ≠ a := fun z => by rw [z, ha] at hd; cases hd
    exact .exn1 hc (by rw [offG_ne hb]; exact h) (by rw [offG_ne he]; exact hd) hl (HasL.off ha rl fl r n)
  | _, _, .dic (a := b) h hk r, n => by
    have hb : b ≠ a := fun z => by
      rcases h with h | ⟨o, h⟩
      · rw [z, ha] at h; cases h
      · rw [z, ha] at h; cases h
    refine .dic ?_ hk (HasL.off ha rl fl r (by rw [← noLk_map]; exact n))
    rcases h with h | ⟨o, h⟩
    · exact .inl (by rw [offG_ne hb]; exact h)
    · exact .inr ⟨o, by rw [offG_ne hb]; exact h⟩
  | _, _, .obj (a := b) hc h hl r, n => by
    have hb : b ≠ a := fun z => by rw [z, ha] at h; cases h
    exact .obj hc (by rw [offG_ne hb]; exact h) hl (HasL.off ha rl fl r n)
theorem HasL.off (ha : G a = some (.lst vs)) (rl : HasL K G vs ds) (fl : ds.all flatD = true) : ∀ {us : List V} {es : List D}, HasL K G us es → noLs ds es = true → HasL K (offG G a) us es
  | _, _, .nil, _ => .nil
  | _, _, .cons h r, n => by
    have n' : (noL ds _ && noLs ds _) = true := n
    rw [Bool.and_eq_true] at n'
    exact .cons (Has.off ha rl fl h n'.1) (HasL.off ha rl fl r n'.2)
end
end
section
variable {X : Cx} {EX : EXS} {pos : Pos}
end
end L3

namespace L3
open PySem L2 Builtin Builtin.Str
theorem str_ext {x y : Str} (h : x.cps.toList = y.cps.toList) : x = y := by
  obtain ⟨a⟩ := x
  obtain ⟨b⟩ := y
  simp only at h
  have : a = b := by
    have := congrArg List.toArray h
    simpa using this
  rw [this]
theorem str_len (x : Str) : x.length = x.cps.toList.length := by simp [Str.length]
theorem str_app (x y : Str) : (x ++ y).cps.toList = x.cps.toList ++ y.cps.toList := by
  show (Str.append x y).cps.toList = _
  simp [Str.append]
theorem str_app_len (x y : Str) : (x ++ y).length = x.length + y.length := by
  rw [str_len, str_len, str_len, str_app, List.length_append]
noncomputable def clipS (n : Nat) (d : Int) : Option Int → Int
  | none => d
  | some i => max 0 (min (if i < 0 then i + (n : Int) else i) (n : Int))
theorem clipS_eq (n d : Nat) (o : Option Int) : clipS n (d : Int) o = ((HT.sIx n d o : Nat) : Int) := by
  cases o with
  | none => rfl
  | some v =>
    show max 0 (min (if v < 0 then v + (n : Int) else v) (n : Int)) = (((if v < 0 then (v + (n : Int)).toNat else min v.toNat n) : Nat) : Int)
    by_cases hv : v < 0
    · simp only [if_pos hv]; omega
    · simp only [if_neg hv]; omega
theorem indices_eq (lo hi : Option Int) (n : Nat) : strSliceIndices lo hi 1 n = (List.range (HT.sIx n n hi - HT.sIx n 0 lo)).map (HT.sIx n 0 lo + ·) := by
  have e : strSliceIndices lo hi 1 n = sliceRange (clipS n ((0 : Nat) : Int) lo) (clipS n (n : Int) hi) 1 := by
    unfold strSliceIndices
    simp only [show ((1 : Int) > 0) = True from by simp, if_true]
    cases lo <;> cases hi <;> rfl
  rw [e, clipS_eq, clipS_eq, sliceRange_one]
theorem slice_list (x : Str) (lo hi : Option Int) : (Txt.slice x lo hi).cps.toList = cutL x.cps.toList lo hi := by
  unfold Txt.slice cutL
  rw [indices_eq]
  have hl : x.cps.toList.length = x.length := (str_len x).symm
  rw [hl]
  have p := pick_run x.cps (HT.sIx x.length 0 lo) (HT.sIx x.length x.length hi - HT.sIx x.length 0 lo)
  split
  · rename_i h
    have h' : ((List.range (HT.sIx x.length x.length hi - HT.sIx x.length 0 lo)).map (HT.sIx x.length 0 lo + ·)).length = x.length := by
      simpa using h
    rw [List.length_map, List.length_range] at h'
    have h3 := HT.sIx_le x.length x.length (Nat.le_refl _) hi
    have h4 := HT.sIx_le x.length 0 (Nat.zero_le _) lo
    have e0 : HT.sIx x.length 0 lo = 0 := by omega
    rw [h', e0, List.drop_zero, List.take_of_length_le (by omega)]
  · rw [p]
end L3

namespace L3
open PySem L2
theorem eqD_int (i j : Int) : eqD (.int i) (.int j) = .ok (.sh (.bl (decide (i = j)))) := by
  have h : eqvD (.int i) (.int j) = decide (i = j) := by
    show (i == j) = decide (i = j)
    rw [Bool.beq_eq_decide_eq]
  show (if eqC (.int i) (.int j) = true then R.ok (W.sh (D.bl (eqvD (.int i) (.int j)))) else .no) = _
  rw [if_pos (by rfl), h]
theorem neD_int (i j : Int) : neD (.int i) (.int j) = .ok (.sh (.bl (!decide (i = j)))) := by
  have h : eqvD (.int i) (.int j) = decide (i = j) := by
    show (i == j) = decide (i = j)
    rw [Bool.beq_eq_decide_eq]
  show (if eqC (.int i) (.int j) = true then R.ok (W.sh (D.bl (!eqvD (.int i) (.int j)))) else .no) = _
  rw [if_pos (by rfl), h]
theorem eqD_str (x y : Str) : eqD (.str x) (.str y) = .ok (.sh (.bl (decide (x = y)))) := rfl
theorem neD_str (x y : Str) : neD (.str x) (.str y) = .ok (.sh (.bl (!decide (x = y)))) := rfl
theorem mulC_l {i j : Int} (h1 : -18446744073709551616 < i) (h2 : i < 18446744073709551616) : mulC i j = true := decide_eq_true (.inl (by omega))
theorem mulC_r {i j : Int} (h1 : -18446744073709551616 < j) (h2 : j < 18446744073709551616) : mulC i j = true := decide_eq_true (.inr (by omega))
theorem mul_ok {i j : Int} (h : mulC i j = true) : mulI (.int i) (.int j) = .ok (.sh (.int (i * j))) := by unfold mulI intD; simp only [h, if_true]
theorem add_ok (i j : Int) : addD (.int i) (.int j) = .ok (.sh (.int (i + j))) := rfl
theorem sub_ok (i j : Int) : subD (.int i) (.int j) = .ok (.sh (.int (i - j))) := rfl
theorem div_ok {i j : Int} (h1 : 0 < j) (h2 : j < 1361129467683753853853498429727072845824) : divD (.int i) (.int j) = .ok (.sh (.int (i / j))) := by
  exact if_pos (show divC i j = true from decide_eq_true ⟨h1, by omega⟩)
theorem mod_ok {i j : Int} (h1 : 0 < j) : modD (.int i) (.int j) = .ok (.sh (.int (i % j))) := by
  exact if_pos (show modC i j = true from decide_eq_true h1)
theorem lt_ok (i j : Int) : ltD (.int i) (.int j) = .ok (.sh (.bl (decide (i < j)))) := rfl
theorem le_ok (i j : Int) : leD (.int i) (.int j) = .ok (.sh (.bl (decide (i ≤ j)))) := rfl
theorem gt_ok (i j : Int) : gtD (.int i) (.int j) = .ok (.sh (.bl (decide (j < i)))) := rfl
theorem ge_ok (i j : Int) : geD (.int i) (.int j) = .ok (.sh (.bl (decide (j ≤ i)))) := rfl
theorem cat_ok {x y : Str} (h : x.length + y.length ≤ 16777216) : addD (.str x) (.str y) = .ok (.sh (.str (x ++ y))) := if_pos h
theorem catL_ok {x y : List D} (h : x.length + y.length ≤ 16777216) : addD (.lst x) (.lst y) = .ok (.ow (.lst (x ++ y))) := if_pos h
theorem shl_ok {i j : Int} (h : powC i j = true) : shlD (.int i) (.int j) = .ok (.sh (.int (i * 2 ^ j.toNat))) := by unfold shlD intD; simp only [h, if_true]
theorem pow_ok {i j : Int} (h : powC i j = true) : powD (.int i) (.int j) = .ok (.sh (.int (i ^ j.toNat))) := by unfold powD intD; simp only [h, if_true]
theorem powC_ok1 {i j : Int} (h1 : 0 ≤ j) (h2 : j ≤ 1000000) (h3 : -18446744073709551616 < i) (h4 : i < 18446744073709551616) : powC i j = true := decide_eq_true ⟨h1, by omega, by omega⟩
theorem len_lst (ds : List D) : lenD [.lst ds] = .ok (.sh (.int ds.length)) := rfl
theorem len_str3 {x : Str} (h : x.length ≤ 16777216) : lenD [.str x] = .ok (.sh (.int x.length)) := if_pos h
theorem max_ok (i j : Int) : maxD [.int i, .int j] = .ok (.sh (.int (max i j))) := by
  show R.ok (W.sh (D.int (if j > i then j else i))) = _
  rw [show (if j > i then j else i) = max i j by rw [Int.max_def]; split <;> split <;> omega]
theorem min_ok (i j : Int) : minD [.int i, .int j] = .ok (.sh (.int (min i j))) := by
  show R.ok (W.sh (D.int (if j < i then j else i))) = _
  rw [show (if j < i then j else i) = min i j by rw [Int.min_def]; split <;> split <;> omega]
theorem ix_lst {ds : List D} {i : Int} {d : D} (h : atI ds i = some d) : ixD (.lst ds) (.int i) = .ok (.sh d) := by unfold ixD; simp only [h]
theorem ix_str3 {x : Str} {i : Int} {c : Nat} (hz : x.length ≤ 16777216) (h : atI x.cps.toList i = some c) : ixD (.str x) (.int i) = .ok (.sh (.str ⟨#[c]⟩)) := by
  unfold ixD
  simp only [h, if_pos hz]
theorem atI_at {α : Type} {xs : List α} {i : Int} {x : α} (h0 : 0 ≤ i) (h : xs[i.toNat]? = some x) : atI xs i = some x := by
  have hl : i.toNat < xs.length := (List.getElem?_eq_some_iff.mp h).1
  unfold atI ixN
  rw [if_pos h0, if_pos (by omega)]
  exact h
theorem loop_ints (fg : FG) (g : FS) (I : Nat → SE → Prop) {n : Nat} {lo : Int} {Δ : SE} (h0 : I 0 Δ)
    (step : ∀ k Δ, k < n → I k Δ → ∃ Δ1, fg (.int (lo + (k : Int))) Δ = .ok Δ1 ∧ ∃ Δ2, (g Δ1 = .nx Δ2 ∨ g Δ1 = .ct Δ2) ∧ I (k + 1) Δ2) : ∃ Δ', sLoop fg g (zints lo n) Δ = .nx Δ' ∧ I n Δ' := by
  have all : ∀ (m k : Nat) (Δ : SE), k + m = n → I k Δ → ∃ Δ', sLoop fg g ((List.range' k m).map fun (j : Nat) => D.int (lo + (j : Int))) Δ = .nx Δ' ∧ I n Δ' := by
    intro m
    induction m with
    | zero => intro k Δ e h; exact ⟨Δ, rfl, by rw [← e]; exact h⟩
    | succ m ih =>
      intro k Δ e h
      obtain ⟨Δ1, e1, Δ2, e2, h2⟩ := step k Δ (by omega) h
      obtain ⟨Δ', e3, h3⟩ := ih (k + 1) Δ2 (by omega) h2
      refine ⟨Δ', ?_, h3⟩
      rw [List.range'_succ, List.map_cons]
      show (match fg (.int (lo + (k : Int))) Δ with
        | .ok Δ1 => (match g Δ1 with
          | .nx Δ2 => sLoop fg g _ Δ2
          | .ct Δ2 => sLoop fg g _ Δ2
          | .bk Δ2 => .nx Δ2
          | r => r)
        | .ex _ => .no
        | .no => .no) = _
      rw [e1]
      rcases e2 with e2 | e2
      · simp only [e2]; exact e3
      · simp only [e2]; exact e3
  obtain ⟨Δ', e, h⟩ := all n 0 Δ (by omega) h0
  refine ⟨Δ', ?_, h⟩
  unfold zints
  rw [List.range_eq_range']
  exact e
theorem loop_list (fg : FG) (g : FS) (I : Nat → SE → Prop) {ds : List D} {Δ : SE} (h0 : I 0 Δ)
    (step : ∀ k d Δ, ds[k]? = some d → I k Δ → ∃ Δ1, fg d Δ = .ok Δ1 ∧ ∃ Δ2, (g Δ1 = .nx Δ2 ∨ g Δ1 = .ct Δ2) ∧ I (k + 1) Δ2) : ∃ Δ', sLoop fg g ds Δ = .nx Δ' ∧ I ds.length Δ' := by
  have all : ∀ (m k : Nat) (Δ : SE), k + m = ds.length → I k Δ → ∃ Δ', sLoop fg g (ds.drop k) Δ = .nx Δ' ∧ I ds.length Δ' := by
    intro m
    induction m with
    | zero =>
      intro k Δ e h
      rw [List.drop_eq_nil_of_le (by omega)]
      exact ⟨Δ, rfl, by rw [← e]; exact h⟩
    | succ m ih =>
      intro k Δ e h
      obtain ⟨d, d1, d2⟩ := drop_one (l := ds) (i := k) (by omega)
      obtain ⟨Δ1, e1, Δ2, e2, h2⟩ := step k d Δ d1 h
      obtain ⟨Δ', e3, h3⟩ := ih (k + 1) Δ2 (by omega) h2
      refine ⟨Δ', ?_, h3⟩
      rw [d2]
      show (match fg d Δ with
        | .ok Δ1 => (match g Δ1 with
          | .nx Δ2 => sLoop fg g (ds.drop (k + 1)) Δ2
          | .ct Δ2 => sLoop fg g (ds.drop (k + 1)) Δ2
          | .bk Δ2 => .nx Δ2
          | r => r)
        | .ex _ => .no
        | .no => .no) = _
      rw [e1]
      rcases e2 with e2 | e2
      · simp only [e2]; exact e3
      · simp only [e2]; exact e3
  have := all ds.length 0 Δ (by omega) h0
  rwa [List.drop_zero] at this
end L3
namespace L3
open PySem L2
theorem rng1_ok {j : Int} (h1 : -4611686018427387903 ≤ j) (h2 : j < 4611686018427387904) : rng1 [.int j] = .ok (zints 0 j.toNat) := by
  have h : j.natAbs < 4611686018427387904 := by omega
  exact if_pos h
theorem eComp_ok {m : Nat} {fi : FI} {fg : FGc} {p : FT} {f : FE} {δ : DE} {ds rs : List D} (h : fi δ = .ok ds) (hl : ds.length ≤ 16777216) (hc : compD fg p f (δ ++ List.replicate m none) ds = .ok rs) : eComp m fi fg p f δ = .ok (.ow (.lst rs)) := by
  unfold eComp
  rw [h]
  simp only [R.bind_ok]
  rw [if_pos hl, hc]
  rfl
theorem compZ {fg : FGc} {p : FT} {f : FE} {δ : DE} : ∀ (n : Nat) (lo : Int), (∀ k : Nat, k < n → ∃ δ1 z, fg (.int (lo + (k : Int))) δ = .ok δ1 ∧ p δ1 = .ok true ∧ f δ1 = .ok (.sh (.int z))) →
    ∃ cs : List Int, cs.length = n ∧ compD fg p f δ (zints lo n) = .ok (cs.map D.int) := by
  have all : ∀ (es : List Nat) (lo : Int), (∀ k ∈ es, ∃ δ1 z, fg (.int (lo + ((k : Nat) : Int))) δ = .ok δ1 ∧ p δ1 = .ok true ∧ f δ1 = .ok (.sh (.int z))) →
      ∃ cs : List Int, cs.length = es.length ∧ compD fg p f δ (es.map fun (k : Nat) => D.int (lo + (k : Int))) = .ok (cs.map D.int) := by
    intro es lo
    induction es with
    | nil => intro _; exact ⟨[], rfl, rfl⟩
    | cons k es ih =>
      intro h
      obtain ⟨δ1, z, e1, e2, e3⟩ := h k List.mem_cons_self
      obtain ⟨cs, l5, e5⟩ := ih fun j hj => h j (List.mem_cons_of_mem _ hj)
      refine ⟨z :: cs, by simp [l5], ?_⟩
      rw [List.map_cons, List.map_cons]
      show ((fg (.int (lo + (k : Int))) δ).bind fun δ1 => (p δ1).bind fun b => if b = true then (f δ1).bind fun w => (compD fg p f δ _).bind fun rs => .ok (w.d :: rs) else compD fg p f δ _) = _
      rw [e1]
      simp only [R.bind_ok, e2, if_true, e3]
      rw [e5]
      rfl
  intro n lo h
  obtain ⟨cs, l, e⟩ := all (List.range n) lo fun k hk => h k (List.mem_range.mp hk)
  exact ⟨cs, by rw [l, List.length_range], e⟩
end L3
namespace L3
open PySem L2
theorem while_go {js : List Nat} {p : FT} {g : FS} {n : Nat} {Δ Δ' : SE} (h1 : p (vall Δ) = .ok true) (h2 : g Δ = .nx Δ') : sWhile js p g (n + 1) Δ = sWhile js p g n Δ' := by
  show (match p (vall Δ) with
    | .ok b => if b = true then (match g Δ with
        | .nx Δ' => sWhile js p g n Δ'
        | .ct Δ' => sWhile js p g n Δ'
        | .bk Δ' => .nx Δ'
        | r => r) else .nx Δ
    | .ex _ => exT js p Δ
    | .no => .no) = _
  rw [h1]
  simp only [if_true, h2]
theorem while_end {js : List Nat} {p : FT} {g : FS} {n : Nat} {Δ : SE} (h1 : p (vall Δ) = .ok false) : sWhile js p g (n + 1) Δ = .nx Δ := by
  show (match p (vall Δ) with
    | .ok b => if b = true then (match g Δ with
        | .nx Δ' => sWhile js p g n Δ'
        | .ct Δ' => sWhile js p g n Δ'
        | .bk Δ' => .nx Δ'
        | r => r) else .nx Δ
    | .ex _ => exT js p Δ
    | .no => .no) = _
  rw [h1]
  simp only [Bool.false_eq_true, if_false]
end L3
namespace L3
open PySem L2
theorem pub_sh (d : D) : Sl.pub (.sh d) = some d := rfl
theorem pub_ow (d : D) : Sl.pub (.ow d) = none := rfl
theorem pub_no : Sl.pub .no = none := rfl
theorem any_sh (d : D) : Sl.any (.sh d) = some d := rfl
theorem any_ow (d : D) : Sl.any (.ow d) = some d := rfl
theorem any_no : Sl.any .no = none := rfl
theorem give_sh (d : D) : Sl.give (.sh d) = .sh d := rfl
theorem give_ow (d : D) : Sl.give (.ow d) = .sh d := rfl
theorem give_no : Sl.give .no = .no := rfl
end L3

namespace L3
open PySem L2
theorem seq_nx {g h : FS} {Δ Δ' : SE} (e : g Δ = .nx Δ') : sSeq g h Δ = h Δ' := by unfold sSeq; rw [e]
theorem comp_list {fg : FGc} {p : FT} {f : FE} {δ : DE} (P : D → Bool) (F : D → D) : ∀ (ds : List D), (∀ d ∈ ds, ∃ δ1, fg d δ = .ok δ1 ∧ p δ1 = .ok (P d) ∧ (P d = true → ∃ w, f δ1 = .ok w ∧ w.d = F d)) →
    compD fg p f δ ds = .ok ((ds.filter P).map F)
  | [], _ => rfl
  | d :: ds, h => by
    obtain ⟨δ1, e1, e2, e3⟩ := h d List.mem_cons_self
    have ih := comp_list P F ds fun x hx => h x (List.mem_cons_of_mem _ hx)
    show ((fg d δ).bind fun δ1 => (p δ1).bind fun b => if b = true then (f δ1).bind fun w => (compD fg p f δ ds).bind fun rs => .ok (w.d :: rs) else compD fg p f δ ds) = _
    rw [e1]
    simp only [R.bind_ok, e2]
    cases hP : P d with
    | true =>
      obtain ⟨w, e4, e5⟩ := e3 hP
      rw [if_pos rfl, e4, ih]
      simp only [R.bind_ok, e5, List.filter_cons_of_pos hP, List.map_cons]
    | false =>
      rw [if_neg Bool.false_ne_true, ih, List.filter_cons_of_neg (by rw [hP]; exact Bool.false_ne_true)]
theorem comp_map {fg : FGc} {f : FE} {δ : DE} (F : D → D) (ds : List D) (h : ∀ d ∈ ds, ∃ δ1 w, fg d δ = .ok δ1 ∧ f δ1 = .ok w ∧ w.d = F d) :
    compD fg (fun _ => .ok true) f δ ds = .ok (ds.map F) := by
  have := comp_list (fg := fg) (p := fun _ => .ok true) (f := f) (δ := δ) (fun _ => true) F ds fun d hd => by
    obtain ⟨δ1, w, e1, e2, e3⟩ := h d hd
    exact ⟨δ1, e1, rfl, fun _ => ⟨w, e2, e3⟩⟩
  rw [this, List.filter_eq_self.mpr fun _ _ => rfl]
theorem canInts : ∀ (ns : List Int), PyData.canLayAll0 (toPys (ns.map .int)) = true
  | [] => rfl
  | n :: ns => by
    show (PyData.canLay0 (.int n) && PyData.canLayAll0 (toPys (ns.map .int))) = true
    rw [canInts ns]; rfl
theorem depthInts : ∀ (ns : List Int), PyData.depthAll (toPys (ns.map .int)) ≤ 0
  | [] => Nat.le_refl _
  | n :: ns => by
    show max (PyData.depth (.int n)) (PyData.depthAll (toPys (ns.map .int))) ≤ 0
    exact Nat.max_le.mpr ⟨Nat.le_refl _, depthInts ns⟩
theorem eqC_ints (ns ms : List Int) : eqC (.lst (ns.map .int)) (.lst (ms.map .int)) = true := by
  unfold eqC
  rw [Bool.and_eq_true, Bool.and_eq_true]
  refine ⟨⟨canInts ns, canInts ms⟩, decide_eq_true ?_⟩
  show PyData.depthAll (toPys (ns.map .int)) + 1 ≤ 60
  have := depthInts ns
  omega
theorem eqvs_self : ∀ (ns : List Int), PyData.eqvAll (toPys (ns.map .int)) (toPys (ns.map .int)) = true
  | [] => rfl
  | n :: ns => by
    show (PyData.eqv (.int n) (.int n) && PyData.eqvAll (toPys (ns.map .int)) (toPys (ns.map .int))) = true
    rw [eqvs_self ns]
    simp [PyData.eqv]
end L3
namespace L3
open PySem L2
theorem slice_mid (x : Str) (a b : Nat) (h1 : a ≤ b) (h2 : b ≤ x.length) : (Txt.slice x (some (a : Int)) (some (b : Int))).cps.toList = (x.cps.toList.drop a).take (b - a) := by
  rw [slice_list]
  unfold cutL
  rw [← str_len]
  have e1 : HT.sIx x.length 0 (some (a : Int)) = a := by
    show (if (a : Int) < 0 then ((a : Int) + (x.length : Int)).toNat else min (a : Int).toNat x.length) = a
    rw [if_neg (by omega)]
    omega
  have e2 : HT.sIx x.length x.length (some (b : Int)) = b := by
    show (if (b : Int) < 0 then ((b : Int) + (x.length : Int)).toNat else min (b : Int).toNat x.length) = b
    rw [if_neg (by omega)]
    omega
  rw [e1, e2]
theorem loop_while {js : List Nat} {p : FT} {g : FS} (st : Nat → SE) {m fuel : Nat} (hf : m < fuel) (go : ∀ i, i < m → p (vall (st i)) = .ok true ∧ g (st i) = .nx (st (i + 1))) (stop : p (vall (st m)) = .ok false) : sWhile js p g fuel (st 0) = .nx (st m) := by
  have all : ∀ (k i fuel : Nat), i + k = m → k < fuel → sWhile js p g fuel (st i) = .nx (st m) := by
    intro k
    induction k with
    | zero =>
      intro i fuel e hf
      obtain ⟨f, rfl⟩ : ∃ f, fuel = f + 1 := ⟨fuel - 1, by omega⟩
      have : i = m := by omega
      subst this
      exact while_end stop
    | succ k ih =>
      intro i fuel e hf
      obtain ⟨f, rfl⟩ : ∃ f, fuel = f + 1 := ⟨fuel - 1, by omega⟩
      obtain ⟨h1, h2⟩ := go i (by omega)
      rw [while_go h1 h2]
      exact ih (i + 1) f (by omega) (by omega)
  exact all m 0 fuel (by omega) hf
theorem strsD_map {α : Type} (f : α → Str) : ∀ l : List α, strsD (l.map fun a => .str (f a)) = some (l.map f)
  | [] => rfl
  | a :: l => by
    show (strsD (l.map fun a => .str (f a))).map (f a :: ·) = _
    rw [strsD_map f l]
    rfl
theorem glue_fold : ∀ (l : List Str) (acc : Array Nat), (l.foldl (fun acc p => acc ++ (Str.ofString "").cps ++ p.cps) acc).toList = acc.toList ++ (l.map fun x => x.cps.toList).flatten
  | [], acc => by simp
  | x :: l, acc => by
    rw [List.foldl_cons, glue_fold l]
    have e : (Str.ofString "").cps = #[] := rfl
    simp [e]
theorem join_nil (l : List Str) : (Txt.join (Str.ofString "") l).cps.toList = (l.map fun x => x.cps.toList).flatten := by
  unfold Txt.join Builtin.Str.glued
  cases l with
  | nil => rfl
  | cons x l =>
    show (l.foldl (fun acc p => acc ++ (Str.ofString "").cps ++ p.cps) x.cps).toList = _
    rw [glue_fold]
    simp
theorem joinS_ok {α : Type} (f : α → Str) (l : List α) (h : ((l.map f).map (·.length)).sum ≤ 16777216) : joinS (.str "") [.lst (l.map fun a => .str (f a))] = .ok (.sh (.str (Txt.join (Str.ofString "") (l.map f)))) := by
  unfold joinS
  simp only [strsD_map]
  have e : Str.length (Str.ofString "") = 0 := rfl
  exact if_pos (by rw [e]; omega)
end L3
namespace L3
open PySem L2
theorem isT_int_non : isT "int" .non = some false := rfl
theorem isT_int_bl (b : Bool) : isT "int" (.bl b) = some true := rfl
theorem isT_int_int (i : Int) : isT "int" (.int i) = some true := rfl
theorem isT_int_str (x : Str) : isT "int" (.str x) = some false := rfl
theorem isT_int_lst (l : List D) : isT "int" (.lst l) = some false := rfl
theorem isT_int_tup (l : List D) : isT "int" (.tup l) = some false := rfl
theorem isT_bool_non : isT "bool" .non = some false := rfl
theorem isT_bool_bl (b : Bool) : isT "bool" (.bl b) = some true := rfl
theorem isT_bool_int (i : Int) : isT "bool" (.int i) = some false := rfl
theorem isT_bool_str (x : Str) : isT "bool" (.str x) = some false := rfl
theorem isT_bool_lst (l : List D) : isT "bool" (.lst l) = some false := rfl
theorem isT_bool_tup (l : List D) : isT "bool" (.tup l) = some false := rfl
theorem isT_str_non : isT "str" .non = some false := rfl
theorem isT_str_bl (b : Bool) : isT "str" (.bl b) = some false := rfl
theorem isT_str_int (i : Int) : isT "str" (.int i) = some false := rfl
theorem isT_str_str (x : Str) : isT "str" (.str x) = some true := rfl
theorem isT_str_lst (l : List D) : isT "str" (.lst l) = some false := rfl
theorem isT_str_tup (l : List D) : isT "str" (.tup l) = some false := rfl
theorem isT_list_non : isT "list" .non = some false := rfl
theorem isT_list_bl (b : Bool) : isT "list" (.bl b) = some false := rfl
theorem isT_list_int (i : Int) : isT "list" (.int i) = some false := rfl
theorem isT_list_str (x : Str) : isT "list" (.str x) = some false := rfl
theorem isT_list_lst (l : List D) : isT "list" (.lst l) = some true := rfl
theorem isT_list_tup (l : List D) : isT "list" (.tup l) = some false := rfl
theorem isT_tuple_non : isT "tuple" .non = some false := rfl
theorem isT_tuple_bl (b : Bool) : isT "tuple" (.bl b) = some false := rfl
theorem isT_tuple_int (i : Int) : isT "tuple" (.int i) = some false := rfl
theorem isT_tuple_str (x : Str) : isT "tuple" (.str x) = some false := rfl
theorem isT_tuple_lst (l : List D) : isT "tuple" (.lst l) = some false := rfl
theorem isT_tuple_tup (l : List D) : isT "tuple" (.tup l) = some true := rfl
end L3

namespace L3
open PySem PySem.Spec PyProof.Rows L2
noncomputable def overVE : List Value → Bool
  | .ref _ :: r => overVE r
  | l => l == [.type "ValueError", .type "Exception", .type "BaseException", .type "object"]
theorem overVE_passes (self : Value) : ∀ {l : List Value}, overVE l = true → refuseLoop self "__setattr__" l = pure ()
  | [], e => by cases e
  | .ref c :: r, e => by rw [refuseLoop_ref]; exact overVE_passes self e
  | .type n :: r, e => by
    have e' : (Value.type n :: r) = [.type "ValueError", .type "Exception", .type "BaseException", .type "object"] := eq_of_beq e
    rw [e']
    exact PySem.F.store_ValueError.passes self
  | .none :: r, e => by cases (eq_of_beq (show ((Value.none :: r) == [.type "ValueError", .type "Exception", .type "BaseException", .type "object"]) = true from e))
  | .bool b :: r, e => by cases (eq_of_beq (show ((Value.bool b :: r) == [.type "ValueError", .type "Exception", .type "BaseException", .type "object"]) = true from e))
  | .int b t :: r, e => by cases (eq_of_beq (show ((Value.int b t :: r) == [.type "ValueError", .type "Exception", .type "BaseException", .type "object"]) = true from e))
  | .str b t :: r, e => by cases (eq_of_beq (show ((Value.str b t :: r) == [.type "ValueError", .type "Exception", .type "BaseException", .type "object"]) = true from e))
  | .builtin b :: r, e => by cases (eq_of_beq (show ((Value.builtin b :: r) == [.type "ValueError", .type "Exception", .type "BaseException", .type "object"]) = true from e))

theorem overVE_has : ∀ {l : List Value}, overVE l = true → l.contains (.type "object") = true ∧ l.isEmpty = false
  | [], e => by cases e
  | .ref c :: r, e => ⟨by rw [List.contains_cons, (overVE_has (l := r) e).1, Bool.or_true], rfl⟩
  | .type n :: r, e => by
    have e' : (Value.type n :: r) = [.type "ValueError", .type "Exception", .type "BaseException", .type "object"] := eq_of_beq e
    rw [e']
    exact ⟨by decide, rfl⟩
  | .none :: r, e => by cases (eq_of_beq (show ((Value.none :: r) == [.type "ValueError", .type "Exception", .type "BaseException", .type "object"]) = true from e))
  | .bool b :: r, e => by cases (eq_of_beq (show ((Value.bool b :: r) == [.type "ValueError", .type "Exception", .type "BaseException", .type "object"]) = true from e))
  | .int b t :: r, e => by cases (eq_of_beq (show ((Value.int b t :: r) == [.type "ValueError", .type "Exception", .type "BaseException", .type "object"]) = true from e))
  | .str b t :: r, e => by cases (eq_of_beq (show ((Value.str b t :: r) == [.type "ValueError", .type "Exception", .type "BaseException", .type "object"]) = true from e))
  | .builtin b :: r, e => by cases (eq_of_beq (show ((Value.builtin b :: r) == [.type "ValueError", .type "Exception", .type "BaseException", .type "object"]) = true from e))
structure XCls (K : PySem.W.Frag) (C : Addr) : Prop where
  sa : PySem.W.findIn K (.ref C) "__setattr__" = some (some (.builtin "object.__setattr__"))
  over : (PySem.W.clsIn K C).any (fun cd => overVE cd.mro && cd.hasDict) = true
section
variable {prog : Program} {w : World} {A : Around} {E : Value → Shared → Prop} {s : Shared} {K : PySem.W.Frag} {x C : Addr} {R : Result → Shared → Prop}
theorem osa_exc {ox : Obj} {od : Option Obj} {name : Str} {tk : Tok} {v : Value} (X : K.In s.heap) (I : PySem.W.InstAt s.heap x ox C od) (xc : XCls K C) (ha : PySem.W.findIn K (.ref C) name = some none)
    (h : wpAny (model prog w) A.in1 (Builtin.ObjectAttr.storeInOwnDict (.ref x) (.ref C) (.str name tk) name v false)
      (fun fin s' => match fin with | .done f => R (.ok f) s' | .again c' => c'.quiet = true ∧ codeAny (model prog w) A c' R s') (fun e s' => R (.error e) s') s) :
    codeAny (model prog w) A (.call (.builtin "object.__setattr__") ⟨[.ref x, .str name tk, v], []⟩) R s := by
  have SF := PySem.F.store_object
  obtain ⟨cd, hc, ho⟩ := PySem.W.any_some xc.over
  rw [Bool.and_eq_true] at ho
  obtain ⟨hs1, hs2⟩ := overVE_has ho.1
  have sub : PySem.W.Looks (model prog w) s.heap (isInstance (.ref x) (.type "object")) true := I.type.andThen (PySem.W.looks_mroIn X (by unfold PySem.W.mroIn; rw [hc, Option.bind_some, if_neg (by rw [hs2]; decide), hs1]))
  refine codeAny_call_builtin SF.slot.plain SF.entry (@PySem.W.check_slot (model prog w) _ _ s "object.__setattr__" "object" "__setattr__" (.ref x) [.str name tk, v] [] _ SF.kind SF.split sub (SF.args (.ref x) (.str name tk) v) ?_)
  have hm : PySem.W.Looks (model prog w) s.heap (mroOf (.ref C)) cd.mro := (PySem.W.looks_clsIn X hc).andThen .now
  rw [PySem.W.osa_eq, refuse_eq]
  refine wpAny_bind (wpAny_bind (I.type.here (wpAny_bind (hm.here ?_))))
  rw [overVE_passes _ ho.1]
  refine wpAny_pure (wpAny_bind (I.type.here (wpAny_bind ((PySem.W.looks_findIn X ha).here (wpAny_bind (wpAny_pure (a := (none : Option Value)) ?_))))))
  exact h
theorem first_key {D : Addr} {name : Str} {tk : Tok} {v : Value} {Q : PySem.Fin → Shared → Prop} (hD : s.heap.get? D = some { cls := .type "dict", data := .dict #[] })
    (h : ∀ h' tk, h'.Ns1 D (fun y => if y = name then some v else none) → Heap.SameBut D s.heap h' → Q (.done (.ret .none)) { s with heap := h', toks := tk }) : wpAny (model prog w) A (Builtin.ObjectAttr.storeInDict D (.str name tk) name v) Q E s := by
  have none0 : s.heap.Ns D fun _ => none := ⟨_, #[], _, hD, rfl, fun _ he => (Array.not_mem_empty _ he).elim, fun _ => rfl⟩
  unfold Builtin.ObjectAttr.storeInDict Builtin.ObjectAttr.newKeyGuard
  wp_walk using wpAny_nsSet1 (Heap.Ns1.of_empty none0)
  intro h' n sb
  obtain ⟨o, es, ep, at1, is1, few⟩ := n.count (.cons name v .nil)
  have le : es.size ≤ sizeLine + 1 := Nat.le_trans few (by simp [sizeLine_eq])
  exact wpAny_bind (wpAny_lookBehind at1 (is1 ▸ pastItsLine_dict le) (wpAny_pure (h h' _ n sb)))
theorem setattr_exc {name : Str} {v : Value} {us : Array Value} {Q : Unit → Shared → Prop} (X : K.In s.heap) (hx : s.heap.get? x = some ⟨.ref C, none, .fields us, #[]⟩) (xc : XCls K C) (ha : PySem.W.findIn K (.ref C) name = some none)
    (h : ∀ h' tk, h'.get? x = some ⟨.ref C, some s.heap.objs.size, .fields us, #[]⟩ → h'.Ns1 s.heap.objs.size (fun y => if y = name then some v else none) → (∀ b o, b ≠ x → s.heap.get? b = some o → h'.get? b = some o) → Q () { s with heap := h', toks := tk }) :
    wpAny (model prog w) A (setAttr (.ref x) name v) Q E s := by
  have I : PySem.W.InstAt s.heap x ⟨.ref C, none, .fields us, #[]⟩ C none := ⟨hx, rfl, rfl, True.intro⟩
  refine PySem.W.set_plain X I xc.sa (osa_exc (s := { s with toks := s.toks + 1 }) X I xc ha ?_)
  obtain ⟨cd, hc, hd'⟩ := PySem.W.any_some xc.over
  rw [Bool.and_eq_true] at hd'
  refine wpAny_bind (wpAny_pure (wpAny_bind (wpAny_bind (wpAny_loadPart (s := { s with toks := s.toks + 1 }) hx (wpAny_bind (PySem.W.Looks.here (s := { s with toks := s.toks + 1 }) (PySem.W.looks_clsIn X hc) ?_))))))
  rw [hd'.2]
  
  have neD : x ≠ s.heap.objs.size := Nat.ne_of_lt (Heap.lt_size hx)
  have old : ∀ b o, b ≠ x → s.heap.get? b = some o → ((s.heap.push { cls := .type "dict", data := .dict #[] }).update x fun o => { o with dict := some s.heap.objs.size }).get? b = some o := fun b o hb e => by
    rw [Heap.get?_update_ne _ _ _ _ hb]; exact Heap.get?_push_of_some _ e
  have itself := Heap.get?_update_self (fun o : Obj => { o with dict := some s.heap.objs.size }) (Heap.get?_push_of_some { cls := .type "dict", data := .dict #[] } hx) rfl
  have isD : ((s.heap.push { cls := .type "dict", data := .dict #[] }).update x fun o => { o with dict := some s.heap.objs.size }).get? s.heap.objs.size = some { cls := .type "dict", data := .dict #[] } := by
    rw [Heap.get?_update_ne _ _ _ _ (Ne.symm neD)]; exact Heap.get?_push_size _ rfl
  refine wpAny_bind (wpAny_alloc' (wpAny_bind (wpAny_update' (Heap.get?_push_of_some _ hx) (wpAny_pure (first_key isD fun h' tk n sb => h h' tk ?_ n fun b o hb e => ?_)))))
  · rw [sb.2 x neD]; exact itself
  · rw [sb.2 b (Nat.ne_of_lt (Heap.lt_size e))]; exact old b o hb e
end
end L3

namespace L3
open PySem PySem.Spec PyProof.Rows L2
noncomputable def XE (a : Addr) (o : Obj) : HO := .ext fun h => h.get? a = some o
theorem XE.ok {P : Program} {w : World} {H : Hp} {h : Heap} {a : Addr} {o : Obj} (e : h.get? a = some o) : ObjOk P w H h a (XE a o) := ⟨e, ⟨o, e⟩, fun _ _ p k => k _ p⟩
theorem XE.get {P : Program} {w : World} {H : Hp} {h : Heap} {a : Addr} {o : Obj} (x : HOk P w H h) (e : H a = some (XE a o)) : h.get? a = some o := (x a _ e).1
theorem XO.ok {P : Program} {w : World} {H : Hp} {h : Heap} {a C : Addr} {dx : Option Addr} {us : Array Value} {sl : Array (Option Value)} (e : h.get? a = some ⟨.ref C, dx, .fields us, sl⟩) : ObjOk P w H h a (XO a C dx) :=
  ⟨⟨us, sl, e⟩, ⟨_, e⟩, fun _ _ ⟨us, sl, p⟩ k => ⟨us, sl, k _ p⟩⟩
section
variable {X : Cx} {pins : List (Addr × Obj)} {σ : Sg} {H : Hp} {s : Shared}
theorem Inv.excSet {a : Addr} {o0 o1 : Obj} {h' : Heap} {t' : Nat} {fs : List (Str × V)} {mA : Str → Option Value} (I : Inv X pins σ H s) (e : H a = some (XE a o0)) (hx : h'.get? a = some o1) (hn : h'.Ns1 s.heap.objs.size mA) (hr : ∀ f, RelO (fs.lookup f) (mA f))
    (k : ∀ b o, b ≠ a → s.heap.get? b = some o → h'.get? b = some o) : Inv X pins σ (upd (upd H s.heap.objs.size (.xd fs)) a (XE a o1)) { s with heap := h', toks := t' } := by
  have hf : H s.heap.objs.size = none := I.hok.fresh (Nat.le_refl _)
  have other : ∀ b u, H b = some u → b ≠ a → (upd (upd H s.heap.objs.size (.xd fs)) a (XE a o1)) b = some u := fun b u q n => by
    rw [upd_ne n, upd_ne (ne_of_none q hf)]; exact q
  refine I.un (h' := h') ⟨fun b o q n _ _ => k b o (fun z => by subst z; rw [e] at n; cases n) q, fun b o q n _ _ => ⟨o.slots, k b o (fun z => by subst z; rw [e] at n; cases n) q⟩, fun b o q n _ => ?_, fun b o q _ => ?_, fun b xs q => ?_, fun b o u q => ?_, fun b ps q => ?_⟩ fun b u q => ?_
  · rw [upd_ne (fun z => by subst z; rw [e] at n; cases n), upd_ne (Nat.ne_of_lt (Heap.lt_size q))]; exact n
  · by_cases z : b = a
    · subst z; exact ⟨_, hx⟩
    · exact ⟨_, k b o z q⟩
  · exact other b _ q fun z => by subst z; rw [e] at q; cases q
  · exact other b _ q fun z => by subst z; rw [e] at q; cases q
  · exact ⟨#[], by rw [other b _ q fun z => by subst z; rw [e] at q; cases q]; simp⟩
  · by_cases z : b = a
    · subst z
      rw [upd_same] at q
      cases q
      exact XE.ok hx
    · rw [upd_ne z] at q
      by_cases z2 : b = s.heap.objs.size
      · subst z2
        rw [upd_same] at q
        cases q
        exact ⟨mA, hn, hr⟩
      · rw [upd_ne z2] at q
        refine (I.hok b u q).stay (fun c v hc z3 => k c v ?_ z3) (fun c z3 => other c _ z3 fun z4 => ?_) fun c xs z3 => other c _ z3 fun z4 => ?_
        · rcases hc with rfl | hc
          · exact z
          · exact fun z4 => by subst z4; rw [e] at hc; cases hc
        · subst z4; rw [e] at z3; cases z3
        · subst z4; rw [e] at z3; cases z3
theorem Inv.forget {a : Addr} {φ : Heap → Prop} (I : Inv X pins σ (upd H a (.ext φ)) s) (hn : H a = none) : Inv X pins σ H s := by
  have sub : ∀ b u, H b = some u → upd H a (.ext φ) b = some u := fun b u e => by rw [upd_ne (ne_of_none e hn)]; exact e
  have nf : ∀ b, upd H a (.ext φ) b = none → H b = none := fun b e => by
    by_cases z : b = a
    · subst z; exact hn
    · rw [upd_ne z] at e; exact e
  have bk : ∀ b u, upd H a (.ext φ) b = some u → (∀ ψ, u ≠ .ext ψ) → H b = some u := fun b u e n => by
    by_cases z : b = a
    · subst z; rw [upd_same] at e; cases e; exact absurd rfl (n φ)
    · rw [upd_ne z] at e; exact e
  have B := I.base
  refine ⟨I.ok, I.os, I.bare, ⟨B.keep, B.slot, fun b u q n x => nf b (B.free b u q n x), B.there, fun b xs q => bk _ _ (B.tups b xs q) (fun _ z => nomatch z), fun b u v q => bk _ _ (B.frzs b u v q) (fun _ z => nomatch z), fun b ps q => ?_⟩, I.loc, I.cell, nf _ I.free, fun x c e => nf _ (I.freeC x c e), fun p hp => ?_, fun b u e => ?_, I.len⟩
  · obtain ⟨more, z⟩ := B.tbls b ps q
    exact ⟨more, bk _ _ z (fun _ z => nomatch z)⟩
  · obtain ⟨p1, p2, p3⟩ := I.pin p hp
    exact ⟨p1, nf _ p2, p3⟩
  · exact (I.hok b u (sub b u e)).stay (fun _ _ _ q => q) (fun c q => bk _ _ q (fun _ z => nomatch z)) (fun c xs q => bk _ _ q (fun _ z => nomatch z))
end

noncomputable def spInit (C : Addr) (f : Str) : Sp := fun vs H Q _ => ∃ a v us, vs = [.ref a, v] ∧ H a = some (XE a ⟨.ref C, none, .fields us, #[]⟩) ∧ ∀ d, H d = none → d ≠ a → Q .non (upd (upd H d (.xd [(f, v)])) a (XE a ⟨.ref C, some d, .fields us, #[]⟩))
section
variable {X : Cx} {C : Addr} {f : Str} {pos pos' p1 p2 : Pos} {x y : Str}
noncomputable def sFldX (C : Addr) (f : Str) : TS := fun D σ H => ∃ a v us, σ[0]? = some (some (.ref a)) ∧ σ[1]? = some (some v) ∧ H a = some (XE a ⟨.ref C, none, .fields us, #[]⟩) ∧ ∀ d, H d = none → d ≠ a → D.nx σ (upd (upd H d (.xd [(f, v)])) a (XE a ⟨.ref C, some d, .fields us, #[]⟩))
theorem ps_fldX (xc : XCls X.K C) (hn : PySem.W.findIn X.K (.ref C) f = some none) (ho : PE X (.Name x p1) (tVar 0)) (hv : PE X (.Name y p2) (tVar 1)) (hs : swapsWith (.Name y p2) (some (.Attribute (.Name x p1) f pos')) pos.line X.env = pure false := by rfl) :
    PS X (.Assign [.Attribute (.Name x p1) f pos'] (.Name y p2) pos) (sFldX C f) := by
  intro pins s σ H D I h
  obtain ⟨a, v, us, e0, e1, ha, q⟩ := h
  refine plainObj_wpAny_Assign_Attribute (thn (hv pins s σ H (fun y H1 => y = v ∧ H1 = H) I ⟨v, e1, rfl, rfl⟩) fun u s1 ⟨y, H1, I1, ry, ey, eH⟩ => thn (ho pins s1 σ H1 (fun y H2 => y = .ref a ∧ H2 = H) I1 ⟨.ref a, e0, rfl, eH⟩) fun ov s2 ⟨x, H2, I2, rx, ex, eH2⟩ => ?_) hs
  subst ey ex eH eH2
  obtain rfl : ov = Value.ref a := rx
  refine setattr_exc I2.kIn (XE.get I2.hok ha) xc hn fun h' tk g1 g2 g3 => ?_
  refine ⟨σ, _, Inv.excSet I2 (t' := tk) (fs := [(f, y)]) ha g1 g2 (fun g => ?_) g3, q _ (I2.hok.fresh (Nat.le_refl _)) ?_⟩
  · show RelO ([(f, y)].lookup g) (if g = f then some u else none)
    by_cases z : g = f
    · subst z; rw [if_pos rfl]; simp only [List.lookup_cons, beq_self_eq_true]; exact ry
    · rw [if_neg z]
      have zb : (g == f) = false := by simpa using z
      simp only [List.lookup_cons, zb, List.lookup_nil]
      trivial
  · exact Nat.ne_of_gt (Heap.lt_size (XE.get I2.hok ha))
end
end L3

namespace L3
open PySem PySem.Spec PyProof.Rows L2
noncomputable abbrev bmVE : List Value := [.type "ValueError", .type "Exception", .type "BaseException", .type "object"]
noncomputable def strKeysB (es : Array DictEntry) : Bool := es.toList.all fun e => match e.key with | .str _ _ => true | _ => false
theorem strKeys_of {es : Array DictEntry} (h : strKeysB es = true) : StrKeys es := fun e he => by
  have q := List.all_eq_true.mp h e (Array.mem_toList_iff.mpr he)
  revert q
  cases hk : e.key with
  | str n t => intro _; exact ⟨n, t, rfl⟩
  | _ => intro q; cases q
theorem ns_of {K : PySem.W.Frag} {N : Addr} {oc : Value} {od : Option Addr} {es : Array DictEntry} {ep : Nat} {sl : Array (Option Value)} (l : K.lookup N = some ⟨oc, od, .dict es ep, sl⟩) (k : strKeysB es = true) {h : Heap} (X : K.In h) : h.Ns N (nsFind es) :=
  ⟨_, es, ep, X _ _ l, rfl, strKeys_of k, fun _ => rfl⟩
noncomputable def XMk (K : PySem.W.Frag) (C fI : Addr) : Prop := ∃ (nm q : Str) (N : Addr) (bs bm : List Value) (sn : List Str) (sub : List Value) (ab : Bool) (col : Option Bool) (dd : Option Addr) (k0 k1 k2 k3 k5 : Option Value) (mN : Str → Option Value),
  K.lookup C = some (excClassObj nm q C N bs bm true sn sub ab col dd k0 k1 k2 k3 k5 "ValueError.__new__") ∧ (∀ h : Heap, K.In h → OwnTail h bmVE bm) ∧ (∀ h : Heap, K.In h → h.Ns N mN) ∧ mN "__init__" = some (.ref fI)
theorem xmk_of {K : PySem.W.Frag} {C fI N L : Addr} {nm q : Str} {bs : List Value} {sn : List Str} {sub : List Value} {ab : Bool} {col : Option Bool} {dd : Option Addr} {k0 k1 k2 k3 k5 : Option Value} {oc c0 oL : Value} {od ddL odL : Option Addr} {es esL : Array DictEntry} {ep epL : Nat} {sl sl0 slL : Array (Option Value)} {cd : ClassData}
    (lc : K.lookup C = some (excClassObj nm q C N bs (.ref L :: bmVE) true sn sub ab col dd k0 k1 k2 k3 k5 "ValueError.__new__")) (ln : K.lookup N = some ⟨oc, od, .dict es ep, sl⟩) (kn : strKeysB es = true) (hi : nsFind es "__init__" = some (.ref fI))
    (ll : K.lookup L = some ⟨c0, ddL, .cls cd, sl0⟩) (lm : K.lookup cd.ns = some ⟨oL, odL, .dict esL epL, slL⟩) (km : strKeysB esL = true) (hL : nsFind esL "__init__" = none) : XMk K C fI :=
  ⟨nm, q, N, bs, _, sn, sub, ab, col, dd, k0, k1, k2, k3, k5, nsFind es, lc, fun h X => .own (X _ _ ll) (ns_of lm km X) hL .base, fun h X => ns_of ln kn X, hi⟩
theorem xcls_of {K : PySem.W.Frag} {C N L : Addr} {nm q : Str} {bs : List Value} {sn : List Str} {sub : List Value} {ab : Bool} {col : Option Bool} {dd : Option Addr} {k0 k1 k2 k3 k5 : Option Value}
    (lc : K.lookup C = some (excClassObj nm q C N bs (.ref L :: bmVE) true sn sub ab col dd k0 k1 k2 k3 k5 "ValueError.__new__")) (sa : PySem.W.findIn K (.ref C) "__setattr__" = some (some (.builtin "object.__setattr__"))) : XCls K C :=
  ⟨sa, by unfold PySem.W.clsIn; rw [lc]; rfl⟩
end L3

namespace L3
open PySem PySem.Spec PyProof.Rows L2
theorem init_ok {c : Bool} {P : Program} {w : World} {K : PySem.W.Frag} {mg : Str → Option Value} {base : Heap} {x qual sf at_ fl : Str} {st : Stmt} {f C : Addr} {fd : FuncData} {k : Nat} (F : Fun K x qual st f fd) (S : FnScope [sf, at_] [sf, at_] (defScope st))
    (hbody : ∀ (cdv : Value) (A : Around) (outer : List Env) (s : Shared) (H : Hp) (E : XK), PSs (cxN c P w K mg base [sf, at_] qual (defScope st) f cdv A outer s H E) (defBody st) (sFldX C fl)) : FnX P w K mg base c (k + 1) f fd [sf, at_] (spInit C fl) := by
  refine Fun.okX F S (fun vs H Q E h => ?_) fun cdv A outer s H vs Q E hr h => ⟨_, hbody cdv A outer s H E, ?_⟩
  · obtain ⟨a, v, us, rfl, _⟩ := h
    rfl
  · obtain ⟨a, v, us, rfl, ha, q⟩ := h
    exact ⟨a, v, us, rfl, rfl, ha, q⟩
theorem tail_base {h : Heap} : ∀ {bm : List Value}, OwnTail h bmVE bm → bm.contains (.type "BaseException") = true
  | _, .base => by decide
  | _, .own _ _ _ t => by rw [List.contains_cons, tail_base t, Bool.or_true]
structure XC (P : Program) (w : World) (K : PySem.W.Frag) (mg : Str → Option Value) (base : Heap) (c : Str) (f : Str) (C : Addr) : Prop where
  at_ : ClsAt K c C
  glob : mg c = some (.ref C)
  kp : PySem.W.keepIn K (.ref C) = true
  xc : XCls K C
  made : ∃ (fI : Addr) (fd : FuncData) (ps : List Str) (oI : Obj), XMk K C fI ∧ K.lookup fI = some oI ∧ oI.cls = .type "function" ∧ FnX P w K mg base false 1 fI fd ps (spInit C f) ∧ Binds K fd ps []
section
variable {X : Cx} {pins : List (Addr × Obj)} {σ : Sg} {H : Hp} {s : Shared} {C : Addr} {c f : Str}
theorem upd_swap {H : Hp} {e d : Addr} {o0 o1 x : HO} : upd (upd (upd H e o0) d x) e o1 = upd (upd H d x) e o1 := by
  funext b
  unfold upd
  by_cases z : b = e
  · rw [if_pos z, if_pos z]
  · rw [if_neg z, if_neg z, if_neg z]
theorem run_makeX {u : Value} {v : V} {Q : Value → Shared → Prop} {E : Value → Shared → Prop} (M : XC X.prog X.w X.K X.mg X.base c f C) (hr : RoomC false 2 X.A) (I : Inv X pins σ H s) (r : RelV v u)
    (h : ∀ a d t s', H a = none → H d = none → d ≠ a → s.heap.objs.size ≤ a → Inv X pins σ (upd (upd H d (.xd [(f, v)])) a (XE a ⟨.ref C, some d, .fields #[.ref t, .none, .none, .none, .bool false, .none], #[]⟩)) s' → Q (.ref a) s') :
    wpAny (model X.prog X.w) X.A (call (.ref C) [u]) Q E s := by
  obtain ⟨fI, fd, ps, oI, ⟨nm, q, N, bs, bm, sn, sub, ab, col, dd, k0, k1, k2, k3, k5, mN, lc, tl, hn, hi⟩, lI, hI, F, hb⟩ := M.made
  have KX := I.kIn
  obtain ⟨hh, g, dr, tk, os⟩ := s
  refine exc_call PySem.F.excBase_ValueError (tl hh KX) (KX _ _ lc) (hn hh KX) hi (KX _ _ lI) hI (fun h' e me ze => ?_) (by show 1 ≤ sizeLine; rw [sizeLine_eq]; omega)
  obtain ⟨kk, new, t, et, _, _⟩ := me
  have I2 : Inv X pins σ (upd H e (XE e ⟨.ref C, none, .fields #[.ref t, .none, .none, .none, .bool false, .none], #[]⟩)) ⟨h', g, dr, tk, os⟩ := I.laid (h' := h') (t' := tk) kk ze (XE.ok et)
  have he : H e = none := I.hok.fresh ze
  have r2 : Vals [.ref e, v] [.ref e, u] := .cons rfl (.cons r .nil)
  have sp : spInit C f [.ref e, v] (upd H e (XE e ⟨.ref C, none, .fields #[.ref t, .none, .none, .none, .bool false, .none], #[]⟩)) (fun y H2 => y = .non ∧ ∃ d, H d = none ∧ d ≠ e ∧ H2 = upd (upd H d (.xd [(f, v)])) e (XE e ⟨.ref C, some d, .fields #[.ref t, .none, .none, .none, .bool false, .none], #[]⟩)) (fun _ _ _ => False) :=
    ⟨e, v, _, rfl, upd_same, fun d hd ne => ⟨rfl, d, by rw [upd_ne ne] at hd; exact hd, ne, upd_swap⟩⟩
  have hl : [Value.ref e, u].length = ps.length := F.len _ _ _ _ sp
  have hb' := hb ⟨h', g, dr, tk, os⟩ [.ref e, u] I2.kIn (by rw [List.append_nil]; exact hl)
  rw [List.append_nil] at hb'
  refine wpAny_call (codeAny_mono (F.run _ X.stack _ _ ⟨[.ref e, u], []⟩ [.ref e, u] [.ref e, v] _ _ (hr.make C [u] []) (I2.env0.make C [u] []) hb' r2 sp) fun r s' hq => ?_)
  cases r with
  | error x =>
    obtain ⟨a, C', dx, T, H', _, _, _, _, _, _, _, _, _, _, z⟩ := hq
    exact z.elim
  | ok fl =>
    cases fl with
    | ret y =>
      obtain ⟨v', H', I3, rv, ev, d, hd, ne, eH⟩ := I2.after hq
      subst ev eH
      exact ⟨rv, h e d t s' he hd ne ze I3⟩
    | next => exact False.elim hq
    | brk => exact False.elim hq
    | cont => exact False.elim hq

noncomputable def Lk1 (X : Cx) (EX : EXS) : Prop := ∀ (pins : List (Addr × Obj)) (σ : Sg) (H H' : Hp) (s s' : Shared) (a C : Addr) (dx : Option Addr) (o : Obj) (us : Array Value), Inv X pins σ H s → Inv X pins σ H' s' → s'.heap.get? a = some o → o.cls = .ref C → o.dict = dx → o.data = .fields us → us[1]? = some .none →
  H' a = none → s.heap.objs.size ≤ a → EXE X.K (EX σ) (.ref C) dx H' → X.xe (.ref a) s'
theorem lk1_def {cm : Bool} {P : Program} {w : World} {K : PySem.W.Frag} {mg : Str → Option Value} {base : Heap} {N : List Str} {qual : Str} {scope : Scope} {f : Addr} {cd : Value} {A : Around} {outer : List Env} {s : Shared} {H : Hp} {E : XK} :
    Lk1 (cxN cm P w K mg base N qual scope f cd A outer s H E) (fun _ => EXof K E) := fun pins σ H H' s s' a C dx o us I I' he hc hx hd h1 n1 z1 q => leaves_first I I' he hc hx hd h1 n1 z1 q.of
noncomputable def sRaise (c f : Str) (js : List Nat) (fe : FE) : FS := fun Δ => match fe (vsh (gsome js Δ)) with
  | .ok w => .ex ⟨c, [f], [w.d]⟩ (gsome js Δ)
  | .ex x => .ex x (gsome js Δ)
  | .no => .no
theorem sd_raise {EX : EXS} (js : List Nat) {e : Expr} {fe : FE} {np cpos pos : Pos} (M : XC X.prog X.w X.K X.mg X.base c f C) (hr : RoomC true 2 X.A) (l1 : Lk1 X EX) (he : ED X EX e fe) (hg : Gl X c := by rfl) (hdb : (c == ("__debug__" : Str)) = false := by decide)
    (hs : starEach [e] X.env = (false, eval e X.env) :: starEach [] X.env := by rfl) (hpl : (backTo cpos (starEach [] X.env)).any (·.1) = false := by rfl) :
    SD X EX (.Raise (some (.Call (.Name c np) [e] [] cpos)) none pos) (sRaise c f js fe) := by
  intro pins s σ H D I q
  obtain ⟨H0, G0, G, Δ, O, E, q⟩ := q
  obtain ⟨G', O', sg, E'⟩ := E.gsome js
  obtain ⟨fI, fd, ps, oI, ⟨nm, qn, N, bs, bm, sn, sub, ab, col, dd, k0, k1, k2, k3, k5, mN, lc, tl, hn, hi⟩, lI, hI, F, hb⟩ := M.made
  have hB : bm.contains (.type "BaseException") = true := tail_base (tl s.heap I.kIn)
  rw [arm_exec_Raise]
  have tD0 : tD X.K EX fe σ H fun v H1 => ∃ v' w G1, [v] = [v'] ∧ fe (vsh (gsome js Δ)) = .ok w ∧ Step G' H G1 H1 ∧ Has X.K G1 v' w.d := by
    refine ⟨G', vsh (gsome js Δ), E'.st.gh, E'.gsh, ?_⟩
    unfold sRaise at q
    cases e1 : fe (vsh (gsome js Δ)) with
    | ok w => exact WP.intro fun v G1 H1 st r => ⟨v, w, G1, rfl, rfl, st, r⟩
    | ex x => rw [e1] at q; exact q σ G' H O' E' sg
    | no => rw [e1] at q; exact q
  have mk : wpAny (model X.prog X.w) X.A (eval (.Call (.Name c np) [e] [] cpos) X.env) (fun v s1 => ∃ a t dx, v = .ref a ∧ s1.heap.get? C = some (excClassObj nm qn C N bs bm true sn sub ab col dd k0 k1 k2 k3 k5 "ValueError.__new__") ∧
      s1.heap.get? a = some { cls := .ref C, dict := dx, data := .fields #[.ref t, .none, .none, .none, .bool false, .none] } ∧ X.xe (.ref a) s1) X.xe s := by
    refine wpAny_Call_Name_kw (ld_glob I hg M.glob ?_ hdb)
    refine PySem.W.callWith_K (h₀ := X.base) I.ok.mod.kin M.kp (thn (pa_cons he pa_nil hs cpos pins s σ H (fun vs H1 => ∃ v' w G1, vs = [v'] ∧ fe (vsh (gsome js Δ)) = .ok w ∧ Step G' H G1 H1 ∧ Has X.K G1 v' w.d) I tD0) fun us s1 ⟨vs, H1, I1, r, v, w, G1, ev, ew, st, hv⟩ => ⟨I1.kIn, ?_⟩) hs hpl
    subst ev
    obtain ⟨u, rfl, ru⟩ := r.one
    refine run_makeX M hr.loose I1 ru fun a d t s2 ha hd ne za I2 => ?_
    have ga := XE.get I2.hok upd_same
    refine ⟨a, t, some d, rfl, I2.kIn _ _ lc, ga, ?_⟩
    have I3 : Inv X pins σ (upd H1 d (.xd [(f, v)])) s2 := Inv.forget I2 (by rw [upd_ne ne.symm]; exact ha)
    refine l1 pins σ H1 _ s1 s2 a C (some d) _ _ I1 I3 ga rfl rfl rfl rfl (by rw [upd_ne ne.symm]; exact ha) za ?_
    have st2 : Step G1 H1 (upd G1 d (.xd [(f, v)])) (upd H1 d (.xd [(f, v)])) := Step.new st.gh hd _
    refine ⟨⟨c, [f], [w.d]⟩, upd G1 d (.xd [(f, v)]), st2.gh, .with_ M.at_ upd_same rfl (.cons (hv.mono st2.gg) .nil), ?_⟩
    unfold sRaise at q
    rw [ew] at q
    exact q σ _ _ O' ((E'.grow st).grow st2) (sg.trans (st.gg.trans st2.gg))
  refine wpAny_bind (wpAny_standAt (exc_raise hB (hr.hd rfl) (wpAny_bind (wpAny_mono mk (fun v s3 h3 => wpAny_bind (wpAny_standAt (wpAny_pure h3))) fun _ _ x => x))))
end
end L3

namespace L3
open PySem PySem.Spec PyProof.Rows L2
section
variable {X : Cx} {pins : List (Addr × Obj)} {σ : Sg} {H : Hp} {s : Shared}
theorem name_gone {M : Model} {A : Around} {E : Value → Shared → Prop} {i : Nat} {n : Str} {pos : Pos} {Q : Unit → Shared → Prop} (I : Inv X pins σ H s) (hN : X.N.Nodup) (hi : X.N[i]? = some n) (hk : X.env.scope.names.lookup n = some .local)
    (h : ∀ s', Inv X pins (σ.set i none) H s' → Q () s') : wpAny M A (do bindName X.env n .none; unbindBehindTheSuite X.env n pos) Q E s := by
  obtain ⟨m, hn, hl⟩ := id I.loc
  have hcls : (X.env.scope.kind == .class || (X.env.scope.kind == .module && X.env.locals != X.env.globals)) = false := by rw [I.ok.kind]; rfl
  have hiσ : i < σ.length := by rw [I.len]; exact (List.getElem?_eq_some_iff.mp hi).1
  have cne := I.cne
  have tracked : ∀ {a : Addr} {h' : Heap}, (∃ o, s.heap.get? a = some o ∧ H a = none) → Heap.SameBut a s.heap h' → HOk X.prog X.w H h' := fun {a h'} ha hs b ob e => by
    obtain ⟨_, _, hfree⟩ := ha
    refine (I.hok b ob e).stay (fun c w' hc q => (hs.2 c ?_).trans q) (fun _ q => q) fun _ _ q => q
    rintro rfl
    rcases hc with rfl | hc
    · rw [hfree] at e; cases e
    · rw [hfree] at hc; cases hc
  refine wpAny_nameGoes_keeps hk hn hcls fun h' v hn' hs => ?_
  obtain ⟨oL, _, _, hoL, _⟩ := id hn
  refine h _ ⟨I.ok, I.os, I.bare, ⟨fun b o e n hb hx => ?_, fun b o e n hb hx => ?_, I.base.free, fun b o e hx => ?_, I.base.tups, I.base.frzs, I.base.tbls⟩, ⟨_, hn', fun j y v' e1 e2 e3 => ?_⟩, fun y c e => ?_, I.free, I.freeC, fun p hp => ?_, tracked ⟨oL, hoL, I.free⟩ hs, by simpa using I.len⟩
  · exact (hs.2 b (Nat.ne_of_lt (Nat.lt_of_lt_of_le (Heap.lt_size e) I.ok.above))).trans (I.base.keep b o e n hb hx)
  · obtain ⟨sl, e1⟩ := I.base.slot b o e n hb hx
    exact ⟨sl, (hs.2 b (Nat.ne_of_lt (Nat.lt_of_lt_of_le (Heap.lt_size e) I.ok.above))).trans e1⟩
  · obtain ⟨o', e1⟩ := I.base.there b o e hx
    exact ⟨o', (hs.2 b (Nat.ne_of_lt (Nat.lt_of_lt_of_le (Heap.lt_size e) I.ok.above))).trans e1⟩
  · by_cases hj : j = i
    · subst hj
      rw [List.getElem?_set_self hiσ] at e2
      cases e2
    · rw [List.getElem?_set_ne (Ne.symm hj)] at e2
      obtain ⟨u', r', q⟩ := hl j y v' e1 e2 e3
      refine ⟨u', r', ?_⟩
      rcases q with ⟨k, e⟩ | ⟨k, c, e, z⟩
      · refine .inl ⟨k, ?_⟩
        have : y ≠ n := fun e => hj (nodup_ix hN e1 (e ▸ hi))
        simp [this, e]
      · exact .inr ⟨k, c, e, z.sameBut hs (cne y c e)⟩
  · obtain ⟨w', z⟩ := I.cell y c e
    exact ⟨w', z.sameBut hs (cne y c e)⟩
  · obtain ⟨e, n, ne, nf, d⟩ := I.pin p hp
    exact ⟨(hs.2 p.1 ne).trans e, n, ne, nf, d⟩
theorem Inv.speak {H' : Hp} {s' : Shared} {a C : Addr} {dx : Option Addr} {us : Array Value} {sl : Array (Option Value)} (I : Inv X pins σ H s) (I' : Inv X pins σ H' s') (za : s.heap.objs.size ≤ a) (e : s'.heap.get? a = some ⟨.ref C, dx, .fields us, sl⟩) (hn : H' a = none) : Inv X pins σ (upd H' a (XO a C dx)) s' := by
  have B := I'.base
  have ns : ∀ b o, X.s₀.heap.get? b = some o → b ≠ a := fun b o q z => absurd (Nat.lt_of_lt_of_le (Heap.lt_size q) (Nat.le_trans I.sz za)) (by rw [z]; exact Nat.lt_irrefl _)
  have lt : ∀ b : Addr, b < s.heap.objs.size → b ≠ a := fun b h z => absurd (Nat.lt_of_lt_of_le h za) (by rw [z]; exact Nat.lt_irrefl _)
  have up : ∀ b u, H' b = some u → upd H' a (XO a C dx) b = some u := fun b u q => by rw [upd_ne (ne_of_none q hn)]; exact q
  refine ⟨I'.ok, I'.os, I'.bare, ⟨B.keep, B.slot, fun b o q n x => by rw [upd_ne (ns b o q)]; exact B.free b o q n x, B.there, fun b xs q => up _ _ (B.tups b xs q), fun b o u q => up _ _ (B.frzs b o u q), fun b ps q => let ⟨m, z⟩ := B.tbls b ps q; ⟨m, up _ _ z⟩⟩, I'.loc, I'.cell, ?_, fun x c q => ?_, fun p hp => ?_, fun b u q => ?_, I'.len⟩
  · rw [upd_ne (lt _ I.lt)]; exact I'.free
  · obtain ⟨v, hv⟩ := I.cell x c q
    rw [upd_ne (lt _ hv.lt)]; exact I'.freeC x c q
  · obtain ⟨p1, p2, p3⟩ := I'.pin p hp
    exact ⟨p1, by rw [upd_ne (lt _ (Heap.lt_size (I.pin p hp).1))]; exact p2, p3⟩
  · by_cases z : b = a
    · subst z
      rw [upd_same] at q
      cases q
      exact XO.ok e
    · rw [upd_ne z] at q
      exact (I'.hok b u q).stay (fun _ _ _ q => q) (fun c q => up _ _ q) fun c xs q => up _ _ q
end

noncomputable def tryB (X : Cx) (pins : List (Addr × Obj)) (W : Value → Shared → Prop) : Cx := { X with pn := X.pn ++ pins, xe := W }
noncomputable def hand (X : Cx) (e : Value) : Cx := { X with A := X.A.mark (some e), calm := false, xe := fun _ _ => False }
section
variable {X : Cx} {pins pins' : List (Addr × Obj)} {σ : Sg} {H : Hp} {s : Shared} {W : Value → Shared → Prop} {e : Value}
theorem ok_tryB : (tryB X pins W).Ok ↔ X.Ok := ⟨fun ok => ⟨ok.mod, ok.kind, ok.glob, ok.blt, ok.above, ok.inj, ok.has, ok.cab, ok.hd, ok.frames, ok.stk, ok.exf, ok.bs, ok.bsz, ok.noex, ok.exfs, ok.funs, ok.frf⟩,
  fun ok => ⟨ok.mod, ok.kind, ok.glob, ok.blt, ok.above, ok.inj, ok.has, ok.cab, ok.hd, ok.frames, ok.stk, ok.exf, ok.bs, ok.bsz, ok.noex, ok.exfs, ok.funs, ok.frf⟩⟩
theorem Inv.toB (I : Inv X pins σ H s) : Inv (tryB X pins W) [] σ H s := ⟨ok_tryB.mpr I.ok, I.os, I.bare, I.base, I.loc, I.cell, I.free, I.freeC, fun p hp => I.pin p (by have hp : p ∈ (X.pn ++ pins) ++ [] := hp; rwa [List.append_nil] at hp), I.hok, I.len⟩
theorem Inv.ofB (I : Inv (tryB X pins W) pins' σ H s) : Inv X pins σ H s := ⟨ok_tryB.mp I.ok, I.os, I.bare, I.base, I.loc, I.cell, I.free, I.freeC, fun p hp => I.pin p (List.mem_append_left _ hp), I.hok, I.len⟩
theorem SP.ofB {D : Ends} {f : Flow} (h : SP (tryB X pins W) pins' D f s) : SP X pins D f s := by
  cases f with
  | next => obtain ⟨σ', H', I, q⟩ := h; exact ⟨σ', H', Inv.ofB I, q⟩
  | brk => obtain ⟨σ', H', I, q⟩ := h; exact ⟨σ', H', Inv.ofB I, q⟩
  | cont => obtain ⟨σ', H', I, q⟩ := h; exact ⟨σ', H', Inv.ofB I, q⟩
  | ret u => obtain ⟨v, σ', H', I, r, q⟩ := h; exact ⟨v, σ', H', Inv.ofB I, r, q⟩
theorem Inv.toH (I : Inv X pins σ H s) : Inv (hand X e) pins σ H s :=
  ⟨⟨I.ok.mod, I.ok.kind, I.ok.glob, I.ok.blt, I.ok.above, I.ok.inj, I.ok.has, I.ok.cab, fun z => absurd z Bool.false_ne_true, I.ok.frames, I.ok.stk, I.ok.exf, I.ok.bs, I.ok.bsz, I.ok.noex, I.ok.exfs, I.ok.funs, I.ok.frf⟩, I.os, I.bare, I.base, I.loc, I.cell, I.free, I.freeC, I.pin, I.hok, I.len⟩
theorem Inv.ofH (ok : X.Ok) (I : Inv (hand X e) pins σ H s) : Inv X pins σ H s := ⟨ok, I.os, I.bare, I.base, I.loc, I.cell, I.free, I.freeC, I.pin, I.hok, I.len⟩
end
end L3

namespace L3
open PySem PySem.Spec PyProof.Rows L2
noncomputable def sBack (i : Nat) : Fl → Fl
  | .nx Δ => .nx (Δ.set i .no)
  | .bk Δ => .bk (Δ.set i .no)
  | .ct Δ => .ct (Δ.set i .no)
  | .rt w => .rt w
  | _ => .no
noncomputable def sTry (i : Nat) (tb : List (Str × Bool)) (g h : FS) : FS := fun Δ => match g Δ with
  | .ex x Δ1 => (match tb.lookup x.c with
    | some true => sBack i (h (Δ1.set i (.sh (.exn x.c x.ns x.vs))))
    | _ => .no)
  | r => r
noncomputable def Catches (K : PySem.W.Frag) (C2 : Addr) (tb : List (Str × Bool)) : Prop := ∀ c b, tb.lookup c = some b → ∀ C, ClsAt K c C → PySem.W.exmOne K (.ref C) (.ref C2) = some b
theorem Ev.drop {K : PySem.W.Frag} {H0 : HB} {G0 G H : Hp} {σ : Sg} {Δ : SE} {O : OS} (E : Ev K H0 G0 G H σ Δ O) (i : Nat) : Ev K H0 G0 G H (σ.set i none) (Δ.set i .no) O := by
  refine ⟨E.st, by rw [List.length_set, List.length_set]; exact E.len, fun j d e => ?_, fun j z d e zo => ?_, E.out, E.dj, fun j d e => ?_, fun j d e => ?_⟩
  · rcases getSet e with ⟨rfl, q⟩ | ⟨n, q⟩
    · cases q
    · rw [List.getElem?_set_ne n]; exact E.sh j d q
  · rcases getSet e with ⟨rfl, q⟩ | ⟨n, q⟩
    · subst q; cases zo
    · rw [List.getElem?_set_ne n]; exact E.ow j z d q zo
  · rcases getSet e with ⟨rfl, q⟩ | ⟨n, q⟩
    · cases q
    · rw [List.getElem?_set_ne n]; exact E.lk j d q
  · rcases getSet e with ⟨rfl, q⟩ | ⟨n, q⟩
    · cases q
    · rw [List.getElem?_set_ne n]; exact E.lt j d q
noncomputable def EXt (K : PySem.W.Frag) (EX : EXS) (D : Ends) (i : Nat) (tb : List (Str × Bool)) (h : FS) : EXS := fun σ => ⟨fun x G H => tb.lookup x.c = some true ∧ ∃ H0 G0 Δ O, Ev K H0 G0 G H σ Δ O ∧ Fin K EX H0 G0 G D (sBack i (h (Δ.set i (.sh (.exn x.c x.ns x.vs))))),
  fun _ _ _ _ _ s ⟨t, H0, G0, Δ, O, E, f⟩ => ⟨t, H0, G0, Δ, O, E.grow s, Fin.mono s.gg f⟩⟩
section
variable {X : Cx} {EX : EXS} {i : Nat} {tb : List (Str × Bool)} {g h : FS} {c n : Str} {C2 : Addr} {body suite : List Stmt} {b₀ : Stmt} {np hp pos : Pos}
theorem Has.exc {K : PySem.W.Frag} {G : Hp} {a C : Addr} {dx : Option Addr} {x : Xn} (hn : G a = none) (e : ExcAt K G (.ref C) dx x) : Has K (upd G a (XO a C dx)) (.ref a) (.exn x.c x.ns x.vs) := by
  cases e with
  | bare hc => exact .exn0 hc upd_same
  | with_ hc hd hl r => exact .exn1 hc upd_same (by rw [upd_ne (ne_of_none hd hn)]; exact hd) hl (r.mono (same_new hn _))
theorem suite_ok {K : PySem.W.Frag} {H0 : HB} {G0 G1 : Hp} {D : Ends} {r : Fl} (q : Fin K EX H0 G0 G1 D (sBack i r)) : Fin K EXS0 H0 G0 G1 { nx := fun σ H => D.nx (σ.set i none) H, rt := D.rt, bk := fun σ H => D.bk (σ.set i none) H, ct := fun σ H => D.ct (σ.set i none) H } r := by
  cases r with
  | nx Δ => exact fun σ G H O E sg => q _ G H O (E.drop i) sg
  | bk Δ => exact fun σ G H O E sg => q _ G H O (E.drop i) sg
  | ct Δ => exact fun σ G H O E sg => q _ G H O (E.drop i) sg
  | rt w => exact q
  | ex x Δ => exact q.elim
  | no => exact q
theorem sd_try (hN : X.N.Nodup) (hfr : X.env.frame = some X.env.locals) (hst : X.stack = X.env :: X.outer) (hc : X.mg c = some (.ref C2)) (ct : Catches X.K C2 tb) (hb : ∀ pins W EXB, Lk (tryB X pins W) EXB → BD (tryB X pins W) EXB body g) (hh : ∀ e, BD (hand X e) EXS0 (b₀ :: suite) h)
    (hi : X.N[i]? = some n := by rfl) (hk : X.env.scope.names.lookup n = some .local := by rfl) (hg : Gl X c := by rfl) (hdb : (c == ("__debug__" : Str)) = false := by decide) :
    SD X EX (.Try body [.ExceptHandler (some (.Name c np)) (some n) (b₀ :: suite) hp] [] [] pos) (sTry i tb g h) := by
  intro pins s σ H D I q
  obtain ⟨H0, G0, G, Δ, O, E, q⟩ := q
  refine wpAny_Try_except ?_
  have lk : Lk (tryB X pins fun e s₁ => wpAny (model X.prog X.w) X.A (noteFrame e X.env) (fun _ s₂ => wpAny (model X.prog X.w) X.A (setFlight e none) (fun _ s₃ => wpAny (model X.prog X.w) X.A (handleBy e X.env [.ExceptHandler (some (.Name c np)) (some n) (b₀ :: suite) hp]) (SP X pins D) X.xe s₃) X.xe s₂) X.xe s₁) (EXt X.K EX D i tb h) := by
    intro pins' σ1 H1 s1 e s2 I1 cx
    obtain ⟨a, C, dx, T, H2, rfl, I2, tr, n1, n2, z1, z2, x, G2, sg2, ea, tt, H0', G0', Δ1, O1, E1, f1⟩ := Inv.raised I1 cx
    show wpAny _ X.A (noteFrame (.ref a) X.env) _ _ s2
    have J1 := Inv.ofB I1
    have J2 := Inv.ofB I2
    refine note_next (outer := X.outer) (by rw [← hst]; exact J2.ok.frames) (by rw [← hst]; exact J2.stack) hfr tr fun h1 T2 z3 k1 t1 => ?_
    refine flight_none t1 fun h2 k2 t2 => ?_
    have zT2 : H2 T2 = none := J2.hok.fresh z3
    have J3 : Inv X pins σ1 H2 { s2 with heap := h2 } := by
      refine Inv.settle (ch := [a, T] ++ [T2]) J1 J2 (fun b hb => ?_) ?_
      · have : b = a ∨ b = T ∨ b = T2 := by simpa using hb
        rcases this with rfl | rfl | rfl
        · exact ⟨z1, n1⟩
        · exact ⟨z2, n2⟩
        · exact ⟨Nat.le_trans z1 (Nat.le_trans (Nat.le_of_lt (Heap.lt_size tr.ob.choose_spec.choose_spec.1)) z3), zT2⟩
      · rw [hst]; exact k1.trans (KeepX.of_same k2)
    obtain ⟨⟨oa, ua, ga, gc, gd, gf, g1⟩, ne, tbk⟩ := id t2
    have goa : h2.get? a = some ⟨.ref C, dx, .fields ua, oa.slots⟩ := by
      obtain ⟨c1, d1, e1, s1⟩ := oa
      simp only at gc gd gf
      subst gc gd gf
      exact ga
    have J4 : Inv X pins σ1 (upd H2 a (XO a C dx)) { s2 with heap := h2 } := Inv.speak J1 J3 z1 goa n1
    have st4 : Step G2 H2 (upd G2 a (XO a C dx)) (upd H2 a (XO a C dx)) := Step.new sg2 n1 _
    have LT : PySem.W.Looks (model X.prog X.w) h2 (typeOf (.ref a)) (.ref C) := gc ▸ (PySem.W.Looks.ld ga).andThen .now
    obtain ⟨hcC⟩ : Nonempty (ClsAt X.K x.c C) := by cases ea with | bare hc => exact ⟨hc⟩ | with_ hc _ _ _ => exact ⟨hc⟩
    have em := ct _ _ tt C hcC
    refine wpAny_handleBy_cons (codeAny_handlers_test ?_) (by intro z; cases z)
    refine ld_glob (X := hand X (.ref a)) (Inv.toH J4) hg hc ?_ hdb
    refine PySem.W.Looks.here (s := { s2 with heap := h2 }) (PySem.W.exm_one J4.kIn LT em) ?_
    show codeAny _ _ _ _ _
    refine codeAny_handlers_suite_as (flight_none t2 fun h3 k3 t3 => ?_)
    have J5 : Inv X pins σ1 (upd H2 a (XO a C dx)) { s2 with heap := h3 } := by
      refine Inv.settle (ch := [T2]) (s' := { s2 with heap := h2 }) J1 J4 (fun b hb => ?_) (KeepX.of_same k3)
      have : b = T2 := by simpa using hb
      subst this
      exact ⟨Nat.le_trans z1 (Nat.le_trans (Nat.le_of_lt (Heap.lt_size tr.ob.choose_spec.choose_spec.1)) z3), by rw [upd_ne ne]; exact zT2⟩
    refine store_ok (X := hand X (.ref a)) (v := .ref a) (Inv.toH J5) hN hi (.inl hk) rfl (fun s6 I6 => ?_) (.inr hk)
    have E6 := (E1.grow st4).put (i := i) (Has.exc (sg2.free n1) ea)
    refine wpAny_mono (hh (.ref a) pins s6 _ _ _ I6 ⟨H0', G0', _, _, O1, E6, suite_ok (Fin.mono st4.gg f1)⟩) (fun f s7 h7 => ?_) fun _ _ z => False.elim z
    show wpAny _ X.A (do bindName X.env n .none; unbindBehindTheSuite X.env n hp) (fun _ s₃ => SP X pins D f s₃) _ s7
    cases f with
    | next =>
      obtain ⟨σ7, H7, I7, q7⟩ := h7
      exact name_gone (Inv.ofH J1.ok I7) hN hi hk fun s8 I8 => ⟨_, H7, I8, q7⟩
    | brk =>
      obtain ⟨σ7, H7, I7, q7⟩ := h7
      exact name_gone (Inv.ofH J1.ok I7) hN hi hk fun s8 I8 => ⟨_, H7, I8, q7⟩
    | cont =>
      obtain ⟨σ7, H7, I7, q7⟩ := h7
      exact name_gone (Inv.ofH J1.ok I7) hN hi hk fun s8 I8 => ⟨_, H7, I8, q7⟩
    | ret u =>
      obtain ⟨v, σ7, H7, I7, r7, q7⟩ := h7
      exact name_gone (Inv.ofH J1.ok I7) hN hi hk fun s8 I8 => ⟨v, _, H7, I8, r7, q7⟩
  refine wpAny_mono (hb pins _ _ lk [] s σ H D (Inv.toB I) ⟨H0, G0, G, Δ, O, E, ?_⟩) (fun f s1 hs => ?_) fun _ _ z => z
  · unfold sTry at q
    cases e1 : g Δ with
    | ex x Δ1 =>
      rw [e1] at q
      intro σ1 G1 H1 O1 E1 sg
      cases e2 : tb.lookup x.c with
      | none => simp only [e2] at q; exact q.elim
      | some b =>
        cases b with
        | false => simp only [e2] at q; exact q.elim
        | true => simp only [e2] at q; exact ⟨e2, H0, G0, Δ1, O1, E1, Fin.mono sg q⟩
    | nx Δ1 => rw [e1] at q; exact q
    | bk Δ1 => rw [e1] at q; exact q
    | ct Δ1 => rw [e1] at q; exact q
    | rt w => rw [e1] at q; exact q
    | no => rw [e1] at q; exact q
  · have hs' := SP.ofB hs
    cases f with
    | next => exact wpAny_execs_nil hs'
    | brk => exact hs'
    | cont => exact hs'
    | ret u => exact hs'
end
end L3

namespace L3
open PySem PySem.Spec PyProof.Rows L2
structure XGet (K : PySem.W.Frag) (C : Addr) (f : Str) : Prop where
  ga : PySem.W.findIn K (.ref C) "__getattribute__" = some (some (.builtin "BaseException.__getattribute__"))
  gt : PySem.W.findIn K (.ref C) "__getattr__" = some none
  be : PySem.W.mroIn K C (.type "BaseException") = some true
  hd : PySem.W.hasDictIn K C = true
  no : PySem.W.findIn K (.ref C) f = some none
section
variable {prog : Program} {w : World} {A : Around} {E : Value → Shared → Prop} {s : Shared} {K : PySem.W.Frag} {x C dx : Addr} {f : Str}
theorem attr_exc {expr : Bool} {Q : Value → Shared → Prop} {ox : Obj} {mA : Str → Option Value} {v : Value} (X : K.In s.heap) (hx : s.heap.get? x = some ox) (hc : ox.cls = .ref C) (hdx : ox.dict = some dx) (hnc : PySem.W.notCls ox = true) (hn : s.heap.Ns1 dx mA) (g : XGet K C f)
    (hv : mA f = some v) (hh : PySem.W.handedIn v = true) (h : Q v { s with toks := s.toks + 1 }) : wpAny (model prog w) A (getAttr (.ref x) f expr) Q E s := by
  obtain ⟨od, ho, hl⟩ := lookIn_ns hn
  have I : PySem.W.InstAt s.heap x ox C (some od) := ⟨hx, hc, hnc, by rw [hdx]; exact ho⟩
  obtain ⟨hp, gg, d, t, os⟩ := s
  have L0 := I.type (M := model prog w)
  have L1 := PySem.W.looks_findIn (M := model prog w) X g.ga
  have L2 := PySem.W.looks_findIn (M := model prog w) X g.gt
  have LF := PySem.W.looks_find (M := model prog w) X I (PySem.W.findObj_own g.hd g.no rfl (by rw [hl, hv]))
  have sub : PySem.W.Looks (model prog w) hp (isInstance (.ref x) (.type "BaseException")) true := L0.andThen (PySem.W.looks_mroIn X g.be)
  have SL := PySem.F.attr_ValueError.ga
  have hx0 : (expr && onTheHeap (Value.builtin "BaseException.__getattribute__")) = false := by cases expr <;> rfl
  unfold getAttr getAttrBy
  refine wpAny_bind (wpAny_mkText (wpAny_holding (wpAny_bind (L0.at (wpAny_bind (L1.at ?_))))))
  show wpAny _ _ (getAttrByItsOwn _ _ _ _ _ _) _ _ _
  unfold getAttrByItsOwn
  refine wpAny_bind (L2.at (wpAny_bind (wpAny_attempt ?_)))
  refine wpAny_holding ?_
  unfold callGetattribute
  rw [hx0, if_neg Bool.false_ne_true]
  unfold boundAndCalled
  rw [SL.bind]
  refine wpAny_bind (wpAny_pure (wpAny_call (codeAny_call_builtin SL.plain PySem.F.entry_bexc_ga (@PySem.W.check_slot (model prog w) _ _ ⟨hp, gg, d, t + 1, os⟩ "BaseException.__getattribute__" "BaseException" "__getattribute__" (.ref x) [.str f t] [] _ (by decide +kernel) (by decide +kernel) sub (PySem.F.args_bexc_ga _ _) ?_))))
  refine wpAny_bind (wpAny_pure (wpAny_bind (wpAny_pure (wpAny_bind (L0.at (wpAny_bind (LF.at ?_)))))))
  refine wpAny_pure ?_
  show wpAny _ _ (handedOut v) _ _ _
  rw [PySem.W.handedOut_of hh]
  exact wpAny_pure h

structure XInst (K : PySem.W.Frag) (C : Addr) : Prop where
  ga : PySem.W.findIn K (.ref C) "__getattribute__" = some (some (.builtin "BaseException.__getattribute__"))
  gt : PySem.W.findIn K (.ref C) "__getattr__" = some none
  be : PySem.W.mroIn K C (.type "BaseException") = some true
  hd : PySem.W.hasDictIn K C = true
  cl : PySem.W.findIn K (.ref C) "__class__" = some (some (.builtin "object.__class__"))
  gs : PySem.W.specialIn K (.builtin "object.__class__") "__get__" = some (some (.builtin "getset_descriptor.__get__"))
  tk : PySem.W.takesIn K (.builtin "object.__class__") = some true
  ob : PySem.W.mroIn K C (.type "object") = some true
theorem class_exc {Q : Option Value → Shared → Prop} {ox : Obj} {od : Option Obj} (X : K.In s.heap) (I : PySem.W.InstAt s.heap x ox C od) (g : XInst K C) (h : Q (some (.ref C)) { s with toks := s.toks + 1 }) : wpAny (model prog w) A (getAttr? (.ref x) "__class__") Q E s := by
  have hf : PySem.W.findObj K C od "__class__" = some (.bind (.builtin "getset_descriptor.__get__") (.builtin "object.__class__")) := by
    obtain ⟨cd, hc, _⟩ := PySem.W.any_some g.hd
    unfold PySem.W.findObj
    rw [hc, Option.bind_some, g.cl, Option.bind_some]
    simp [g.gs, g.tk]
  obtain ⟨hp, gg, d, t, os⟩ := s
  have L0 := I.type (M := model prog w)
  have L1 := PySem.W.looks_findIn (M := model prog w) X g.ga
  have L2 := PySem.W.looks_findIn (M := model prog w) X g.gt
  have LF := PySem.W.looks_find (M := model prog w) X I hf
  have sub : PySem.W.Looks (model prog w) hp (isInstance (.ref x) (.type "BaseException")) true := L0.andThen (PySem.W.looks_mroIn X g.be)
  have SL := PySem.F.attr_ValueError.ga
  unfold getAttr? getAttrBy? getAttrBy
  refine wpAny_bind (wpAny_mkText (wpAny_bind (wpAny_attempt (wpAny_holding (wpAny_bind (L0.at (wpAny_bind (L1.at ?_))))))))
  show wpAny _ _ (getAttrByItsOwn _ _ _ _ _ _) _ _ _
  unfold getAttrByItsOwn
  refine wpAny_bind (L2.at (wpAny_bind (wpAny_attempt ?_)))
  refine wpAny_holding ?_
  unfold callGetattribute
  rw [if_neg (by simp)]
  unfold boundAndCalled
  rw [SL.bind]
  refine wpAny_bind (wpAny_pure (wpAny_call (codeAny_call_builtin SL.plain PySem.F.entry_bexc_ga (@PySem.W.check_slot (model prog w) _ _ ⟨hp, gg, d, t + 1, os⟩ "BaseException.__getattribute__" "BaseException" "__getattribute__" (.ref x) [.str "__class__" t] [] _ (by decide +kernel) (by decide +kernel) sub (PySem.F.args_bexc_ga _ _) ?_))))
  refine wpAny_bind (wpAny_pure (wpAny_bind (wpAny_pure (wpAny_bind (L0.at (wpAny_bind (LF.at ?_)))))))
  show wpAny _ _ (Builtin.ObjectAttr.bindTo (.builtin "getset_descriptor.__get__") (.builtin "object.__class__") (.ref x) (.ref C)) _ _ _
  show wpAny _ _ (holding [.builtin "object.__class__"] (call (.builtin "getset_descriptor.__get__") [.builtin "object.__class__", .ref x, .ref C]) >>= ret) _ _ _
  refine wpAny_bind (wpAny_holding (wpAny_call (PySem.W.class_get (s := ⟨hp, gg, d, t + 1, os⟩) (ox := ox) (od := od) X I g.ob ?_)))
  refine wpAny_pure ?_
  show wpAny _ _ (handedOut (.ref C)) _ _ _
  exact PySem.W.handed_on rfl (wpAny_pure h)
theorem kitx_exc {ox : Obj} {od : Option Obj} (g : XInst K C) : PySem.W.KitX K (.ref x) (.ref C) (fun h => PySem.W.InstAt h x ox C od) where
  ty := fun _ _ _ I => I.type
  it := fun _ _ X _ => by
    obtain ⟨cdD, hcD, _⟩ := PySem.W.any_some g.hd
    unfold PySem.W.clsIn at hcD
    split at hcD
    · rename_i c' d' cd' sl' ho
      intro A' Q' E' s' k q
      unfold isType loadHead
      exact wpAny_bind (wpAny_loadPart (k _ _ (X _ _ ho)) (wpAny_pure q))
    · cases hcD
  ne := fun h tp dd its n sl X htp => by
    obtain ⟨cdD, hcD, _⟩ := PySem.W.any_some g.hd
    refine Bool.eq_false_iff.mpr fun q => ?_
    have e : C = tp := Value.ref.inj (beq_iff_eq.mp q)
    subst e
    unfold PySem.W.clsIn at hcD
    split at hcD
    · rename_i c' d' cd' sl' ho
      have z := (X _ _ ho).symm.trans htp
      cases z
    · cases hcD
  ca := fun X I k => class_exc X I g k
end

theorem zip_look {K : PySem.W.Frag} {G : Hp} {f : Str} {d : D} : ∀ {ns : List Str} {us : List V} {vs : List D}, HasL K G us vs → (ns.zip vs).lookup f = some d → ∃ v, (ns.zip us).lookup f = some v ∧ Has K G v d
  | [], _, _, _, e => by simp at e
  | n :: ns, _, _, .nil, e => by simp at e
  | n :: ns, _, _, .cons h r, e => by
    rw [List.zip_cons_cons, List.lookup_cons] at e ⊢
    cases z : (f == n) with
    | true => rw [z] at e; cases e; exact ⟨_, rfl, h⟩
    | false => rw [z] at e; exact zip_look r e
noncomputable def eAttr (cs : List Str) (f : Str) (fo : FE) : FE := fun δ => (fo δ).bind fun w => match w.d with
  | .exn c ns vs => if cs.contains c = true then (match (ns.zip vs).lookup f with | some d => .ok (.sh d) | none => .no) else .no
  | _ => .no
noncomputable def XGets (K : PySem.W.Frag) (cs : List Str) (f : Str) : Prop := ∀ c ∈ cs, ∀ C, ClsAt K c C → XGet K C f
section
variable {X : Cx} {EX : EXS} {o : Expr} {fo : FE} {f : Str} {cs : List Str} {pos : Pos}
theorem ed_attr (g : XGets X.K cs f) (he : ED X EX o fo) (hb : attributeBase o f X.env (eval o X.env) = eval o X.env := by rfl) : ED X EX (.Attribute o f pos) (eAttr cs f fo) := by
  intro pins s σ H Q I q
  obtain ⟨G, δ, g0, s0, q⟩ := q
  refine attr_of hb (thn (he pins s σ H (fun v H1 => ∃ G1 w, Step G H G1 H1 ∧ Has X.K G1 v w.d ∧ fo δ = .ok w) I ⟨G, δ, g0, s0, ?_⟩) fun u s1 ⟨v, H1, I1, rv, G1, w, st, hv, ew⟩ => ?_)
  · unfold eAttr at q
    cases e : fo δ with
    | ok w => exact WP.intro fun v G1 H1 st r => ⟨G1, w, st, r, rfl⟩
    | ex x => rw [e] at q; exact q
    | no => rw [e] at q; exact q
  · have q2 : Out X.K (EX σ) G H (match w.d with
      | .exn c ns vs => if cs.contains c = true then (match (ns.zip vs).lookup f with | some d => .ok (.sh d) | none => .no) else .no
      | _ => .no) Q := by
      unfold eAttr at q
      rw [ew] at q
      exact q
    clear q
    revert hv q2
    cases w.d with
    | exn c ns vs =>
      intro hv q2
      have q2 : Out X.K (EX σ) G H (if cs.contains c = true then (match (ns.zip vs).lookup f with | some d => .ok (.sh d) | none => .no) else .no) Q := q2
      split at q2
      · rename_i hc
        cases el : (ns.zip vs).lookup f with
        | none => rw [el] at q2; exact q2.elim
        | some d =>
          rw [el] at q2
          cases hv with
          | exn0 _ _ => cases el
          | exn1 hc1 h1 hd1 hl1 r1 =>
            rename_i a C dd us
            obtain rfl : u = Value.ref a := rv
            obtain ⟨y, ey, hy⟩ := zip_look r1 el
            obtain ⟨⟨us', sl, eo⟩, _⟩ := I1.hok a _ (st.gh _ _ h1)
            obtain ⟨mA, hn, hr⟩ := I1.hok dd _ (st.gh _ _ hd1)
            have hrf := hr f
            rw [ey] at hrf
            cases em : mA f with
            | none => rw [em] at hrf; exact hrf.elim
            | some z =>
              rw [em] at hrf
              have rz : RelV y z := hrf
              exact attr_exc I1.kIn eo rfl rfl rfl hn (g c (List.contains_iff_mem.mp hc) C hc1) em (handed_of rz) ⟨y, H1, I1.tok _, rz, WP.use (WP.mono st q2) st.gh hy⟩
      · exact q2.elim
    | _ => intro _ q2; exact False.elim q2
end
end L3

namespace L3
open PySem PySem.Spec PyProof.Rows L2
noncomputable def eIsC (tb : List (Str × Bool)) (fo : FE) : FE := fun δ => (fo δ).bind fun w => match w.d with
  | .exn c _ _ => (match tb.lookup c with | some b => .ok (.sh (.bl b)) | none => .no)
  | _ => .no
noncomputable def IsOne (K : PySem.W.Frag) (v : Value) (tb : List (Str × Bool)) : Prop := ∀ c b, tb.lookup c = some b → ∀ C, ClsAt K c C → XInst K C ∧ PySem.W.kitOne K (.ref C) v = some b
noncomputable def IsAny (K : PySem.W.Frag) (Cs : List Addr) (tb : List (Str × Bool)) : Prop := ∀ c b, tb.lookup c = some b → ∀ C, ClsAt K c C → XInst K C ∧ PySem.W.kitAny K (.ref C) (Cs.map Value.ref) = some b
theorem refs_vals : ∀ {Cs : List Addr} {its : List Value}, Vals (Cs.map V.ref) its → its = Cs.map Value.ref
  | [], _, r => by cases r; rfl
  | C :: Cs, _, .cons h1 h2 => by rw [refs_vals h2]; cases h1; rfl
section
variable {X : Cx} {EX : EXS} {pins : List (Addr × Obj)} {σ : Sg} {G H : Hp} {s : Shared}
theorem inst_of {a : Addr} {c : Str} {ns : List Str} {vs : List D} (I : Inv X pins σ H s) (g : Same G H) (h : Has X.K G (.ref a) (.exn c ns vs)) : ∃ C ox od, ClsAt X.K c C ∧ PySem.W.InstAt s.heap a ox C od := by
  cases h with
  | exn0 hc h1 =>
    obtain ⟨⟨us', sl, eo⟩, _⟩ := I.hok a _ (g _ _ h1)
    exact ⟨_, _, none, hc, eo, rfl, rfl, True.intro⟩
  | exn1 hc h1 hd1 hl1 r1 =>
    obtain ⟨⟨us', sl, eo⟩, _⟩ := I.hok a _ (g _ _ h1)
    obtain ⟨mA, ⟨od, es, ep, e, _⟩, hr⟩ := I.hok _ _ (g _ _ hd1)
    exact ⟨_, _, some od, hc, eo, rfl, rfl, e⟩
theorem call_isC {v2 : V} {u2 : Value} (r2 : ∀ u, RelV v2 u → u = u2) {tb : List (Str × Bool)} (k : IsOne X.K u2 tb) : CallR X (.builtin "isinstance") (fun xs H Q => ∃ G x c ns vs b, xs = [x, v2] ∧ Same G H ∧ Has X.K G x (.exn c ns vs) ∧ tb.lookup c = some b ∧ Q (.bl b) H) := by
  intro pins s σ H xs us Q I rv h
  obtain ⟨G, x, c, ns, vs, b, rfl, g, r, e, q⟩ := h
  obtain ⟨u, u2', rfl, r1, rr⟩ := rv.two
  obtain rfl := r2 _ rr
  have fin : ∀ tk, EP X pins σ Q (.bool b) { s with toks := tk } := fun tk => ⟨.bl b, H, I.tok _, rfl, q⟩
  obtain ⟨a, rfl⟩ : ∃ a, x = .ref a := by cases r <;> exact ⟨_, rfl⟩
  obtain rfl : u = Value.ref a := r1
  obtain ⟨C, ox, od, hc, io⟩ := inst_of I g r
  obtain ⟨xi, ko⟩ := k c b e C hc
  exact PySem.W.kia_one (kitx_exc xi) I.kIn io ko (fun z => nomatch z) fin
theorem call_isTup {Cs : List Addr} {tb : List (Str × Bool)} (k : IsAny X.K Cs tb) : CallR X (.builtin "isinstance") (fun xs H Q => ∃ G x p c ns vs b, xs = [x, .ref p] ∧ Same G H ∧ Has X.K G x (.exn c ns vs) ∧ SqT X.K H p (Cs.map V.ref) ∧ tb.lookup c = some b ∧ Q (.bl b) H) := by
  intro pins s σ H xs us Q I rv h
  obtain ⟨G, x, p, c, ns, vs, b, rfl, g, r, ht, e, q⟩ := h
  obtain ⟨u, u2', rfl, r1, rr⟩ := rv.two
  obtain rfl : u2' = Value.ref p := rr
  have fin : ∀ tk, EP X pins σ Q (.bool b) { s with toks := tk } := fun tk => ⟨.bl b, H, I.tok _, rfl, q⟩
  obtain ⟨a, rfl⟩ : ∃ a, x = .ref a := by cases r <;> exact ⟨_, rfl⟩
  obtain rfl : u = Value.ref a := r1
  obtain ⟨C, ox, od, hc, io⟩ := inst_of I g r
  obtain ⟨xi, ko⟩ := k c b e C hc
  obtain ⟨its, rv', ⟨o, e1, c1, n, d1⟩, _⟩ := I.tuple ht
  have ei : its = Cs.map Value.ref := refs_vals rv'
  subst ei
  obtain ⟨oc, odi, oda, osl⟩ := o
  simp only at c1 d1
  subst c1 d1
  exact PySem.W.kia_tup (kitx_exc xi) I.kIn io e1 ko (fun z => nomatch z) fin

variable {a : Expr} {fo : FE} {tb : List (Str × Bool)} {pp pos : Pos}
theorem isC_core {K : PySem.W.Frag} {δ : DE} {Q : VK} {P : VK} (g0 : Same G H) (s0 : HasS K G σ δ) (o : Out K (EX σ) G H (eIsC tb fo δ) Q)
    (i : ∀ v G' H' c ns vs b, Step G H G' H' → Has K G' v (.exn c ns vs) → tb.lookup c = some b → WP K G' H' (.sh (.bl b)) Q → P v H') : tD K EX fo σ H P := by
  refine tD.seq g0 s0 o fun w v G1 H1 _ st1 r1 o1 => ?_
  revert r1 o1
  cases w.d with
  | exn c ns vs =>
    intro r1 o1
    have o1 : Out K (EX σ) G1 H1 (match tb.lookup c with | some b => .ok (.sh (.bl b)) | none => .no) Q := o1
    cases e : tb.lookup c with
    | none => rw [e] at o1; exact o1.elim
    | some b => rw [e] at o1; exact i v G1 H1 c ns vs b st1 r1 e o1
  | _ => intro _ o1; exact False.elim o1
theorem ed_isC {cn : Str} {C2 : Addr} {p3 : Pos} (k : IsOne X.K (.ref C2) tb) (ha : ED X EX a fo) (hm : X.mg "isinstance" = none) (hmC : X.mg cn = some (.ref C2)) (hg : Gl X "isinstance" := by rfl) (hgC : Gl X cn := by rfl) (hdC : (cn == ("__debug__" : Str)) = false := by decide)
    (he : starEach [a, .Name cn p3] X.env = (false, eval a X.env) :: starEach [.Name cn p3] X.env := by rfl) (hpl : (backTo pos (starEach [.Name cn p3] X.env)).any (·.1) = false := by rfl)
    (hs : starEach [.Name cn p3] X.env = (false, eval (.Name cn p3) X.env) :: starEach [] X.env := by rfl) : ED X EX (.Call (.Name "isinstance" pp) [a, .Name cn p3] [] pos) (eIsC tb fo) :=
  PE.imp (pe_callB (call_isC (v2 := .ref C2) (fun _ r => r) k) hg hm boot_isinstance (pa_cons ha (pa_cons (pe_glob (v := .ref C2) hgC hmC rfl hdC) pa_nil hs) he) (by decide) (by decide) he hpl) fun σ H Q ⟨G, δ, g0, s0, o⟩ =>
    isC_core g0 s0 o fun v G' H' c ns vs b st r e q => ⟨G', v, c, ns, vs, b, rfl, st.gh, r, e, WP.use q st.gh (.bl b)⟩
theorem ed_isB {Tn : Str} {T : String} {p3 : Pos} (k : IsOne X.K (.type T) tb) (ha : ED X EX a fo) (hm : X.mg "isinstance" = none) (hmT : X.mg Tn = none) (hvT : bootBuiltins Tn = some (.type T)) (hg : Gl X "isinstance" := by rfl) (hgT : Gl X Tn := by rfl)
    (hn : Tn ≠ "__name__" := by decide) (hdT : (Tn == ("__debug__" : Str)) = false := by decide)
    (he : starEach [a, .Name Tn p3] X.env = (false, eval a X.env) :: starEach [.Name Tn p3] X.env := by rfl) (hpl : (backTo pos (starEach [.Name Tn p3] X.env)).any (·.1) = false := by rfl)
    (hs : starEach [.Name Tn p3] X.env = (false, eval (.Name Tn p3) X.env) :: starEach [] X.env := by rfl) : ED X EX (.Call (.Name "isinstance" pp) [a, .Name Tn p3] [] pos) (eIsC tb fo) :=
  PE.imp (pe_callB (call_isC (v2 := .ty T) (fun _ r => r) k) hg hm boot_isinstance (pa_cons ha (pa_cons (pe_bltn (v := .ty T) hgT hmT hvT rfl hn hdT) pa_nil hs) he) (by decide) (by decide) he hpl) fun σ H Q ⟨G, δ, g0, s0, o⟩ =>
    isC_core g0 s0 o fun v G' H' c ns vs b st r e q => ⟨G', v, c, ns, vs, b, rfl, st.gh, r, e, WP.use q st.gh (.bl b)⟩
noncomputable def tRefs (Cs : List Addr) : TA := fun _ H Q => Q (Cs.map V.ref) H
theorem pa_rnil : PA X [] (tRefs []) := pa_nil
theorem pa_rcons {cn : Str} {C2 : Addr} {p3 : Pos} {es : List Expr} {Cs : List Addr} (hmC : X.mg cn = some (.ref C2)) (hr : PA X es (tRefs Cs)) (hgC : Gl X cn := by rfl) (hdC : (cn == ("__debug__" : Str)) = false := by decide)
    (hs : starEach (.Name cn p3 :: es) X.env = (false, eval (.Name cn p3) X.env) :: starEach es X.env := by rfl) : PA X (.Name cn p3 :: es) (tRefs (C2 :: Cs)) := pa_cons (pe_glob (v := .ref C2) hgC hmC rfl hdC) hr hs
theorem ed_isTup {Cs : List Addr} {es : List Expr} {x1} {p3 : Pos} (k : IsAny X.K Cs tb) (ha : ED X EX a fo) (hm : X.mg "isinstance" = none) (hes : PA X es (tRefs Cs)) (hz : Nat.ble Cs.length 64 = true := by rfl) (hg : Gl X "isinstance" := by rfl)
    (he : starEach [a, .Tuple es x1 p3] X.env = (false, eval a X.env) :: starEach [.Tuple es x1 p3] X.env := by rfl) (hpl : (backTo pos (starEach [.Tuple es x1 p3] X.env)).any (·.1) = false := by rfl)
    (hs : starEach [.Tuple es x1 p3] X.env = (false, eval (.Tuple es x1 p3) X.env) :: starEach [] X.env := by rfl) : ED X EX (.Call (.Name "isinstance" pp) [a, .Tuple es x1 p3] [] pos) (eIsC tb fo) :=
  PE.imp (pe_callB (call_isTup k) hg hm boot_isinstance (pa_cons ha (pa_cons (pe_tup hes) pa_nil hs) he) (by decide) (by decide) he hpl) fun σ H Q ⟨G, δ, g0, s0, o⟩ =>
    isC_core g0 s0 o fun v G' H' c ns vs b st r e q => by
      show (Cs.map V.ref).length ≤ sizeLine ∧ ∀ p, H' p = none → _
      refine ⟨by have := Nat.le_of_ble_eq_true hz; rw [List.length_map, sizeLine_eq]; omega, fun p hp => ?_⟩
      have st2 : Step G' H' (upd G' p (.tup (Cs.map V.ref))) (upd H' p (.tup (Cs.map V.ref))) := Step.new st.gh hp _
      exact ⟨_, v, p, c, ns, vs, b, rfl, st2.gh, r.mono st2.gg, SqT.of upd_same, e, WP.use (WP.mono st2 q) st2.gh (.bl b)⟩
end
end L3

namespace L3
open PySem PySem.Spec PyProof.Rows L2
theorem boot_ValueError : bootBuiltins "ValueError" = some (.type "ValueError") := by decide +kernel
theorem RoomC.units {c : Bool} {k : Nat} {A : Around} (r : RoomC c k A) : A.units + 64 < cLine := by have := r.un; omega
section
variable {X : Cx} {c : Bool} {k : Nat} {pins : List (Addr × Obj)} {W : Value → Shared → Prop} {e : Value}
theorem room_nox (h : RoomC c k (Cx.A X)) : RoomC c k (Cx.A (Cx.nox X)) := h
theorem room_try (h : RoomC c k (Cx.A X)) : RoomC c k (Cx.A (tryB X pins W)) := h
theorem room_hand (h : RoomC c k (Cx.A X)) : RoomC false k (Cx.A (hand X e)) := h.mark _
theorem calm_nox (h : Cx.calm X = true) : Cx.calm (Cx.nox X) = true := h
theorem passes_def {cm : Bool} {P : Program} {w : World} {K : PySem.W.Frag} {mg : Str → Option Value} {base : Heap} {N : List Str} {qual : Str} {scope : Scope} {f : Addr} {cd : Value} {A : Around} {outer : List Env} {s : Shared} {H : Hp} {E : XK} :
    PassesOwn (model P w) (Cx.A (cxN cm P w K mg base N qual scope f cd A outer s H E)) (Cx.env (cxN cm P w K mg base N qual scope f cd A outer s H E)) (Cx.xe (cxN cm P w K mg base N qual scope f cd A outer s H E)) :=
  fun e s' h => wpAny_leaving_again (SameStack.refl _) h
theorem Catches.one {K : PySem.W.Frag} {C2 : Addr} {c : Str} {C : Addr} {b : Bool} (a : ClsAt K c C) (h : PySem.W.exmOne K (.ref C) (.ref C2) = some b) {tb : List (Str × Bool)} (r : Catches K C2 tb) : Catches K C2 ((c, b) :: tb) := fun c' b' e C' a' => by
  rw [List.lookup_cons] at e
  cases z : (c' == c) with
  | true =>
    rw [z] at e
    cases e
    have : c' = c := eq_of_beq z
    subst this
    unfold ClsAt at a a'
    rw [a] at a'
    cases a'
    exact h
  | false => rw [z] at e; exact r c' b' e C' a'
theorem Catches.nil {K : PySem.W.Frag} {C2 : Addr} : Catches K C2 [] := fun _ _ e => by cases e
theorem IsOne.nil {K : PySem.W.Frag} {v : Value} : IsOne K v [] := fun _ _ e => by cases e
theorem IsOne.one {K : PySem.W.Frag} {v : Value} {c : Str} {C : Addr} {b : Bool} (a : ClsAt K c C) (x : XInst K C) (h : PySem.W.kitOne K (.ref C) v = some b) {tb : List (Str × Bool)} (r : IsOne K v tb) : IsOne K v ((c, b) :: tb) := fun c' b' e C' a' => by
  rw [List.lookup_cons] at e
  cases z : (c' == c) with
  | true =>
    rw [z] at e
    cases e
    have : c' = c := eq_of_beq z
    subst this
    unfold ClsAt at a a'
    rw [a] at a'
    cases a'
    exact ⟨x, h⟩
  | false => rw [z] at e; exact r c' b' e C' a'
theorem IsAny.nil {K : PySem.W.Frag} {v : List Addr} : IsAny K v [] := fun _ _ e => by cases e
theorem IsAny.one {K : PySem.W.Frag} {v : List Addr} {c : Str} {C : Addr} {b : Bool} (a : ClsAt K c C) (x : XInst K C) (h : PySem.W.kitAny K (.ref C) (v.map Value.ref) = some b) {tb : List (Str × Bool)} (r : IsAny K v tb) : IsAny K v ((c, b) :: tb) := fun c' b' e C' a' => by
  rw [List.lookup_cons] at e
  cases z : (c' == c) with
  | true =>
    rw [z] at e
    cases e
    have : c' = c := eq_of_beq z
    subst this
    unfold ClsAt at a a'
    rw [a] at a'
    cases a'
    exact ⟨x, h⟩
  | false => rw [z] at e; exact r c' b' e C' a'
theorem XGets.nil {K : PySem.W.Frag} {f : Str} : XGets K [] f := fun _ e => by cases e
theorem XGets.one {K : PySem.W.Frag} {f c : Str} {C : Addr} (a : ClsAt K c C) (x : XGet K C f) {cs : List Str} (r : XGets K cs f) : XGets K (c :: cs) f := fun c' e C' a' => by
  rcases List.mem_cons.mp e with rfl | e
  · unfold ClsAt at a a'
    rw [a] at a'
    cases a'
    exact x
  · exact r c' e C' a'
end
end L3

namespace L3
open PySem PySem.Spec PyProof.Rows L2
structure Hd where
  i : Option Nat
  tb : List (Str × Bool)
  h : FS
inductive HOk3 (X : Cx) : List ExceptHandler → List Hd → Prop where
  | nil : HOk3 X [] []
  | as_ {c n : Str} {C2 : Addr} {b₀ : Stmt} {suite : List Stmt} {np hp : Pos} {i : Nat} {tb : List (Str × Bool)} {h : FS} {hs : List ExceptHandler} {ds : List Hd} (hc : X.mg c = some (.ref C2)) (ct : Catches X.K C2 tb) (hh : ∀ e, BD (hand X e) EXS0 (b₀ :: suite) h) (r : HOk3 X hs ds)
      (hi : X.N[i]? = some n := by rfl) (hk : X.env.scope.names.lookup n = some .local := by rfl) (hg : Gl X c := by rfl) (hdb : (c == ("__debug__" : Str)) = false := by decide) :
      HOk3 X (.ExceptHandler (some (.Name c np)) (some n) (b₀ :: suite) hp :: hs) (⟨some i, tb, h⟩ :: ds)
  | bare {c : Str} {C2 : Addr} {b₀ : Stmt} {suite : List Stmt} {np hp : Pos} {tb : List (Str × Bool)} {h : FS} {hs : List ExceptHandler} {ds : List Hd} (hc : X.mg c = some (.ref C2)) (ct : Catches X.K C2 tb) (hh : ∀ e, BD (hand X e) EXS0 (b₀ :: suite) h) (r : HOk3 X hs ds)
      (hg : Gl X c := by rfl) (hdb : (c == ("__debug__" : Str)) = false := by decide) :
      HOk3 X (.ExceptHandler (some (.Name c np)) none (b₀ :: suite) hp :: hs) (⟨none, tb, h⟩ :: ds)
section
variable {X : Cx} {EX : EXS} {g : FS} {body : List Stmt} {pos : Pos}
end
end L3

namespace L3
open PySem PySem.Spec PyProof.Rows L2
section
variable {prog : Program} {w : World} {A : Around} {E : Value → Shared → Prop} {h : Heap} {g : Array GenState} {d : Drawn} {t : Nat} {os : OsState}
variable {nm q : Str} {C N : Addr} {bs bm bmB : List Value} {hdct : Bool} {sn : List Str} {sub : List Value} {ab : Bool} {col : Option Bool} {dd : Option Addr} {k0 k1 k2 k3 k5 : Option Value} {B newId initId : String}
end
noncomputable def XMk0 (K : PySem.W.Frag) (C : Addr) : Prop := ∃ (nm q : Str) (N : Addr) (bs bm : List Value) (sn : List Str) (sub : List Value) (ab : Bool) (col : Option Bool) (dd : Option Addr) (k0 k1 k2 k3 k5 : Option Value) (mN : Str → Option Value),
  K.lookup C = some (excClassObj nm q C N bs bm true sn sub ab col dd k0 k1 k2 k3 k5 "ValueError.__new__") ∧ (∀ h : Heap, K.In h → OwnTail h bmVE bm) ∧ (∀ h : Heap, K.In h → h.Ns N mN) ∧ mN "__init__" = none
structure XC0 (K : PySem.W.Frag) (mg : Str → Option Value) (c : Str) (C : Addr) : Prop where
  at_ : ClsAt K c C
  glob : mg c = some (.ref C)
  kp : PySem.W.keepIn K (.ref C) = true
  made : XMk0 K C
section
variable {X : Cx} {C : Addr} {c : Str}
end
end L3

namespace L3
open PySem L2
noncomputable def evs := And.intro @L3.bodyD.eq_1 (And.intro @L3.start3.eq_1 (And.intro @L3.sSeq.eq_1 (And.intro @L3.sSet.eq_1 (And.intro @L3.gsome.eq_1 (And.intro @L3.give1.eq_1 (And.intro @List.foldl_cons.{0,0} (And.intro @List.foldl_nil.{0,0} (And.intro @L3.sRet.eq_1 (And.intro @L3.sRetV.eq_1 (And.intro @L3.sIf.eq_1 (And.intro @L3.sExpr.eq_1 (And.intro @L3.sNil.eq_1 (And.intro @L3.vsh.eq_1 (And.intro @L3.vall.eq_1 (And.intro @L3.gall.eq_1 (And.intro @L3.pub_sh (And.intro @L3.pub_ow (And.intro @L3.pub_no (And.intro @L3.any_sh (And.intro @L3.any_ow (And.intro @L3.any_no (And.intro @L3.give_sh (And.intro @L3.give_ow (And.intro @L3.give_no (And.intro @L3.eOp.eq_1 (And.intro @L3.eVar.eq_1 (And.intro @L3.eC.eq_1 (And.intro @L3.eTest.eq_1 (And.intro @L3.eTruth.eq_1 (And.intro @L3.truthD.eq_1 (And.intro @L3.truthD.eq_2 (And.intro @L3.truthD.eq_3 (And.intro @L3.truthD.eq_4 (And.intro @L3.truthD.eq_5 (And.intro @L3.truthD.eq_6 (And.intro @L3.truthD.eq_7 (And.intro @L3.boolD.eq_1 (And.intro @L3.boolD.eq_2 (And.intro @L3.eCall.eq_1 (And.intro @L3.eFn.eq_1 (And.intro @L3.R.calm_ok (And.intro @L3.R.calm_no (And.intro @L3.R.calm_ex (And.intro @L3.sPut.eq_1 (And.intro @L3.sPut.eq_2 (And.intro @L3.sPut.eq_3 (And.intro @L3.sPut.eq_4 (And.intro @L3.sPut.eq_5 (And.intro @L3.eAttr.eq_1 (And.intro @L3.eIsC.eq_1 (And.intro @L3.isND.eq_1 (And.intro @L3.isND.eq_2 (And.intro @L3.nonB.eq_1 (And.intro @L3.nonB.eq_2 (And.intro @L3.aNil.eq_1 (And.intro @L3.aCons.eq_1 (And.intro @L3.eTup.eq_1 (And.intro @L3.eLst.eq_1 (And.intro @L3.eIf.eq_1 (And.intro @L3.eAnd.eq_1 (And.intro @L3.eOr.eq_1 (And.intro @L3.eNot.eq_1 (And.intro @L3.tAndF.eq_1 (And.intro @L3.tOrF.eq_1 (And.intro @L3.tNotF.eq_1 (And.intro @L3.eIs.eq_1 (And.intro @L3.isT_int_non (And.intro @L3.isT_int_bl (And.intro @L3.isT_int_int (And.intro @L3.isT_int_str (And.intro @L3.isT_int_lst (And.intro @L3.isT_int_tup (And.intro @L3.isT_bool_non (And.intro @L3.isT_bool_bl (And.intro @L3.isT_bool_int (And.intro @L3.isT_bool_str (And.intro @L3.isT_bool_lst (And.intro @L3.isT_bool_tup (And.intro @L3.isT_str_non (And.intro @L3.isT_str_bl (And.intro @L3.isT_str_int (And.intro @L3.isT_str_str (And.intro @L3.isT_str_lst (And.intro @L3.isT_str_tup (And.intro @L3.isT_list_non (And.intro @L3.isT_list_bl (And.intro @L3.isT_list_int (And.intro @L3.isT_list_str (And.intro @L3.isT_list_lst (And.intro @L3.isT_list_tup (And.intro @L3.isT_tuple_non (And.intro @L3.isT_tuple_bl (And.intro @L3.isT_tuple_int (And.intro @L3.isT_tuple_str (And.intro @L3.isT_tuple_lst (And.intro @L3.isT_tuple_tup (And.intro @L3.eSlice.eq_1 (And.intro @L3.oNone.eq_1 (And.intro @L3.oSome.eq_1 (And.intro @L3.intPart.eq_1 (And.intro @L3.intPart.eq_2 (And.intro @L3.eMeth.eq_1 (And.intro @L3.eMeth0.eq_1 (And.intro @L3.tyD.eq_1 (And.intro @L3.tyD.eq_2 (And.intro @L3.tyD.eq_3 (And.intro @L3.tyD.eq_4 (And.intro @L3.iArgs.eq_1 (And.intro @L3.iOf.eq_1 (And.intro @L3.itemsD.eq_1 (And.intro @L3.itemsD.eq_2 (And.intro @L3.itemsD.eq_3 (And.intro @L3.itemsD.eq_4 (And.intro @L3.R.bind_ok (And.intro @L3.R.bind_no (And.intro @L3.R.bind_ex (And.intro @L3.W.d_sh (And.intro @L3.W.d_ow (And.intro @List.map_cons.{0,0} (And.intro @List.map_nil.{0,0} (And.intro @List.cons_append.{0} (And.intro @List.nil_append.{0} (And.intro @List.append_nil.{0} (And.intro @List.replicate_succ.{0} (And.intro @List.replicate_zero.{0} (And.intro @List.length_cons.{0} (And.intro @List.length_nil.{0} (And.intro @List.set_cons_zero.{0} (And.intro @List.set_cons_succ.{0} (And.intro @List.getElem?_cons_zero.{0} (And.intro @List.getElem?_cons_succ.{0} (And.intro @if_true.{1} (And.intro @if_false.{1} (And.intro @L3.flatD.eq_1 (And.intro @L3.flatD.eq_2 (And.intro @L3.flatD.eq_3 (And.intro @L3.flatD.eq_4 (And.intro @L3.flatD.eq_5 (And.intro @Bool.false_eq_true (And.intro @Bool.not_true (And.intro @Bool.not_false (And.intro @Bool.true_and (And.intro @Bool.false_and (And.intro @Nat.zero_add (And.intro @decide_true (And.intro @decide_false (And.intro @L3.gC.eq_1 (@L3.gV.eq_1))))))))))))))))))))))))))))))))))))))))))))))))))))))))))))))))))))))))))))))))))))))))))))))))))))))))))))))))))))))))))))))))))))))))))))))))))))
end L3

namespace L3
open PySem PySem.Spec PyProof.Rows L2
noncomputable def FnAt (K : PySem.W.Frag) (x qual : Str) (st : Stmt) (f : Addr) : Prop := ∃ fd, Fun K x qual st f fd
theorem FnAt.mk {K : PySem.W.Frag} {x qual : Str} {st : Stmt} {f : Addr} {oc kV dc pm cd ct : Value} {od an : Option Addr} {sl : Array (Option Value)}
    (l : K.lookup f = some ⟨oc, od, .func (PySem.W.fnOf x qual (defArgs st) (defBody st) (defScope st) .none kV dc pm an cd ct), sl⟩) (c : PySem.W.codeIn K cd qual = true) (k : PySem.W.keepIn K (.ref f) = true) : FnAt K x qual st f := ⟨_, fun_mk l c k⟩
noncomputable def FnTop (K : PySem.W.Frag) (x : Str) (st : Stmt) : Prop := ∃ f, PySem.W.nsIn K mainGlobals x = some (some (.ref f)) ∧ FnAt K x x st f
theorem FnTop.mk {K : PySem.W.Frag} {x : Str} {st : Stmt} {f : Addr} {oc kV dc pm cd ct : Value} {od an : Option Addr} {sl : Array (Option Value)} (a : PySem.W.nsIn K mainGlobals x = some (some (.ref f)))
    (l : K.lookup f = some ⟨oc, od, .func (PySem.W.fnOf x x (defArgs st) (defBody st) (defScope st) .none kV dc pm an cd ct), sl⟩) (c : PySem.W.codeIn K cd x = true) (k : PySem.W.keepIn K (.ref f) = true) : FnTop K x st := ⟨f, a, FnAt.mk l c k⟩
noncomputable def FnMet (K : PySem.W.Frag) (C : Addr) (x qual : Str) (st : Stmt) : Prop := ∃ f, PySem.W.findIn K (.ref C) x = some (some (.ref f)) ∧ FnAt K x qual st f ∧ PySem.W.keepIn K (.ref f) = true ∧ PySem.W.isFn K (.ref f) = true
theorem FnMet.mk {K : PySem.W.Frag} {C : Addr} {x qual : Str} {st : Stmt} {f : Addr} {oc kV dc pm cd ct : Value} {od an : Option Addr} {sl : Array (Option Value)} (a : PySem.W.findIn K (.ref C) x = some (some (.ref f)))
    (l : K.lookup f = some ⟨oc, od, .func (PySem.W.fnOf x qual (defArgs st) (defBody st) (defScope st) .none kV dc pm an cd ct), sl⟩) (c : PySem.W.codeIn K cd qual = true) (k : PySem.W.keepIn K (.ref f) = true) (i : PySem.W.isFn K (.ref f) = true) : FnMet K C x qual st := ⟨f, a, FnAt.mk l c k, k, i⟩
end L3

namespace My
open PySem L2 L3
noncomputable def g_law_raw : FS :=
    (sSeq (sIf [0, 1] (eTest (eOp ltD (eVar 1) (eCall lenD (aCons (eVar 0) aNil))))
      (sRet [0, 1] (eOp ixD (eVar 0) (eVar 1)))
      sNil)
    (sRet [] (eC (.int 0))))
noncomputable def F_law_raw : List D → R W := bodyD 2 g_law_raw
noncomputable def g_law_width : FS :=
    (sRet [0] (eOp ixD (eLst (aCons (eOp addD (eC (.int 1)) (eOp modD (eOp divD (eVar 0) (eC (.int 4))) (eC (.int 64)))) (aCons (eOp addD (eC (.int 1)) (eOp modD (eOp divD (eVar 0) (eC (.int 4))) (eC (.int 8)))) (aCons (eC (.int 64)) (aCons (eC (.int 1)) aNil))))) (eOp modD (eVar 0) (eC (.int 4)))))
noncomputable def F_law_width : List D → R W := bodyD 1 g_law_width
noncomputable def g_law_mix : FS :=
    (sSeq (sSet 2 [0, 1] (eOp modD (eOp mulI (eOp addD (eVar 0) (eC (.int 1))) (eOp addD (eC (.int 48271)) (eOp mulI (eC (.int 118)) (eVar 1)))) (eC (.int 2147483629))))
    (sRet [1, 2] (eOp modD (eOp addD (eOp addD (eOp mulI (eOp divD (eVar 2) (eC (.int 977))) (eC (.int 16807))) (eOp mulI (eVar 2) (eOp addD (eOp mulI (eVar 1) (eVar 1)) (eC (.int 7))))) (eVar 1)) (eC (.int 2147483587)))))
noncomputable def F_law_mix : List D → R W := bodyD 3 g_law_mix
noncomputable def g_law_cell : FS :=
    (sRet [0, 1] (eFn 2 F_law_mix (aCons (eOp modD (eFn 2 F_law_raw (aCons (eVar 0) (aCons (eVar 1) aNil))) (eC (.int 2147483647))) (aCons (eOp addD (eVar 1) (eC (.int 101))) aNil))))
noncomputable def F_law_cell : List D → R W := bodyD 2 g_law_cell
noncomputable def g_law_great : FS :=
    (sRet [0] (eOp addD (eOp mulI (eOp addD (eOp mulI (eFn 2 F_law_mix (aCons (eVar 0) (aCons (eC (.int 1)) aNil))) (eC (.int 2147483587))) (eFn 2 F_law_mix (aCons (eVar 0) (aCons (eC (.int 2)) aNil)))) (eC (.int 2147483587))) (eFn 2 F_law_mix (aCons (eVar 0) (aCons (eC (.int 3)) aNil)))))
noncomputable def F_law_great : List D → R W := bodyD 1 g_law_great
noncomputable def e_law_cells_1 : FE :=
    (eFn 2 F_law_raw (aCons (eVar 0) (aCons (eOp addD (eVar 1) (eVar 5)) aNil)))
noncomputable def e_law_cells_2 : FE :=
    (eFn 1 F_law_great (aCons (eFn 2 F_law_mix (aCons (eFn 2 F_law_cell (aCons (eVar 0) (aCons (eOp addD (eVar 1) (eOp modD (eVar 5) (eCall maxD (aCons (eC (.int 1)) (aCons (eVar 3) aNil))))) aNil))) (aCons (eVar 5) aNil))) aNil))
noncomputable def g_law_cells : FS :=
    (sSeq (sSet 3 [0, 1] (eCall maxD (aCons (eC (.int 0)) (aCons (eOp subD (eCall lenD (aCons (eVar 0) aNil)) (eVar 1)) aNil))))
    (sSeq (sIf [0] (eTest (eOp eqD (eOp modD (eFn 2 F_law_raw (aCons (eVar 0) (aCons (eC (.int 0)) aNil))) (eC (.int 2))) (eC (.int 0))))
      (sRet [0, 1, 2, 3] (eComp 1 (iArgs rng1 (aCons (eCall minD (aCons (eVar 2) (aCons (eVar 3) aNil))) aNil)) (gC 5) (fun _ => .ok true) e_law_cells_1))
      sNil)
    (sSeq (sSet 4 [0, 2, 3] (eCall minD (aCons (eVar 2) (aCons (eCall maxD (aCons (eVar 3) (aCons (eOp addD (eC (.int 1)) (eOp modD (eFn 2 F_law_cell (aCons (eVar 0) (aCons (eC (.int 0)) aNil))) (eVar 2))) aNil))) aNil))))
    (sRet [0, 1, 3, 4] (eComp 1 (iArgs rng1 (aCons (eVar 4) aNil)) (gC 5) (fun _ => .ok true) e_law_cells_2)))))
noncomputable def F_law_cells : List D → R W := bodyD 5 g_law_cells
noncomputable def b_law_bits_1 : FS :=
    (sSeq (sSet 2 [0, 2] (eOp addD (eOp ixD (eC (.str "01")) (eOp modD (eVar 0) (eC (.int 2)))) (eVar 2)))
    (sSet 0 [0] (eOp divD (eVar 0) (eC (.int 2)))))
noncomputable def g_law_bits : FS :=
    (sSeq (sSet 2 [] (eC (.str "")))
    (sSeq (sFor [1] (iArgs rng1 (aCons (eVar 1) aNil)) (gV 3) b_law_bits_1)
    (sRetV 2)))
noncomputable def F_law_bits : List D → R W := bodyD 4 g_law_bits
noncomputable def b_law_spoiled_1 : FS :=
    (sSeq (sSet 5 [2, 4] (eFn 2 F_law_mix (aCons (eOp modD (eVar 2) (eC (.int 2147483647))) (aCons (eOp addD (eC (.int 30)) (eVar 4)) aNil))))
    (sSeq (sSet 6 [5] (eOp ixD (eLst (aCons (eC (.int 1)) (aCons (eOp addD (eC (.int 1)) (eOp modD (eOp divD (eVar 5) (eC (.int 64))) (eC (.int 9)))) (aCons (eOp addD (eOp powD (eC (.int 10)) (eC (.int 20))) (eVar 5)) aNil)))) (eOp modD (eOp divD (eVar 5) (eC (.int 16))) (eC (.int 3)))))
    (sSetI 0 (eOp modD (eVar 5) (eCall lenD (aCons (eVar 0) aNil))) (eOp ixD (eLst (aCons (eOp subD (eC (.int 0)) (eVar 6)) (aCons (eOp addD (eOp subD (eVar 3) (eC (.int 1))) (eVar 6)) aNil))) (eOp modD (eOp divD (eVar 5) (eC (.int 4096))) (eC (.int 2)))))))
noncomputable def g_law_spoiled : FS :=
    (sSeq (sSet 3 [1] (eOp shlD (eC (.int 1)) (eVar 1)))
    (sSeq (sSet 0 [0] (eCall listOf (aCons (eVar 0) aNil)))
    (sSeq (sFor [2] (iArgs rng1 (aCons (eOp addD (eC (.int 1)) (eOp modD (eVar 2) (eC (.int 3)))) aNil)) (gV 4) b_law_spoiled_1)
    (sRetV 0))))
noncomputable def F_law_spoiled : List D → R W := bodyD 7 g_law_spoiled
noncomputable def b_two_to_1 : FS :=
    (sSet 1 [1] (eOp mulI (eVar 1) (eC (.int 2))))
noncomputable def g_two_to : FS :=
    (sSeq (sSet 1 [] (eC (.int 1)))
    (sSeq (sFor [0] (iArgs rng1 (aCons (eVar 0) aNil)) (gV 2) b_two_to_1)
    (sRetV 1)))
noncomputable def F_two_to : List D → R W := bodyD 3 g_two_to
noncomputable def g_is_below : FS :=
    (sRet [0, 1] (eAnd (eNot (eIs "bool" (eVar 0))) (eChain leD ltD (eC (.int 0)) (eVar 0) (eVar 1))))
noncomputable def F_is_below : List D → R W := bodyD 2 g_is_below
noncomputable def b_number_written_1 : FS :=
    (sSeq (sSet 2 [2, 3] (eOp addD (eCall strOf (aCons (eOp modD (eVar 3) (eC (.int 2))) aNil)) (eVar 2)))
    (sSet 3 [3] (eOp divD (eVar 3) (eC (.int 2)))))
noncomputable def g_number_written : FS :=
    (sSeq (sSet 2 [] (eC (.str "")))
    (sSeq (sSet 3 [0] (eVar 0))
    (sSeq (sFor [1] (iArgs rng1 (aCons (eVar 1) aNil)) (gV 4) b_number_written_1)
    (sRetV 2))))
noncomputable def F_number_written : List D → R W := bodyD 5 g_number_written
noncomputable def b_written_1 : FS :=
    (sIf [2, 4] (tNotF (eTruth (eFn 2 F_is_below (aCons (eVar 4) (aCons (eVar 2) aNil)))))
      (sRaise "NoBits" "at" [3] (eVar 3))
      sNil)
noncomputable def e_written_1 : FE :=
    (eFn 2 F_number_written (aCons (eVar 5) (aCons (eVar 1) aNil)))
noncomputable def g_written : FS :=
    (sSeq (sSet 2 [1] (eFn 1 F_two_to (aCons (eVar 1) aNil)))
    (sSeq (sFor [0] (iEnum (eVar 0)) (gV2 3 4) b_written_1)
    (sRet [0, 1] (eMeth "str" joinS (eC (.str "")) (aCons (eComp 1 (iOf (eVar 0)) (gC 5) (fun _ => .ok true) e_written_1) aNil)))))
noncomputable def F_written : List D → R W := bodyD 5 g_written
noncomputable def g_law_alone : FS :=
    (sSeq (sIf [0] (tOrF (tNotF (eTruth (eIsC [("NoBits", true)] (eVar 0)))) (tNotF (eTruth (eIsC [("NoBits", true)] (eVar 0)))))
      (sRet [] (eC (.bl false)))
      sNil)
    (sSeq (sIf [0] (eTruth (eIsC [("NoBits", false)] (eVar 0)))
      (sRet [] (eC (.bl false)))
      sNil)
    (sSeq (sIf [0] (eTruth (eIsC [("NoBits", false)] (eVar 0)))
      (sRet [] (eC (.bl false)))
      sNil)
    (sRet [0] (eNot (eIsC [("NoBits", false)] (eVar 0)))))))
noncomputable def F_law_alone : List D → R W := bodyD 1 g_law_alone
noncomputable def b_law_write_1 : FS :=
    (sExpr [1, 2] (eFn 2 F_written (aCons (eVar 2) (aCons (eVar 1) aNil))))
noncomputable def h_law_write_1 : FS :=
    (sSet 3 [4] (eLst (aCons (eAttr ["NoBits"] "at" (eVar 4)) (aCons (eAnd (eFn 1 F_law_alone (aCons (eVar 4) aNil)) (eNot (eIs "bool" (eAttr ["NoBits"] "at" (eVar 4))))) aNil))))
noncomputable def g_law_write : FS :=
    (sSeq (sSet 2 [0] (eCall listOf (aCons (eVar 0) aNil)))
    (sSeq (sSet 3 [] (eC .non))
    (sSeq (sTry 4 [("NoBits", true)] b_law_write_1 h_law_write_1)
    (sSeq (sIf [0, 2] (eTest (eOp neD (eVar 2) (eVar 0)))
      (sRet [] (eC (.str "changed")))
      sNil)
    (sRetV 3)))))
noncomputable def F_law_write : List D → R W := bodyD 5 g_law_write
noncomputable def b_law_spoiled_row_1 : FS :=
    (sSeq (sSet 6 [2, 5] (eFn 2 F_law_mix (aCons (eOp modD (eVar 2) (eC (.int 2147483647))) (aCons (eOp addD (eC (.int 50)) (eVar 5)) aNil))))
    (sSeq (sSet 7 [0, 6] (eOp modD (eVar 6) (eCall lenD (aCons (eVar 0) aNil))))
    (sSet 0 [0, 6, 7] (eOp addD (eOp addD (eSlice (eVar 0) oNone (oSome (eVar 7))) (eOp ixD (eC (.str "2 3ab9-.OIl_+\n")) (eOp modD (eOp divD (eVar 6) (eC (.int 4096))) (eC (.int 14))))) (eSlice (eVar 0) (oSome (eOp addD (eVar 7) (eC (.int 1)))) oNone)))))
noncomputable def g_law_spoiled_row : FS :=
    (sSeq (sSet 3 [2] (eOp modD (eVar 2) (eC (.int 3))))
    (sSeq (sIf [3] (eTest (eOp gtD (eVar 3) (eC (.int 0))))
      (sSeq (sSet 4 [2] (eOp modD (eOp divD (eVar 2) (eC (.int 3))) (eC (.int 64))))
    (sIf [2] (eTest (eOp eqD (eOp modD (eOp divD (eVar 2) (eC (.int 192))) (eC (.int 2))) (eC (.int 0))))
      (sSet 0 [0, 4] (eOp addD (eVar 0) (eSlice (eOp mulS (eC (.str "10")) (eC (.int 32))) oNone (oSome (eVar 4)))))
      (sSet 0 [0, 4] (eSlice (eVar 0) (oSome (eCall minD (aCons (eVar 4) (aCons (eCall lenD (aCons (eVar 0) aNil)) aNil)))) oNone))))
      sNil)
    (sSeq (sIf [0, 3] (tAndF (eTest (eOp ltD (eVar 3) (eC (.int 2)))) (eTest (eOp neD (eVar 0) (eC (.str "")))))
      (sFor [2] (iArgs rng1 (aCons (eOp addD (eC (.int 1)) (eOp modD (eOp divD (eVar 2) (eC (.int 384))) (eC (.int 3)))) aNil)) (gV 5) b_law_spoiled_row_1)
      sNil)
    (sRetV 0))))
noncomputable def F_law_spoiled_row : List D → R W := bodyD 8 g_law_spoiled_row
noncomputable def b_law_due_1 : FS :=
    (sIf [3] (tAndF (eTest (eOp neD (eVar 3) (eC (.str "0")))) (eTest (eOp neD (eVar 3) (eC (.str "1")))))
      (sRetV 2)
      sNil)
noncomputable def g_law_due : FS :=
    (sSeq (sFor [0] (iEnum (eVar 0)) (gV2 2 3) b_law_due_1)
    (sSeq (sIf [0, 1] (eTest (eOp neD (eOp modD (eCall lenD (aCons (eVar 0) aNil)) (eVar 1)) (eC (.int 0))))
      (sRet [0] (eCall lenD (aCons (eVar 0) aNil)))
      sNil)
    (sRet [] (eC .non))))
noncomputable def F_law_due : List D → R W := bodyD 4 g_law_due
noncomputable def g_is_multiple : FS :=
    (sSeq (sIf [1] (eTest (eOp ltD (eVar 1) (eC (.int 1))))
      (sRet [0] (eOp eqD (eVar 0) (eC (.int 0))))
      sNil)
    (sRet [0, 1] (eOp eqD (eOp modD (eVar 0) (eVar 1)) (eC (.int 0)))))
noncomputable def F_is_multiple : List D → R W := bodyD 2 g_is_multiple
noncomputable def b_look_bits_1 : FS :=
    (sIf [3] (tAndF (eTest (eOp neD (eVar 3) (eC (.str "0")))) (eTest (eOp neD (eVar 3) (eC (.str "1")))))
      (sRaise "NoBits" "at" [2] (eVar 2))
      sNil)
noncomputable def g_look_bits : FS :=
    (sSeq (sFor [0] (iEnum (eVar 0)) (gV2 2 3) b_look_bits_1)
    (sIf [0, 1] (tNotF (eTruth (eFn 2 F_is_multiple (aCons (eCall lenD (aCons (eVar 0) aNil)) (aCons (eVar 1) aNil)))))
      (sRaise "NoBits" "at" [0] (eCall lenD (aCons (eVar 0) aNil)))
      sNil))
noncomputable def F_look_bits : List D → R W := bodyD 4 g_look_bits
noncomputable def b_number_read_1 : FS :=
    (sSet 1 [1, 2] (eOp addD (eOp mulI (eC (.int 2)) (eVar 1)) (eIf (eTest (eOp eqD (eVar 2) (eC (.str "1")))) (eC (.int 1)) (eC (.int 0)))))
noncomputable def g_number_read : FS :=
    (sSeq (sSet 1 [] (eC (.int 0)))
    (sSeq (sFor [0] (iOf (eVar 0)) (gV 2) b_number_read_1)
    (sRetV 1)))
noncomputable def F_number_read : List D → R W := bodyD 3 g_number_read
noncomputable def t_read_bits_1 : FT :=
    (eTest (eOp ltD (eVar 3) (eCall lenD (aCons (eVar 0) aNil))))
noncomputable def b_read_bits_1 : FS :=
    (sSeq (sApp 2 (eFn 1 F_number_read (aCons (eSlice (eVar 0) (oSome (eVar 3)) (oSome (eOp addD (eVar 3) (eVar 1)))) aNil)))
    (sSet 3 [1, 3] (eOp addD (eVar 3) (eVar 1))))
noncomputable def g_read_bits : FS :=
    (sSeq (sExpr [0, 1] (eFn 2 F_look_bits (aCons (eVar 0) (aCons (eVar 1) aNil))))
    (sSeq (sSet 2 [] (eLst aNil))
    (sSeq (sSet 3 [] (eC (.int 0)))
    (sSeq (sWhile [0, 3] t_read_bits_1 b_read_bits_1 3000)
    (sRetV 2)))))
noncomputable def F_read_bits : List D → R W := bodyD 4 g_read_bits
noncomputable def b_law_read_1 : FS :=
    (sExpr [0, 1] (eFn 2 F_read_bits (aCons (eVar 0) (aCons (eVar 1) aNil))))
noncomputable def h_law_read_1 : FS :=
    (sSet 2 [3] (eLst (aCons (eAttr ["NoBits"] "at" (eVar 3)) (aCons (eAnd (eFn 1 F_law_alone (aCons (eVar 3) aNil)) (eNot (eIs "bool" (eAttr ["NoBits"] "at" (eVar 3))))) aNil))))
noncomputable def g_law_read : FS :=
    (sSeq (sSet 2 [] (eC .non))
    (sSeq (sTry 3 [("NoBits", true)] b_law_read_1 h_law_read_1)
    (sRetV 2)))
noncomputable def F_law_read : List D → R W := bodyD 4 g_law_read
noncomputable def e_law_1 : FE :=
    (eOp modD (eVar 12) (eOp shlD (eC (.int 1)) (eVar 2)))
noncomputable def e_law_2 : FE :=
    (eFn 2 F_law_bits (aCons (eVar 12) (aCons (eVar 2) aNil)))
noncomputable def p_law_1 : FT :=
    (tOrF (eTest (eOp ltD (eVar 13) (eC (.int 0)))) (eTest (eOp geD (eVar 13) (eOp shlD (eC (.int 1)) (eVar 2)))))
noncomputable def b_law_1 : FS :=
    (sSeq (sSet 6 [1, 5] (eFn 2 F_law_mix (aCons (eOp modD (eVar 1) (eC (.int 2147483647))) (aCons (eVar 5) aNil))))
    (sSeq (sIf [5] (eTest (eOp neD (eVar 5) (eC (.int 1))))
      (sSet 6 [0, 1, 5] (eOp ixD (eLst (aCons (eOp divD (eVar 1) (eC (.int 1024))) (aCons (eC (.int 0)) (aCons (eFn 2 F_law_mix (aCons (eFn 2 F_law_cell (aCons (eVar 0) (aCons (eC (.int 1)) aNil))) (aCons (eOp addD (eC (.int 20)) (eVar 5)) aNil))) aNil)))) (eVar 5)))
      sNil)
    (sSeq (sSet 7 [2, 3, 6] (eFn 3 F_law_spoiled (aCons (eVar 3) (aCons (eVar 2) (aCons (eVar 6) aNil)))))
    (sSeq (sSet 8 [2, 7] (eOp ixD (eComp 2 (iEnum (eVar 7)) (gC2 12 13) p_law_1 (eVar 12)) (eC (.int 0))))
    (sSeq (sIf [2, 3, 7, 8] (tOrF (eTest (eOp neD (eFn 2 F_law_write (aCons (eVar 7) (aCons (eVar 2) aNil))) (eLst (aCons (eVar 8) (aCons (eC (.bl true)) aNil))))) (eTest (eOp (isND true) (eFn 2 F_law_write (aCons (eVar 3) (aCons (eVar 2) aNil))) (eC .non))))
      (sRet [] (eC (.bl false)))
      sNil)
    (sSeq (sSet 9 [2, 4, 6] (eFn 3 F_law_spoiled_row (aCons (eVar 4) (aCons (eVar 2) (aCons (eVar 6) aNil)))))
    (sSeq (sSet 10 [2, 9] (eFn 2 F_law_due (aCons (eVar 9) (aCons (eVar 2) aNil))))
    (sSeq (sSet 11 [2, 9] (eFn 2 F_law_read (aCons (eVar 9) (aCons (eVar 2) aNil))))
    (sIf [10, 11] (tOrF (tAndF (eTest (eOp (isND false) (eVar 10) (eC .non))) (eTest (eOp (isND true) (eVar 11) (eC .non)))) (tAndF (eTest (eOp (isND true) (eVar 10) (eC .non))) (eTest (eOp neD (eVar 11) (eLst (aCons (eVar 10) (aCons (eC (.bl true)) aNil)))))))
      (sRet [] (eC (.bl false)))
      sNil)))))))))
noncomputable def q_law_1 : FS :=
    (sSet 1 [0] (eFn 2 F_law_raw (aCons (eVar 0) (aCons (eC (.int 1)) aNil))))
noncomputable def q_law_2 : FS :=
    (sSet 2 [1] (eFn 1 F_law_width (aCons (eVar 1) aNil)))
noncomputable def q_law_3 : FS :=
    (sSet 3 [0, 2] (eOp addD (eComp 1 (iOf (eFn 3 F_law_cells (aCons (eVar 0) (aCons (eC (.int 2)) (aCons (eC (.int 60)) aNil))))) (gC 12) (fun _ => .ok true) e_law_1) (eLst (aCons (eC (.int 0)) aNil))))
noncomputable def q_law_4 : FS :=
    (sSet 4 [2, 3] (eMeth "str" joinS (eC (.str "")) (aCons (eComp 1 (iOf (eVar 3)) (gC 12) (fun _ => .ok true) e_law_2) aNil)))
noncomputable def q_law_5 : FS :=
    (sFor [] (iArgs rng1 (aCons (eC (.int 3)) aNil)) (gV 5) b_law_1)
noncomputable def q_law_6 : FS :=
    (sIf [2, 4] (tOrF (eTest (eOp neD (eFn 2 F_law_read (aCons (eOp addD (eVar 4) (eC (.str "\n"))) (aCons (eVar 2) aNil))) (eLst (aCons (eCall lenD (aCons (eVar 4) aNil)) (aCons (eC (.bl true)) aNil))))) (eTest (eOp neD (eFn 2 F_law_read (aCons (eOp addD (eC (.str " ")) (eVar 4)) (aCons (eVar 2) aNil))) (eLst (aCons (eC (.int 0)) (aCons (eC (.bl true)) aNil))))))
      (sRet [] (eC (.bl false)))
      sNil)
noncomputable def q_law_7 : FS :=
    (sRet [2, 4] (eOp (isND false) (eFn 2 F_law_read (aCons (eVar 4) (aCons (eVar 2) aNil))) (eC .non)))
noncomputable def g_law : FS :=
    (sSeq q_law_1
    (sSeq q_law_2
    (sSeq q_law_3
    (sSeq q_law_4
    (sSeq q_law_5
    (sSeq q_law_6
    q_law_7))))))
noncomputable def F_law : List D → R W := bodyD 12 g_law
end My

namespace My
open PySem L2 L3
noncomputable def mixZ (c k : Int) : Int := ((c + 1) * (48271 + 118 * k) % 2147483629 / 977 * 16807 + (c + 1) * (48271 + 118 * k) % 2147483629 * (k * k + 7) + k) % 2147483587
theorem mix_eq (c k : Int) (h1 : -1000 ≤ k) (h2 : k ≤ 1000) : F_law_mix [.int c, .int k] = .ok (.sh (.int (mixZ c k))) := by
  have hk : -18446744073709551616 < k * k + 7 ∧ k * k + 7 < 18446744073709551616 := by
    have : k * k ≤ 1000 * 1000 := by
      rcases Int.le_total 0 k with h | h
      · exact Int.mul_le_mul h2 h2 h (by decide)
      · have : (-k) * (-k) ≤ 1000 * 1000 := Int.mul_le_mul (by omega) (by omega) (by omega) (by decide)
        rwa [Int.neg_mul_neg] at this
    have : 0 ≤ k * k := by
      rcases Int.le_total 0 k with h | h
      · exact Int.mul_nonneg h h
      · have := Int.mul_nonneg (a := -k) (b := -k) (by omega) (by omega)
        rwa [Int.neg_mul_neg] at this
    omega
  have m1 : mulC 118 k = true := mulC_l (by decide) (by decide)
  have m2 : mulC (c + 1) (48271 + 118 * k) = true := mulC_r (by omega) (by omega)
  have m3 : ∀ z : Int, mulC z 16807 = true := fun z => mulC_r (by decide) (by decide)
  have m4 : mulC k k = true := mulC_l (by omega) (by omega)
  have m5 : ∀ z : Int, mulC z (k * k + 7) = true := fun z => mulC_r hk.1 hk.2
  simp only [F_law_mix, g_law_mix, L3.evs, Nat.reduceAdd, Nat.reduceSub, Nat.reduceLeDiff, ↓reduceIte, reduceCtorEq, mul_ok m1, mul_ok m2, mul_ok (m3 _), mul_ok m4, mul_ok (m5 _), add_ok, div_ok (show (0 : Int) < 977 by decide) (by decide), mod_ok (show (0 : Int) < 2147483629 by decide), mod_ok (show (0 : Int) < 2147483587 by decide)]
  rfl
theorem raw_eq (ns : List Int) (k : Int) (h : 0 ≤ k) : F_law_raw [.lst (ns.map .int), .int k] = .ok (.sh (.int (ns.getD k.toNat 0))) := by
  simp only [F_law_raw, g_law_raw, L3.evs, Nat.reduceAdd, Nat.reduceSub, Nat.reduceLeDiff, ↓reduceIte, reduceCtorEq, len_lst, lt_ok, List.length_map]
  by_cases hk : k < (ns.length : Int)
  · have e : atI (ns.map D.int) k = some (.int (ns.getD k.toNat 0)) := by
      apply atI_at h
      rw [List.getElem?_map]
      have : k.toNat < ns.length := by omega
      simp [List.getD, this]
    simp only [hk, decide_true, if_true, ix_lst e, L3.evs, Nat.reduceAdd, Nat.reduceSub, Nat.reduceLeDiff, ↓reduceIte, reduceCtorEq]
  · simp only [hk, decide_false, L3.evs, Nat.reduceAdd, Nat.reduceSub, Nat.reduceLeDiff, ↓reduceIte, reduceCtorEq]
    have : ns.length ≤ k.toNat := by omega
    simp [List.getD, this]
theorem cell_eq (ns : List Int) (k : Int) (h : 0 ≤ k) (h2 : k ≤ 500) : ∃ z, F_law_cell [.lst (ns.map .int), .int k] = .ok (.sh (.int z)) := by
  refine ⟨mixZ (ns.getD k.toNat 0 % 2147483647) (k + 101), ?_⟩
  simp only [F_law_cell, g_law_cell, L3.evs, Nat.reduceAdd, Nat.reduceSub, Nat.reduceLeDiff, ↓reduceIte, reduceCtorEq, raw_eq ns k h, mod_ok (show (0 : Int) < 2147483647 by decide), add_ok, mix_eq _ (k + 101) (by omega) (by omega)]
theorem great_eq (c : Int) : ∃ z, F_law_great [.int c] = .ok (.sh (.int z)) := by
  have m : ∀ z : Int, mulC z 2147483587 = true := fun z => mulC_r (by decide) (by decide)
  refine ⟨(mixZ c 1 * 2147483587 + mixZ c 2) * 2147483587 + mixZ c 3, ?_⟩
  simp only [F_law_great, g_law_great, L3.evs, Nat.reduceAdd, Nat.reduceSub, Nat.reduceLeDiff, ↓reduceIte, reduceCtorEq, mix_eq c 1 (by decide) (by decide), mix_eq c 2 (by decide) (by decide), mix_eq c 3 (by decide) (by decide), mul_ok (m _), add_ok]
theorem cells_eq (ns : List Int) (s m : Int) (hn : ns.length ≤ 63) (h0 : 0 ≤ s) (h1 : s ≤ 60) (h2 : 1 ≤ m) (h3 : m ≤ 200) :
    ∃ cs : List Int, (cs.length : Int) ≤ m ∧ F_law_cells [.lst (ns.map .int), .int s, .int m] = .ok (.ow (.lst (cs.map .int))) := by
  obtain ⟨z0, hz0⟩ := cell_eq ns 0 (by decide) (by decide)
  by_cases hp : ns.getD (0 : Int).toNat 0 % 2 = 0
  · obtain ⟨cs, hl, hc⟩ := compZ (fg := gC 5) (p := fun _ => .ok true) (f := eFn 2 F_law_raw (aCons (eVar 0) (aCons (eOp addD (eVar 1) (eVar 5)) aNil)))
      (δ := [some (.lst (ns.map .int)), some (.int s), some (.int m), some (.int (max 0 ((ns.length : Int) - s))), none, none]) (min m (max 0 ((ns.length : Int) - s))).toNat 0 (fun k hk =>
        ⟨[some (.lst (ns.map .int)), some (.int s), some (.int m), some (.int (max 0 ((ns.length : Int) - s))), none, some (.int (0 + (k : Int)))], _, rfl, rfl, by
          simp only [L3.evs, Nat.reduceAdd, Nat.reduceSub, Nat.reduceLeDiff, ↓reduceIte, reduceCtorEq, add_ok, raw_eq ns (s + (0 + (k : Int))) (by omega)]
          rfl⟩)
    refine ⟨cs, by rw [hl]; omega, ?_⟩
    have e1 := eComp_ok (m := 1) (fi := iArgs rng1 (aCons (eCall minD (aCons (eVar 2) (aCons (eVar 3) aNil))) aNil)) (fg := gC 5) (p := fun _ => .ok true) (f := eFn 2 F_law_raw (aCons (eVar 0) (aCons (eOp addD (eVar 1) (eVar 5)) aNil)))
      (δ := [some (.lst (ns.map .int)), some (.int s), some (.int m), some (.int (max 0 ((ns.length : Int) - s))), none]) (ds := zints 0 (min m (max 0 ((ns.length : Int) - s))).toNat) (rs := cs.map .int) (by
        simp only [L3.evs, Nat.reduceAdd, Nat.reduceSub, Nat.reduceLeDiff, ↓reduceIte, reduceCtorEq, min_ok, rng1_ok (show -4611686018427387903 ≤ min m (max 0 ((ns.length : Int) - s)) by omega) (by omega)]) (by rw [zints_len]; omega) hc
    simp only [F_law_cells, g_law_cells, e_law_cells_1, e_law_cells_2, L3.evs, Nat.reduceAdd, Nat.reduceSub, Nat.reduceLeDiff, ↓reduceIte, reduceCtorEq, len_lst, List.length_map, sub_ok, max_ok, raw_eq ns 0 (by decide), mod_ok (show (0 : Int) < 2 by decide), eqD_int, hp, e1]
  · have hmm := fun k : Int => Int.emod_nonneg k (show m ≠ 0 by omega)
    have hml := fun k : Int => Int.emod_lt_of_pos k (show 0 < m by omega)
    have cellk : ∀ k : Nat, ∃ z, F_law_cell [.lst (ns.map .int), .int (s + (0 + (k : Int)) % max 1 (max 0 ((ns.length : Int) - s)))] = .ok (.sh (.int z)) := fun k => by
      have b1 := Int.emod_nonneg (0 + (k : Int)) (show max 1 (max 0 ((ns.length : Int) - s)) ≠ 0 by omega)
      have b2 := Int.emod_lt_of_pos (0 + (k : Int)) (show 0 < max 1 (max 0 ((ns.length : Int) - s)) by omega)
      exact cell_eq ns _ (by omega) (by omega)
    have b0 := hmm z0
    have b1 := hml z0
    obtain ⟨cs, hl, hc⟩ := compZ (fg := gC 5) (p := fun _ => .ok true) (f := eFn 1 F_law_great (aCons (eFn 2 F_law_mix (aCons (eFn 2 F_law_cell (aCons (eVar 0) (aCons (eOp addD (eVar 1) (eOp modD (eVar 5) (eCall maxD (aCons (eC (.int 1)) (aCons (eVar 3) aNil))))) aNil))) (aCons (eVar 5) aNil))) aNil))
      (δ := [some (.lst (ns.map .int)), some (.int s), some (.int m), some (.int (max 0 ((ns.length : Int) - s))), some (.int (min m (max (max 0 ((ns.length : Int) - s)) (1 + z0 % m)))), none]) (min m (max (max 0 ((ns.length : Int) - s)) (1 + z0 % m))).toNat 0 (fun k hk => by
        obtain ⟨zc, hzc⟩ := cellk k
        obtain ⟨zg, hzg⟩ := great_eq (mixZ zc (0 + (k : Int)))
        refine ⟨[some (.lst (ns.map .int)), some (.int s), some (.int m), some (.int (max 0 ((ns.length : Int) - s))), some (.int (min m (max (max 0 ((ns.length : Int) - s)) (1 + z0 % m)))), some (.int (0 + (k : Int)))], zg, rfl, rfl, ?_⟩
        simp only [L3.evs, Nat.reduceAdd, Nat.reduceSub, Nat.reduceLeDiff, ↓reduceIte, reduceCtorEq, add_ok, max_ok, mod_ok (show 0 < max 1 (max 0 ((ns.length : Int) - s)) by omega), hzc, mix_eq zc (0 + (k : Int)) (by omega) (by omega), hzg])
    refine ⟨cs, by rw [hl]; omega, ?_⟩
    have e1 := eComp_ok (m := 1) (fi := iArgs rng1 (aCons (eVar 4) aNil)) (fg := gC 5) (p := fun _ => .ok true) (f := eFn 1 F_law_great (aCons (eFn 2 F_law_mix (aCons (eFn 2 F_law_cell (aCons (eVar 0) (aCons (eOp addD (eVar 1) (eOp modD (eVar 5) (eCall maxD (aCons (eC (.int 1)) (aCons (eVar 3) aNil))))) aNil))) (aCons (eVar 5) aNil))) aNil))
      (δ := [some (.lst (ns.map .int)), some (.int s), some (.int m), some (.int (max 0 ((ns.length : Int) - s))), some (.int (min m (max (max 0 ((ns.length : Int) - s)) (1 + z0 % m))))]) (ds := zints 0 (min m (max (max 0 ((ns.length : Int) - s)) (1 + z0 % m))).toNat) (rs := cs.map .int) (by
        simp only [L3.evs, Nat.reduceAdd, Nat.reduceSub, Nat.reduceLeDiff, ↓reduceIte, reduceCtorEq, rng1_ok (show -4611686018427387903 ≤ min m (max (max 0 ((ns.length : Int) - s)) (1 + z0 % m)) by omega) (by omega)]) (by rw [zints_len]; omega) hc
    simp only [F_law_cells, g_law_cells, e_law_cells_1, e_law_cells_2, L3.evs, Nat.reduceAdd, Nat.reduceSub, Nat.reduceLeDiff, ↓reduceIte, reduceCtorEq, len_lst, List.length_map, sub_ok, max_ok, min_ok, add_ok, raw_eq ns 0 (by decide), mod_ok (show (0 : Int) < 2 by decide), mod_ok (show (0 : Int) < m by omega), eqD_int, hp, hz0, e1]
end My

namespace My
open PySem L2 L3
theorem seq_nx {g h : FS} {Δ Δ' : SE} (e : g Δ = .nx Δ') : sSeq g h Δ = h Δ' := by unfold sSeq; rw [e]
noncomputable def wr : Nat → Int → List Nat → List Nat
  | 0, _, acc => acc
  | j + 1, r, acc => wr j (r / 2) ((48 + (r % 2).toNat) :: acc)
noncomputable def rd (bs : List Nat) (a : Int) : Int := bs.foldl (fun a c => 2 * a + (if c = 49 then 1 else 0)) a
noncomputable def bit (c : Nat) : Prop := c = 48 ∨ c = 49
theorem wr_len : ∀ (w : Nat) (n : Int) (acc : List Nat), (wr w n acc).length = w + acc.length
  | 0, _, acc => by simp [wr]
  | w + 1, n, acc => by rw [wr, wr_len w]; simp; omega
theorem wr_bit : ∀ (w : Nat) (n : Int) (acc : List Nat), (∀ c ∈ acc, bit c) → ∀ c ∈ wr w n acc, bit c
  | 0, _, acc, h => h
  | w + 1, n, acc, h => wr_bit w (n / 2) _ fun c hc => by
    rcases List.mem_cons.mp hc with rfl | hc
    · have : n % 2 = 0 ∨ n % 2 = 1 := by omega
      rcases this with e | e <;> rw [e]
      · exact .inl rfl
      · exact .inr rfl
    · exact h c hc
theorem rd_app (a b : List Nat) (z : Int) : rd (a ++ b) z = rd b (rd a z) := by unfold rd; rw [List.foldl_append]
noncomputable def mkS (l : List Nat) : Str := ⟨l.toArray⟩
theorem mkS_list (l : List Nat) : (mkS l).cps.toList = l := by simp [mkS]
theorem mkS_len (l : List Nat) : (mkS l).length = l.length := by rw [str_len, mkS_list]
theorem mkS_app (a b : List Nat) : mkS a ++ mkS b = mkS (a ++ b) := str_ext (by rw [str_app, mkS_list, mkS_list, mkS_list])
end My

namespace My
open PySem L2 L3
theorem two_to_eq (w : Nat) (h : w ≤ 1000) : F_two_to [.int (w : Int)] = .ok (.sh (.int (2 ^ w))) := by
  obtain ⟨Δ', e, a2, rfl⟩ := loop_ints (gV 2) b_two_to_1 (fun k Δ => ∃ a2, Δ = [.sh (.int (w : Int)), .sh (.int (2 ^ k)), a2]) (n := w) (lo := 0) (Δ := [.sh (.int (w : Int)), .sh (.int 1), .no]) ⟨.no, rfl⟩ (fun k Δ hk hI => by
    obtain ⟨a2, rfl⟩ := hI
    refine ⟨_, rfl, [.sh (.int (w : Int)), .sh (.int (2 ^ (k + 1))), .sh (.int (0 + (k : Int)))], .inl ?_, _, rfl⟩
    simp only [b_two_to_1, L3.evs, Nat.reduceAdd, Nat.reduceSub, Nat.reduceLeDiff, ↓reduceIte, reduceCtorEq, mul_ok (mulC_r (show (-18446744073709551616 : Int) < 2 by decide) (by decide))]
    rw [Int.pow_succ])
  have hw : ((w : Int)).toNat = w := by omega
  simp only [F_two_to, g_two_to, L3.evs, Nat.reduceAdd, Nat.reduceSub, Nat.reduceLeDiff, ↓reduceIte, reduceCtorEq, sFor, rng1_ok (show (-4611686018427387903 : Int) ≤ w by omega) (by omega), hw, e]
end My

namespace My
open PySem L2 L3
theorem str_bit (r : Int) : strOf [.int (r % 2)] = .ok (.sh (.str (mkS [48 + (r % 2).toNat]))) := by
  have : r % 2 = 0 ∨ r % 2 = 1 := by omega
  rcases this with h | h <;> rw [h] <;> rfl
theorem ix_bit (r : Int) : ixD (.str "01") (.int (r % 2)) = .ok (.sh (.str (mkS [48 + (r % 2).toNat]))) := by
  have : r % 2 = 0 ∨ r % 2 = 1 := by omega
  rcases this with h | h <;> rw [h] <;> rfl
theorem wrote (n : Int) (w k : Nat) (r : Int) (acc : List Nat) (hk : k < w) (h : wr (w - k) r acc = wr w n []) : wr (w - (k + 1)) (r / 2) ((48 + (r % 2).toNat) :: acc) = wr w n [] := by
  rw [← h, show w - k = (w - (k + 1)) + 1 by omega]
  rfl
theorem number_written_eq (n : Int) (w : Nat) (h : w ≤ 1000) : F_number_written [.int n, .int (w : Int)] = .ok (.sh (.str (mkS (wr w n [])))) := by
  obtain ⟨Δ', e, r, acc, a4, rfl, hw, hl⟩ := loop_ints (gV 4) b_number_written_1 (fun k Δ => ∃ (r : Int) (acc : List Nat) (a4 : Sl), Δ = [.sh (.int n), .sh (.int (w : Int)), .sh (.str (mkS acc)), .sh (.int r), a4] ∧ wr (w - k) r acc = wr w n [] ∧ acc.length = k) (n := w) (lo := 0)
    (Δ := [.sh (.int n), .sh (.int (w : Int)), .sh (.str ""), .sh (.int n), .no]) ⟨n, [], .no, rfl, rfl, rfl⟩ (fun k Δ hk hI => by
    obtain ⟨r, acc, a4, rfl, hw, hl⟩ := hI
    refine ⟨_, rfl, [.sh (.int n), .sh (.int (w : Int)), .sh (.str (mkS ((48 + (r % 2).toNat) :: acc))), .sh (.int (r / 2)), .sh (.int (0 + (k : Int)))], .inl ?_, r / 2, _, _, rfl, wrote n w k r acc hk hw, by simp [hl]⟩
    have hc : (mkS [48 + (r % 2).toNat]).length + (mkS acc).length ≤ 16777216 := by rw [mkS_len, mkS_len]; simp; omega
    simp only [b_number_written_1, L3.evs, Nat.reduceAdd, Nat.reduceSub, Nat.reduceLeDiff, ↓reduceIte, reduceCtorEq, mod_ok (show (0 : Int) < 2 by decide), str_bit, cat_ok hc, mkS_app, div_ok (show (0 : Int) < 2 by decide) (by decide)])
  have ew : ((w : Int)).toNat = w := by omega
  have e2 : acc = wr w n [] := by rw [← hw, Nat.sub_self]; rfl
  simp only [F_number_written, g_number_written, L3.evs, Nat.reduceAdd, Nat.reduceSub, Nat.reduceLeDiff, ↓reduceIte, reduceCtorEq, sFor, rng1_ok (show (-4611686018427387903 : Int) ≤ w by omega) (by omega), ew, e, e2]
theorem number_read_eq (x : Str) (hx : x.length ≤ 100000) : F_number_read [.str x] = .ok (.sh (.int (rd x.cps.toList 0))) := by
  obtain ⟨Δ', e, a2, rfl⟩ := loop_list (gV 2) b_number_read_1 (fun k Δ => ∃ a2, Δ = [.sh (.str x), .sh (.int (rd (x.cps.toList.take k) 0)), a2]) (ds := signs x) (Δ := [.sh (.str x), .sh (.int 0), .no]) ⟨.no, rfl⟩ (fun k d Δ hk hI => by
    obtain ⟨a2, rfl⟩ := hI
    unfold signs at hk
    rw [List.getElem?_map] at hk
    cases q : x.cps.toList[k]? with
    | none => rw [q] at hk; cases hk
    | some c =>
      rw [q] at hk
      cases hk
      have tk : x.cps.toList.take (k + 1) = x.cps.toList.take k ++ [c] := by rw [List.take_add_one, q]; rfl
      have hs : decide ((⟨#[c]⟩ : Str) = "1") = decide (c = 49) := by
        by_cases hc : c = 49
        · subst hc; rfl
        · rw [decide_eq_false hc]
          refine decide_eq_false fun z => hc ?_
          have : (⟨#[c]⟩ : Str).cps.toList = ("1" : Str).cps.toList := by rw [z]
          have : [c] = [49] := this
          simpa using this
      refine ⟨_, rfl, [.sh (.str x), .sh (.int (rd (x.cps.toList.take (k + 1)) 0)), .sh (.str ⟨#[c]⟩)], .inl ?_, _, rfl⟩
      rw [tk, rd_app]
      simp only [b_number_read_1, L3.evs, Nat.reduceAdd, Nat.reduceSub, Nat.reduceLeDiff, ↓reduceIte, reduceCtorEq, mul_ok (mulC_l (show (-18446744073709551616 : Int) < 2 by decide) (by decide)), eqD_str, hs]
      by_cases hc : c = 49
      · subst hc; simp only [L3.evs, Nat.reduceAdd, Nat.reduceSub, Nat.reduceLeDiff, ↓reduceIte, reduceCtorEq, add_ok]; rfl
      · simp only [hc, L3.evs, Nat.reduceAdd, Nat.reduceSub, Nat.reduceLeDiff, ↓reduceIte, reduceCtorEq, add_ok]
        simp [rd, hc])
  have el : (signs x).length = x.cps.toList.length := by unfold signs; rw [List.length_map]
  rw [el, List.take_length] at e
  simp only [F_number_read, g_number_read, L3.evs, Nat.reduceAdd, Nat.reduceSub, Nat.reduceLeDiff, ↓reduceIte, reduceCtorEq, sFor, e]
end My

namespace My
open PySem L2 L3
theorem flat_len (w : Nat) : ∀ ns : List Int, ((ns.map fun n => wr w n []).flatten).length = w * ns.length
  | [] => by simp
  | n :: ns => by
    rw [List.map_cons, List.flatten_cons, List.length_append, flat_len w ns, wr_len, List.length_cons, Nat.mul_succ]
    simp; omega
noncomputable def wrD (w : Nat) : D → D
  | .int n => .str (mkS (wr w n []))
  | d => d
theorem written_join (ns : List Int) (w : Nat) (h1 : w ≤ 1000) (h2 : ns.length ≤ 10000) : joinS (.str "") [.lst (ns.map ((wrD w) ∘ D.int))] = .ok (.sh (.str (mkS ((ns.map fun n => wr w n []).flatten)))) := by
  have hj := joinS_ok (fun n => mkS (wr w n [])) ns (by
    rw [List.map_map]
    have : (ns.map ((fun x => Str.length x) ∘ fun n => mkS (wr w n []))) = ns.map fun _ => w := by
      apply List.map_congr_left
      intro n _
      show (mkS (wr w n [])).length = w
      rw [mkS_len, wr_len]; rfl
    rw [this]
    simp only [List.map_const', List.sum_replicate_nat]
    have := Nat.mul_le_mul h2 h1
    omega)
  have hj' : joinS (.str "") [.lst (ns.map ((wrD w) ∘ D.int))] = .ok (.sh (.str (mkS ((ns.map fun n => wr w n []).flatten)))) := by
    refine Eq.trans (show _ = joinS (.str "") [.lst (ns.map fun n => .str (mkS (wr w n [])))] from rfl) (hj.trans ?_)
    congr 3
    apply str_ext
    rw [join_nil, mkS_list, List.map_map]
    congr 1
  exact hj'
theorem below_ok {z m : Int} (h0 : 0 ≤ z) (h1 : z < m) : F_is_below [.int z, .int m] = .ok (.sh (.bl true)) := by
  simp only [F_is_below, g_is_below, L3.evs, Nat.reduceAdd, Nat.reduceSub, Nat.reduceLeDiff, ↓reduceIte, reduceCtorEq, eChain, le_ok, lt_ok, h0, h1]
theorem below_no {z m : Int} (h : z < 0 ∨ m ≤ z) : F_is_below [.int z, .int m] = .ok (.sh (.bl false)) := by
  by_cases h0 : 0 ≤ z
  · have h1 : ¬ z < m := by omega
    simp only [F_is_below, g_is_below, L3.evs, Nat.reduceAdd, Nat.reduceSub, Nat.reduceLeDiff, ↓reduceIte, reduceCtorEq, eChain, le_ok, lt_ok, h0, h1]
  · simp only [F_is_below, g_is_below, L3.evs, Nat.reduceAdd, Nat.reduceSub, Nat.reduceLeDiff, ↓reduceIte, reduceCtorEq, eChain, le_ok, lt_ok, h0]
theorem written_eq (ns : List Int) (w : Nat) (h1 : w ≤ 1000) (h2 : ns.length ≤ 10000) (hn : ∀ n ∈ ns, 0 ≤ n ∧ n < 2 ^ w) :
    F_written [.lst (ns.map .int), .int (w : Int)] = .ok (.sh (.str (mkS ((ns.map fun n => wr w n []).flatten)))) := by
  obtain ⟨Δ', e, a3, a4, rfl⟩ := loop_list (gV2 3 4) b_written_1 (fun k Δ => ∃ a3 a4, Δ = [.sh (.lst (ns.map .int)), .sh (.int (w : Int)), .sh (.int (2 ^ w)), a3, a4]) (ds := enumD 0 (ns.map .int))
    (Δ := [.sh (.lst (ns.map .int)), .sh (.int (w : Int)), .sh (.int (2 ^ w)), .no, .no]) ⟨.no, .no, rfl⟩ (fun k d Δ hk hI => by
    obtain ⟨a3, a4, rfl⟩ := hI
    obtain ⟨d', e1, rfl⟩ := enumD_get hk
    rw [List.getElem?_map] at e1
    cases q : ns[k]? with
    | none => rw [q] at e1; cases e1
    | some n =>
      rw [q] at e1
      cases e1
      obtain ⟨b1, b2⟩ := hn n (List.mem_of_getElem? q)
      refine ⟨_, rfl, [.sh (.lst (ns.map .int)), .sh (.int (w : Int)), .sh (.int (2 ^ w)), .sh (.int ((0 + k : Nat) : Int)), .sh (.int n)], .inl ?_, _, _, rfl⟩
      simp only [b_written_1, L3.evs, Nat.reduceAdd, Nat.reduceSub, Nat.reduceLeDiff, ↓reduceIte, reduceCtorEq, below_ok b1 b2])
  have ec := comp_map (fg := gC 5) (f := e_written_1) (δ := [some (.lst (ns.map .int)), some (.int (w : Int)), some (.int (2 ^ w)), a3.any, a4.any, none]) (wrD w) (ns.map .int) (fun d hd => by
    obtain ⟨n, _, rfl⟩ := List.mem_map.mp hd
    exact ⟨_, .sh (.str (mkS (wr w n []))), rfl, by simp only [e_written_1, L3.evs, Nat.reduceAdd, Nat.reduceSub, Nat.reduceLeDiff, ↓reduceIte, reduceCtorEq, number_written_eq n w h1], rfl⟩)
  rw [List.map_map] at ec
  have ec' := eComp_ok (m := 1) (fi := iOf (eVar 0)) (fg := gC 5) (p := fun _ => .ok true) (f := e_written_1) (δ := [some (.lst (ns.map .int)), some (.int (w : Int)), some (.int (2 ^ w)), a3.any, a4.any]) (by simp only [L3.evs, Nat.reduceAdd, Nat.reduceSub, Nat.reduceLeDiff, ↓reduceIte, reduceCtorEq]) (by rw [List.length_map]; omega) ec
  have hj' := written_join ns w h1 h2
  simp only [F_written, g_written, L3.evs, Nat.reduceAdd, Nat.reduceSub, Nat.reduceLeDiff, ↓reduceIte, reduceCtorEq, two_to_eq w h1, sFor, iEnum, enumOf, e, ec', hj', beq_self_eq_true]
theorem sign_bit {c : Nat} (h : bit c) : ((!decide ((⟨#[c]⟩ : Str) = "0")) && (!decide ((⟨#[c]⟩ : Str) = "1"))) = false := by
  rcases h with rfl | rfl <;> rfl
theorem look_bits_eq (x : Str) (w m : Nat) (h1 : 1 ≤ w) (hx : x.length = w * m) (hx2 : x.length ≤ 100000) (hb : ∀ c ∈ x.cps.toList, bit c) : F_look_bits [.str x, .int (w : Int)] = .ok (.sh .non) := by
  obtain ⟨Δ', e, a3, a4, rfl⟩ := loop_list (gV2 2 3) b_look_bits_1 (fun k Δ => ∃ a3 a4, Δ = [.sh (.str x), .sh (.int (w : Int)), a3, a4]) (ds := enumD 0 (signs x))
    (Δ := [.sh (.str x), .sh (.int (w : Int)), .no, .no]) ⟨.no, .no, rfl⟩ (fun k d Δ hk hI => by
    obtain ⟨a3, a4, rfl⟩ := hI
    obtain ⟨d', e1, rfl⟩ := enumD_get hk
    unfold signs at e1
    rw [List.getElem?_map] at e1
    cases q : x.cps.toList[k]? with
    | none => rw [q] at e1; cases e1
    | some c =>
      rw [q] at e1
      cases e1
      have hs := sign_bit (hb c (List.mem_of_getElem? q))
      refine ⟨_, rfl, [.sh (.str x), .sh (.int (w : Int)), .sh (.int ((0 + k : Nat) : Int)), .sh (.str ⟨#[c]⟩)], .inl ?_, _, _, rfl⟩
      simp only [b_look_bits_1, L3.evs, Nat.reduceAdd, Nat.reduceSub, Nat.reduceLeDiff, ↓reduceIte, reduceCtorEq, neD_str]
      cases e2 : decide ((⟨#[c]⟩ : Str) = "0") with
      | true => simp only [L3.evs, Nat.reduceAdd, Nat.reduceSub, Nat.reduceLeDiff, ↓reduceIte, reduceCtorEq]
      | false =>
        rw [e2] at hs
        cases e3 : decide ((⟨#[c]⟩ : Str) = "1") with
        | true => simp only [L3.evs, Nat.reduceAdd, Nat.reduceSub, Nat.reduceLeDiff, ↓reduceIte, reduceCtorEq]
        | false => rw [e3] at hs; cases hs)
  have c1 : ¬ ((w : Int) < 1) := by omega
  have c2 : ((x.length : Int) % (w : Int) = 0) := by rw [hx]; simp
  have em : F_is_multiple [.int (x.length : Int), .int (w : Int)] = .ok (.sh (.bl true)) := by
    simp only [F_is_multiple, g_is_multiple, L3.evs, Nat.reduceAdd, Nat.reduceSub, Nat.reduceLeDiff, ↓reduceIte, reduceCtorEq, lt_ok, c1, mod_ok (show (0 : Int) < w by omega), eqD_int, c2]
  simp only [F_look_bits, g_look_bits, L3.evs, Nat.reduceAdd, Nat.reduceSub, Nat.reduceLeDiff, ↓reduceIte, reduceCtorEq, sFor, iEnum, enumOf, e, len_str3 (show x.length ≤ 16777216 by omega), em]
noncomputable def chunks (l : List Nat) (w : Nat) (m : Nat) : List Int := (List.range m).map fun i => rd ((l.drop (w * i)).take w) 0
theorem chunks_succ (l : List Nat) (w m : Nat) : chunks l w (m + 1) = chunks l w m ++ [rd ((l.drop (w * m)).take w) 0] := by
  unfold chunks
  rw [List.range_succ, List.map_append]
  rfl
theorem read_bits_eq (x : Str) (w m : Nat) (h1 : 1 ≤ w) (hx : x.length = w * m) (hx2 : x.length ≤ 100000) (hm : m < 2999) (hb : ∀ c ∈ x.cps.toList, bit c) :
    F_read_bits [.str x, .int (w : Int)] = .ok (.ow (.lst ((chunks x.cps.toList w m).map .int))) := by
  have lw := loop_while (js := [0, 3]) (p := t_read_bits_1) (g := b_read_bits_1) (fun i => [.sh (.str x), .sh (.int (w : Int)), .ow (.lst ((chunks x.cps.toList w i).map .int)), .sh (.int ((w * i : Nat) : Int))]) (m := m) (fuel := 3000) (by omega) (fun i hi => by
    have hlt : w * i + w ≤ x.length := by
      rw [hx]
      have := Nat.mul_le_mul_left w (show i + 1 ≤ m by omega)
      rw [Nat.mul_succ] at this
      exact this
    have c1 : ((w * i : Nat) : Int) < (x.length : Int) := by omega
    have sl := slice_mid x (w * i) (w * i + w) (by omega) hlt
    have ew : w * i + w - w * i = w := by omega
    rw [ew] at sl
    have nr := number_read_eq (Txt.slice x (some ((w * i : Nat) : Int)) (some ((w * i + w : Nat) : Int))) (by
      rw [str_len, sl, List.length_take, List.length_drop]; omega)
    rw [sl] at nr
    have ei : ((w * i : Nat) : Int) + (w : Int) = ((w * i + w : Nat) : Int) := by omega
    have hl2 : ((chunks x.cps.toList w i).map D.int).length < 16777216 := by
      unfold chunks
      rw [List.length_map, List.length_map, List.length_range]; omega
    refine ⟨by simp only [t_read_bits_1, L3.evs, Nat.reduceAdd, Nat.reduceSub, Nat.reduceLeDiff, ↓reduceIte, reduceCtorEq, len_str3 (show x.length ≤ 16777216 by omega), lt_ok, c1], ?_⟩
    simp only [b_read_bits_1, L3.evs, Nat.reduceAdd, Nat.reduceSub, Nat.reduceLeDiff, ↓reduceIte, reduceCtorEq, sApp, hl2, add_ok, ei, sliceD, show x.length ≤ 16777216 by omega, nr]
    rw [chunks_succ, List.map_append, Nat.mul_succ]
    rfl) (by
    have c1 : ¬ ((w * m : Nat) : Int) < (x.length : Int) := by omega
    simp only [t_read_bits_1, L3.evs, Nat.reduceAdd, Nat.reduceSub, Nat.reduceLeDiff, ↓reduceIte, reduceCtorEq, len_str3 (show x.length ≤ 16777216 by omega), lt_ok, c1])
  have lw' : sWhile [0, 3] t_read_bits_1 b_read_bits_1 3000 [.sh (.str x), .sh (.int (w : Int)), .ow (.lst []), .sh (.int 0)] = .nx [.sh (.str x), .sh (.int (w : Int)), .ow (.lst ((chunks x.cps.toList w m).map .int)), .sh (.int ((w * m : Nat) : Int))] := lw
  simp only [F_read_bits, g_read_bits, L3.evs, Nat.reduceAdd, Nat.reduceSub, Nat.reduceLeDiff, ↓reduceIte, reduceCtorEq, look_bits_eq x w m h1 hx hx2 hb, lw']
end My

namespace My
open PySem L2 L3
theorem law_bits_eq (n : Int) (w : Nat) (h : w ≤ 1000) : F_law_bits [.int n, .int (w : Int)] = .ok (.sh (.str (mkS (wr w n [])))) := by
  obtain ⟨Δ', e, r, acc, a4, rfl, hw, hl⟩ := loop_ints (gV 3) b_law_bits_1 (fun k Δ => ∃ (r : Int) (acc : List Nat) (a4 : Sl), Δ = [.sh (.int r), .sh (.int (w : Int)), .sh (.str (mkS acc)), a4] ∧ wr (w - k) r acc = wr w n [] ∧ acc.length = k) (n := w) (lo := 0)
    (Δ := [.sh (.int n), .sh (.int (w : Int)), .sh (.str ""), .no]) ⟨n, [], .no, rfl, rfl, rfl⟩ (fun k Δ hk hI => by
    obtain ⟨r, acc, a4, rfl, hw, hl⟩ := hI
    refine ⟨_, rfl, [.sh (.int (r / 2)), .sh (.int (w : Int)), .sh (.str (mkS ((48 + (r % 2).toNat) :: acc))), .sh (.int (0 + (k : Int)))], .inl ?_, r / 2, _, _, rfl, wrote n w k r acc hk hw, by simp [hl]⟩
    have hc : (mkS [48 + (r % 2).toNat]).length + (mkS acc).length ≤ 16777216 := by rw [mkS_len, mkS_len]; simp; omega
    simp only [b_law_bits_1, L3.evs, Nat.reduceAdd, Nat.reduceSub, Nat.reduceLeDiff, ↓reduceIte, reduceCtorEq, mod_ok (show (0 : Int) < 2 by decide), ix_bit, cat_ok hc, mkS_app, div_ok (show (0 : Int) < 2 by decide) (by decide)])
  have ew : ((w : Int)).toNat = w := by omega
  have e2 : acc = wr w n [] := by rw [← hw, Nat.sub_self]; rfl
  simp only [F_law_bits, g_law_bits, L3.evs, Nat.reduceAdd, Nat.reduceSub, Nat.reduceLeDiff, ↓reduceIte, reduceCtorEq, sFor, rng1_ok (show (-4611686018427387903 : Int) ≤ w by omega) (by omega), ew, e, e2]
end My

namespace My
open PySem L2 L3
theorem width_eq (z : Int) : ∃ w : Nat, 1 ≤ w ∧ w ≤ 64 ∧ F_law_width [.int z] = .ok (.sh (.int (w : Int))) := by
  have ev : ∀ d : D, atI [D.int (1 + z / 4 % 64), .int (1 + z / 4 % 8), .int 64, .int 1] (z % 4) = some d → F_law_width [.int z] = .ok (.sh d) := fun d hd => by
    simp only [F_law_width, g_law_width, L3.evs, Nat.reduceAdd, Nat.reduceSub, Nat.reduceLeDiff, ↓reduceIte, reduceCtorEq, div_ok (show (0 : Int) < 4 by decide) (by decide), mod_ok (show (0 : Int) < 64 by decide), mod_ok (show (0 : Int) < 8 by decide), mod_ok (show (0 : Int) < 4 by decide), add_ok, ix_lst hd]
  have : z % 4 = 0 ∨ z % 4 = 1 ∨ z % 4 = 2 ∨ z % 4 = 3 := by omega
  rcases this with h | h | h | h
  · refine ⟨(1 + z / 4 % 64).toNat, by omega, by omega, ?_⟩
    rw [show (((1 + z / 4 % 64).toNat : Nat) : Int) = 1 + z / 4 % 64 by omega]
    exact ev _ (by rw [h]; rfl)
  · refine ⟨(1 + z / 4 % 8).toNat, by omega, by omega, ?_⟩
    rw [show (((1 + z / 4 % 8).toNat : Nat) : Int) = 1 + z / 4 % 8 by omega]
    exact ev _ (by rw [h]; rfl)
  · exact ⟨64, by omega, by omega, ev _ (by rw [h]; rfl)⟩
  · exact ⟨1, by omega, by omega, ev _ (by rw [h]; rfl)⟩
theorem flat_bits (w : Nat) (zs : List Int) : ∀ c ∈ (zs.map fun n => wr w n []).flatten, bit c := fun c hc => by
  obtain ⟨l, hl, hc⟩ := List.mem_flatten.mp hc
  obtain ⟨n, _, rfl⟩ := List.mem_map.mp hl
  exact wr_bit w n [] (fun c h => absurd h (by simp)) c hc
end My

namespace My
open PySem L2 L3
noncomputable def nb (c : Nat) : Bool := (!decide ((⟨#[c]⟩ : Str) = "0")) && (!decide ((⟨#[c]⟩ : Str) = "1"))
noncomputable def ff {α : Type} (P : α → Bool) : Nat → List α → Option Nat
  | _, [] => none
  | k, x :: xs => if P x = true then some k else ff P (k + 1) xs
theorem ff_none {α : Type} {P : α → Bool} : ∀ {l : List α} {k : Nat}, ff P k l = none → ∀ x ∈ l, P x = false
  | [], _, _, x, hx => absurd hx (by simp)
  | y :: l, k, h, x, hx => by
    unfold ff at h
    split at h
    · cases h
    · rename_i hp
      rcases List.mem_cons.mp hx with rfl | hx
      · exact Bool.eq_false_iff.mpr hp
      · exact ff_none h x hx
theorem ff_has {α : Type} {P : α → Bool} : ∀ {l : List α} {k : Nat}, (∃ x ∈ l, P x = true) → ∃ n, ff P k l = some n
  | [], _, ⟨x, hx, _⟩ => absurd hx (by simp)
  | y :: l, k, ⟨x, hx, hp⟩ => by
    unfold ff
    split
    · exact ⟨_, rfl⟩
    · rename_i hy
      rcases List.mem_cons.mp hx with rfl | hx
      · exact absurd hp hy
      · exact ff_has ⟨x, hx, hp⟩
theorem nb_bit {c : Nat} (h : nb c = false) : bit c := by
  unfold nb at h
  rcases Bool.and_eq_false_iff.mp h with h | h
  · have h : decide ((⟨#[c]⟩ : Str) = "0") = true := by simpa using h
    have h := of_decide_eq_true h
    have : (⟨#[c]⟩ : Str).cps.toList = ("0" : Str).cps.toList := by rw [h]
    have : [c] = [48] := this
    exact .inl (by simpa using this)
  · have h : decide ((⟨#[c]⟩ : Str) = "1") = true := by simpa using h
    have h := of_decide_eq_true h
    have : (⟨#[c]⟩ : Str).cps.toList = ("1" : Str).cps.toList := by rw [h]
    have : [c] = [49] := this
    exact .inr (by simpa using this)
noncomputable def xn (n : Nat) : Xn := ⟨"NoBits", ["at"], [.int (n : Int)]⟩
noncomputable def sg (c : Nat) : D := .str ⟨#[c]⟩
theorem look_loop (A B : Sl) : ∀ (l : List Nat) (k : Nat) (a2 a3 : Sl), (∃ n Δ, ff nb k l = some n ∧ sLoop (gV2 2 3) b_look_bits_1 (enumD k (l.map sg)) [A, B, a2, a3] = .ex (xn n) Δ) ∨ (ff nb k l = none ∧ ∃ a2' a3', sLoop (gV2 2 3) b_look_bits_1 (enumD k (l.map sg)) [A, B, a2, a3] = .nx [A, B, a2', a3'])
  | [], k, a2, a3 => .inr ⟨rfl, a2, a3, rfl⟩
  | c :: l, k, a2, a3 => by
    have ih := look_loop A B l (k + 1) (.sh (.int (k : Int))) (.sh (sg c))
    have hb : b_look_bits_1 [A, B, .sh (.int (k : Int)), .sh (sg c)] = if nb c = true then .ex (xn k) [A, B, .sh (.int (k : Int)), .sh (sg c)] else .nx [A, B, .sh (.int (k : Int)), .sh (sg c)] := by
      unfold nb
      simp only [b_look_bits_1, L3.evs, Nat.reduceAdd, Nat.reduceSub, Nat.reduceLeDiff, ↓reduceIte, reduceCtorEq, sg, neD_str, sRaise, xn]
      cases decide ((⟨#[c]⟩ : Str) = "0") <;> cases decide ((⟨#[c]⟩ : Str) = "1") <;> simp only [L3.evs, Nat.reduceAdd, Nat.reduceSub, Nat.reduceLeDiff, ↓reduceIte, reduceCtorEq]
    have hs : sLoop (gV2 2 3) b_look_bits_1 (enumD k ((c :: l).map sg)) [A, B, a2, a3] = (match b_look_bits_1 [A, B, .sh (.int (k : Int)), .sh (sg c)] with
      | .nx Δ2 => sLoop (gV2 2 3) b_look_bits_1 (enumD (k + 1) (l.map sg)) Δ2
      | .ct Δ2 => sLoop (gV2 2 3) b_look_bits_1 (enumD (k + 1) (l.map sg)) Δ2
      | .bk Δ2 => .nx Δ2
      | r => r) := rfl
    rw [hs, hb]
    unfold ff
    by_cases hn : nb c = true
    · rw [if_pos hn, if_pos hn]; exact .inl ⟨k, _, rfl, rfl⟩
    · rw [if_neg hn, if_neg hn]; exact ih
theorem due_loop (A B : Sl) : ∀ (l : List Nat) (k : Nat) (a2 a3 : Sl), (∃ n, ff nb k l = some n ∧ sLoop (gV2 2 3) b_law_due_1 (enumD k (l.map sg)) [A, B, a2, a3] = .rt (.sh (.int ((n : Nat) : Int)))) ∨ (ff nb k l = none ∧ ∃ a2' a3', sLoop (gV2 2 3) b_law_due_1 (enumD k (l.map sg)) [A, B, a2, a3] = .nx [A, B, a2', a3'])
  | [], k, a2, a3 => .inr ⟨rfl, a2, a3, rfl⟩
  | c :: l, k, a2, a3 => by
    have ih := due_loop A B l (k + 1) (.sh (.int (k : Int))) (.sh (sg c))
    have hb : b_law_due_1 [A, B, .sh (.int (k : Int)), .sh (sg c)] = if nb c = true then .rt (.sh (.int (k : Int))) else .nx [A, B, .sh (.int (k : Int)), .sh (sg c)] := by
      unfold nb
      simp only [b_law_due_1, L3.evs, Nat.reduceAdd, Nat.reduceSub, Nat.reduceLeDiff, ↓reduceIte, reduceCtorEq, sg, neD_str]
      cases decide ((⟨#[c]⟩ : Str) = "0") <;> cases decide ((⟨#[c]⟩ : Str) = "1") <;> simp only [L3.evs, Nat.reduceAdd, Nat.reduceSub, Nat.reduceLeDiff, ↓reduceIte, reduceCtorEq]
    have hs : sLoop (gV2 2 3) b_law_due_1 (enumD k ((c :: l).map sg)) [A, B, a2, a3] = (match b_law_due_1 [A, B, .sh (.int (k : Int)), .sh (sg c)] with
      | .nx Δ2 => sLoop (gV2 2 3) b_law_due_1 (enumD (k + 1) (l.map sg)) Δ2
      | .ct Δ2 => sLoop (gV2 2 3) b_law_due_1 (enumD (k + 1) (l.map sg)) Δ2
      | .bk Δ2 => .nx Δ2
      | r => r) := rfl
    rw [hs, hb]
    unfold ff
    by_cases hn : nb c = true
    · rw [if_pos hn, if_pos hn]; exact .inl ⟨k, rfl, rfl⟩
    · rw [if_neg hn, if_neg hn]; exact ih
noncomputable def dueZ (l : List Nat) (w : Nat) : Option Nat := match ff nb 0 l with
  | some n => some n
  | none => if l.length % w = 0 then none else some l.length
theorem signs_sg (x : Str) : signs x = x.cps.toList.map sg := rfl
theorem mod_iff (x : Str) (w : Nat) : ((x.length : Int) % (w : Int) = 0) ↔ x.cps.toList.length % w = 0 := by
  rw [← str_len]
  constructor
  · intro h
    have : ((x.length % w : Nat) : Int) = ((0 : Nat) : Int) := by rw [Int.natCast_emod, h]; rfl
    exact Int.ofNat.inj this
  · intro h; have : ((x.length % w : Nat) : Int) = 0 := by rw [h]; rfl
    simpa using this
theorem look_eq (x : Str) (w : Nat) (h1 : 1 ≤ w) (hx : x.length ≤ 100000) : F_look_bits [.str x, .int (w : Int)] = match dueZ x.cps.toList w with | some n => .ex (xn n) | none => .ok (.sh .non) := by
  have c1 : ¬ ((w : Int) < 1) := by omega
  have el := len_str3 (show x.length ≤ 16777216 by omega)
  rcases look_loop (.sh (.str x)) (.sh (.int (w : Int))) x.cps.toList 0 .no .no with ⟨n, Δ, e1, e2⟩ | ⟨e1, a2, a3, e2⟩
  · rw [← signs_sg] at e2
    have : dueZ x.cps.toList w = some n := by unfold dueZ; rw [e1]
    rw [this]
    simp only [F_look_bits, g_look_bits, L3.evs, Nat.reduceAdd, Nat.reduceSub, Nat.reduceLeDiff, ↓reduceIte, reduceCtorEq, sFor, iEnum, enumOf, e2]
  · rw [← signs_sg] at e2
    by_cases hm : (x.length : Int) % (w : Int) = 0
    · have : dueZ x.cps.toList w = none := by unfold dueZ; rw [e1]; exact if_pos ((mod_iff x w).mp hm)
      have em : F_is_multiple [.int (x.length : Int), .int (w : Int)] = .ok (.sh (.bl true)) := by
        simp only [F_is_multiple, g_is_multiple, L3.evs, Nat.reduceAdd, Nat.reduceSub, Nat.reduceLeDiff, ↓reduceIte, reduceCtorEq, lt_ok, c1, mod_ok (show (0 : Int) < w by omega), eqD_int, hm]
      rw [this]
      simp only [F_look_bits, g_look_bits, L3.evs, Nat.reduceAdd, Nat.reduceSub, Nat.reduceLeDiff, ↓reduceIte, reduceCtorEq, sFor, iEnum, enumOf, e2, el, em]
    · have : dueZ x.cps.toList w = some x.length := by unfold dueZ; rw [e1]; rw [str_len]; exact if_neg (fun z => hm ((mod_iff x w).mpr z))
      have em : F_is_multiple [.int (x.length : Int), .int (w : Int)] = .ok (.sh (.bl false)) := by
        simp only [F_is_multiple, g_is_multiple, L3.evs, Nat.reduceAdd, Nat.reduceSub, Nat.reduceLeDiff, ↓reduceIte, reduceCtorEq, lt_ok, c1, mod_ok (show (0 : Int) < w by omega), eqD_int, hm]
      rw [this]
      simp only [F_look_bits, g_look_bits, L3.evs, Nat.reduceAdd, Nat.reduceSub, Nat.reduceLeDiff, ↓reduceIte, reduceCtorEq, sFor, iEnum, enumOf, e2, el, em, sRaise, xn]
theorem due_eq (x : Str) (w : Nat) (h1 : 1 ≤ w) (hx : x.length ≤ 100000) : F_law_due [.str x, .int (w : Int)] = match dueZ x.cps.toList w with | some n => .ok (.sh (.int (n : Int))) | none => .ok (.sh .non) := by
  have el := len_str3 (show x.length ≤ 16777216 by omega)
  rcases due_loop (.sh (.str x)) (.sh (.int (w : Int))) x.cps.toList 0 .no .no with ⟨n, e1, e2⟩ | ⟨e1, a2, a3, e2⟩
  · rw [← signs_sg] at e2
    have : dueZ x.cps.toList w = some n := by unfold dueZ; rw [e1]
    rw [this]
    simp only [F_law_due, g_law_due, L3.evs, Nat.reduceAdd, Nat.reduceSub, Nat.reduceLeDiff, ↓reduceIte, reduceCtorEq, sFor, iEnum, enumOf, e2]
  · rw [← signs_sg] at e2
    by_cases hm : (x.length : Int) % (w : Int) = 0
    · have : dueZ x.cps.toList w = none := by unfold dueZ; rw [e1]; exact if_pos ((mod_iff x w).mp hm)
      rw [this]
      simp only [F_law_due, g_law_due, L3.evs, Nat.reduceAdd, Nat.reduceSub, Nat.reduceLeDiff, ↓reduceIte, reduceCtorEq, sFor, iEnum, enumOf, e2, el, mod_ok (show (0 : Int) < w by omega), neD_int, hm]
    · have : dueZ x.cps.toList w = some x.length := by unfold dueZ; rw [e1]; rw [str_len]; exact if_neg (fun z => hm ((mod_iff x w).mpr z))
      rw [this]
      simp only [F_law_due, g_law_due, L3.evs, Nat.reduceAdd, Nat.reduceSub, Nat.reduceLeDiff, ↓reduceIte, reduceCtorEq, sFor, iEnum, enumOf, e2, el, mod_ok (show (0 : Int) < w by omega), neD_int, hm]
theorem alone_eq (n : Nat) : F_law_alone [.exn "NoBits" ["at"] [.int (n : Int)]] = .ok (.sh (.bl true)) := by
  have l1 : List.lookup ("NoBits" : Str) [(("NoBits" : Str), true)] = some true := by decide
  have l2 : List.lookup ("NoBits" : Str) [(("NoBits" : Str), false)] = some false := by decide
  simp only [F_law_alone, g_law_alone, L3.evs, Nat.reduceAdd, Nat.reduceSub, Nat.reduceLeDiff, ↓reduceIte, reduceCtorEq, l1, l2]
theorem dueZ_none {l : List Nat} {w : Nat} (h : dueZ l w = none) : (∀ c ∈ l, bit c) ∧ l.length % w = 0 := by
  unfold dueZ at h
  cases e : ff nb 0 l with
  | some n => rw [e] at h; cases h
  | none =>
    rw [e] at h
    refine ⟨fun c hc => nb_bit (ff_none e c hc), ?_⟩
    by_cases hm : l.length % w = 0
    · exact hm
    · have h : (if l.length % w = 0 then none else some l.length) = none := h
      rw [if_neg hm] at h; cases h
theorem read_eq (x : Str) (w : Nat) (h1 : 1 ≤ w) (hx : x.length ≤ 100000) (hm : x.length < 2999 * w) : (∃ n, dueZ x.cps.toList w = some n ∧ F_read_bits [.str x, .int (w : Int)] = .ex (xn n)) ∨ (dueZ x.cps.toList w = none ∧ ∃ v, F_read_bits [.str x, .int (w : Int)] = .ok v) := by
  have el := look_eq x w h1 hx
  cases e : dueZ x.cps.toList w with
  | some n =>
    rw [e] at el
    refine .inl ⟨n, rfl, ?_⟩
    simp only [F_read_bits, g_read_bits, L3.evs, Nat.reduceAdd, Nat.reduceSub, Nat.reduceLeDiff, ↓reduceIte, reduceCtorEq, el, exG]
  | none =>
    obtain ⟨hb, hl⟩ := dueZ_none e
    rw [← str_len] at hl
    obtain ⟨m, hm2⟩ := Nat.dvd_of_mod_eq_zero hl
    refine .inr ⟨rfl, _, read_bits_eq x w m h1 hm2 (by omega) ?_ hb⟩
    rw [hm2, Nat.mul_comm] at hm
    exact Nat.lt_of_mul_lt_mul_right hm
theorem law_read_eq (x : Str) (w : Nat) (h1 : 1 ≤ w) (hx : x.length ≤ 100000) (hm : x.length < 2999 * w) : F_law_read [.str x, .int (w : Int)] = match dueZ x.cps.toList w with | some n => .ok (.ow (.lst [.int (n : Int), .bl true])) | none => .ok (.sh .non) := by
  have l1 : List.lookup ("NoBits" : Str) [(("NoBits" : Str), true)] = some true := by decide
  have l2 : [("NoBits" : Str)].contains ("NoBits" : Str) = true := by decide
  have l3 : ∀ d : D, List.lookup ("at" : Str) ([("at" : Str)].zip [d]) = some d := fun d => by
    rw [List.zip_cons_cons, List.lookup_cons, show (("at" : Str) == "at") = true by decide]
  rcases read_eq x w h1 hx hm with ⟨n, e1, e2⟩ | ⟨e1, v, e2⟩
  · rw [e1]
    simp only [xn] at e2
    simp only [F_law_read, g_law_read, L3.evs, Nat.reduceAdd, Nat.reduceSub, Nat.reduceLeDiff, ↓reduceIte, reduceCtorEq, sTry, b_law_read_1, e2, exG, l1, h_law_read_1, l2, l3, alone_eq, sBack]
  · rw [e1]
    simp only [F_law_read, g_law_read, L3.evs, Nat.reduceAdd, Nat.reduceSub, Nat.reduceLeDiff, ↓reduceIte, reduceCtorEq, sTry, b_law_read_1, e2]
end My

namespace My
open PySem L2 L3
noncomputable def ob (w : Nat) (n : Int) : Bool := decide (n < 0) || decide ((2 : Int) ^ w ≤ n)
theorem written_loop (A B : Sl) (w : Nat) : ∀ (l : List Int) (k : Nat) (a3 a4 : Sl), (∃ n Δ, ff (ob w) k l = some n ∧ sLoop (gV2 3 4) b_written_1 (enumD k (l.map .int)) [A, B, .sh (.int (2 ^ w)), a3, a4] = .ex (xn n) Δ) ∨ (ff (ob w) k l = none)
  | [], k, a3, a4 => .inr rfl
  | c :: l, k, a3, a4 => by
    have ih := written_loop A B w l (k + 1) (.sh (.int (k : Int))) (.sh (.int c))
    have hb : b_written_1 [A, B, .sh (.int (2 ^ w)), .sh (.int (k : Int)), .sh (.int c)] = if ob w c = true then .ex (xn k) [A, B, .sh (.int (2 ^ w)), .sh (.int (k : Int)), .sh (.int c)] else .nx [A, B, .sh (.int (2 ^ w)), .sh (.int (k : Int)), .sh (.int c)] := by
      by_cases hc : c < 0 ∨ (2 : Int) ^ w ≤ c
      · have : ob w c = true := by unfold ob; rw [Bool.or_eq_true, decide_eq_true_eq, decide_eq_true_eq]; exact hc
        rw [if_pos this]
        simp only [b_written_1, L3.evs, Nat.reduceAdd, Nat.reduceSub, Nat.reduceLeDiff, ↓reduceIte, reduceCtorEq, below_no hc, sRaise, xn]
      · have : ¬ ob w c = true := by unfold ob; rw [Bool.or_eq_true, decide_eq_true_eq, decide_eq_true_eq]; exact hc
        rw [if_neg this]
        simp only [b_written_1, L3.evs, Nat.reduceAdd, Nat.reduceSub, Nat.reduceLeDiff, ↓reduceIte, reduceCtorEq, below_ok (show 0 ≤ c by omega) (show c < 2 ^ w by omega)]
    have hs : sLoop (gV2 3 4) b_written_1 (enumD k ((c :: l).map .int)) [A, B, .sh (.int (2 ^ w)), a3, a4] = (match b_written_1 [A, B, .sh (.int (2 ^ w)), .sh (.int (k : Int)), .sh (.int c)] with
      | .nx Δ2 => sLoop (gV2 3 4) b_written_1 (enumD (k + 1) (l.map .int)) Δ2
      | .ct Δ2 => sLoop (gV2 3 4) b_written_1 (enumD (k + 1) (l.map .int)) Δ2
      | .bk Δ2 => .nx Δ2
      | r => r) := rfl
    rw [hs, hb]
    unfold ff
    by_cases hn : ob w c = true
    · rw [if_pos hn, if_pos hn]; exact .inl ⟨k, _, rfl, rfl⟩
    · rw [if_neg hn, if_neg hn]; exact ih
theorem written_bad (zs : List Int) (w n : Nat) (h1 : w ≤ 1000) (hn : ff (ob w) 0 zs = some n) : F_written [.lst (zs.map .int), .int (w : Int)] = .ex (xn n) := by
  rcases written_loop (.sh (.lst (zs.map .int))) (.sh (.int (w : Int))) w zs 0 .no .no with ⟨m, Δ, e1, e2⟩ | e1
  · rw [hn] at e1
    cases e1
    simp only [F_written, g_written, L3.evs, Nat.reduceAdd, Nat.reduceSub, Nat.reduceLeDiff, ↓reduceIte, reduceCtorEq, two_to_eq w h1, sFor, iEnum, enumOf, e2]
  · rw [hn] at e1; cases e1
theorem list_of (zs : List Int) (_h : zs.length ≤ 1000) : L3.listOf [.lst (zs.map .int)] = .ok (.ow (.lst (zs.map .int))) := rfl
theorem ne_ints (ns : List Int) : neD (.lst (ns.map .int)) (.lst (ns.map .int)) = .ok (.sh (.bl false)) := by
  have h1 : eqC (.lst (ns.map .int)) (.lst (ns.map .int)) = true := eqC_ints ns ns
  have h2 : eqvD (.lst (ns.map .int)) (.lst (ns.map .int)) = true := eqvs_self ns
  show (if eqC (.lst (ns.map .int)) (.lst (ns.map .int)) = true then R.ok (W.sh (D.bl (!eqvD (.lst (ns.map .int)) (.lst (ns.map .int))))) else .no) = _
  rw [if_pos h1, h2]
  rfl
theorem write_bad (zs : List Int) (w n : Nat) (h1 : w ≤ 1000) (hl : zs.length ≤ 1000) (hn : ff (ob w) 0 zs = some n) : F_law_write [.lst (zs.map .int), .int (w : Int)] = .ok (.ow (.lst [.int (n : Int), .bl true])) := by
  have l1 : List.lookup ("NoBits" : Str) [(("NoBits" : Str), true)] = some true := by decide
  have l2 : [("NoBits" : Str)].contains ("NoBits" : Str) = true := by decide
  have l3 : ∀ d : D, List.lookup ("at" : Str) ([("at" : Str)].zip [d]) = some d := fun d => by
    rw [List.zip_cons_cons, List.lookup_cons, show (("at" : Str) == "at") = true by decide]
  have e2 := written_bad zs w n h1 hn
  simp only [xn] at e2
  simp only [F_law_write, g_law_write, L3.evs, Nat.reduceAdd, Nat.reduceSub, Nat.reduceLeDiff, ↓reduceIte, reduceCtorEq, list_of zs hl, sTry, b_law_write_1, e2, exG, l1, h_law_write_1, l2, l3, alone_eq, sBack, ne_ints]
theorem write_good (zs : List Int) (w : Nat) (h1 : w ≤ 1000) (hl : zs.length ≤ 1000) (hz : ∀ n ∈ zs, 0 ≤ n ∧ n < 2 ^ w) : F_law_write [.lst (zs.map .int), .int (w : Int)] = .ok (.sh .non) := by
  have e2 := written_eq zs w h1 (by omega) hz
  simp only [F_law_write, g_law_write, L3.evs, Nat.reduceAdd, Nat.reduceSub, Nat.reduceLeDiff, ↓reduceIte, reduceCtorEq, list_of zs hl, sTry, b_law_write_1, e2, ne_ints]
end My

namespace My
open PySem L2 L3
theorem mixZ_nn (c k : Int) : 0 ≤ mixZ c k := Int.emod_nonneg _ (by decide)
theorem pick2 (a b z : Int) : ixD (.lst [.int a, .int b]) (.int (z % 2)) = .ok (.sh (.int (if z % 2 = 0 then a else b))) := by
  have : z % 2 = 0 ∨ z % 2 = 1 := by omega
  rcases this with h | h <;> rw [h] <;> rfl
theorem pick3 (a b c z : Int) : ixD (.lst [.int a, .int b, .int c]) (.int (z % 3)) = .ok (.sh (.int (if z % 3 = 0 then a else if z % 3 = 1 then b else c))) := by
  have : z % 3 = 0 ∨ z % 3 = 1 ∨ z % 3 = 2 := by omega
  rcases this with h | h | h <;> rw [h] <;> rfl
theorem spoil_step (B C : Int) (zs : List Int) (w : Nat) (k : Nat) (hk : k < 3) (hz : 0 < zs.length) (a5 a6 : Sl) : ∃ (j : Nat) (v : Int) (a5' a6' : Sl), j < zs.length ∧ ob w v = true ∧
    b_law_spoiled_1 [.ow (.lst (zs.map .int)), .sh (.int B), .sh (.int C), .sh (.int (2 ^ w)), .sh (.int (0 + (k : Int))), a5, a6] = .nx [.ow (.lst ((zs.set j v).map .int)), .sh (.int B), .sh (.int C), .sh (.int (2 ^ w)), .sh (.int (0 + (k : Int))), a5', a6'] := by
  have em := mix_eq (C % 2147483647) (30 + (0 + (k : Int))) (by omega) (by omega)
  generalize hs : mixZ (C % 2147483647) (30 + (0 + (k : Int))) = s at em
  have hs0 : 0 ≤ s := by rw [← hs]; exact mixZ_nn _ _
  generalize hf : (if s / 16 % 3 = 0 then (1 : Int) else if s / 16 % 3 = 1 then 1 + s / 64 % 9 else 10 ^ (20 : Int).toNat + s) = far
  have hf1 : 1 ≤ far := by
    rw [← hf]
    have : (10 : Int) ^ (20 : Int).toNat = 100000000000000000000 := by decide
    rw [this]
    split
    · omega
    · split <;> omega
  generalize hv : (if s / 4096 % 2 = 0 then (0 : Int) - far else 2 ^ w - 1 + far) = v
  have hL : (0 : Int) < (zs.length : Int) := by omega
  have m1 := Int.emod_nonneg s (show (zs.length : Int) ≠ 0 by omega)
  have m2 := Int.emod_lt_of_pos s hL
  have hj : ixN (zs.map D.int).length (s % (zs.length : Int)) = some (s % (zs.length : Int)).toNat := by
    unfold ixN
    rw [List.length_map, if_pos m1, if_pos m2]
  refine ⟨(s % (zs.length : Int)).toNat, v, .sh (.int s), .sh (.int far), by omega, ?_, ?_⟩
  · unfold ob
    rw [← hv]
    split
    · rw [decide_eq_true (by omega)]; rfl
    · rw [decide_eq_true (p := (2 : Int) ^ w ≤ 2 ^ w - 1 + far) (by omega), Bool.or_true]
  · simp only [b_law_spoiled_1, L3.evs, Nat.reduceAdd, Nat.reduceSub, Nat.reduceLeDiff, ↓reduceIte, reduceCtorEq, mod_ok (show (0 : Int) < 2147483647 by decide), add_ok, em, div_ok (show (0 : Int) < 64 by decide) (by decide), div_ok (show (0 : Int) < 16 by decide) (by decide), div_ok (show (0 : Int) < 4096 by decide) (by decide), mod_ok (show (0 : Int) < 9 by decide), mod_ok (show (0 : Int) < 3 by decide), mod_ok (show (0 : Int) < 2 by decide),
      pow_ok (powC_ok1 (i := 10) (j := 20) (by decide) (by decide) (by decide) (by decide)), pick3, hf, sSetI, sub_ok, pick2, hv, len_lst, List.length_map, mod_ok hL]
    rw [List.length_map] at hj
    simp only [hj, L3.evs, Nat.reduceAdd, Nat.reduceSub, Nat.reduceLeDiff, ↓reduceIte, reduceCtorEq]
    rw [List.map_set]
theorem spoiled_eq (zs : List Int) (w : Nat) (C : Int) (h1 : w ≤ 64) (hz : 0 < zs.length) : ∃ bs : List Int, bs.length = zs.length ∧ (∃ z ∈ bs, ob w z = true) ∧ F_law_spoiled [.lst (zs.map .int), .int (w : Int), .int C] = .ok (.ow (.lst (bs.map .int))) := by
  have epow : (1 : Int) * 2 ^ ((w : Int)).toNat = 2 ^ w := by rw [Int.toNat_natCast, Int.one_mul]
  have m1 := Int.emod_nonneg C (show (3 : Int) ≠ 0 by decide)
  have m2 := Int.emod_lt_of_pos C (show (0 : Int) < 3 by decide)
  obtain ⟨Δ', e, bs, a4, a5, a6, rfl, hl, hb⟩ := loop_ints (gV 4) b_law_spoiled_1 (fun k Δ => ∃ (bs : List Int) (a4 a5 a6 : Sl), Δ = [.ow (.lst (bs.map .int)), .sh (.int (w : Int)), .sh (.int C), .sh (.int (2 ^ w)), a4, a5, a6] ∧ bs.length = zs.length ∧ (1 ≤ k → ∃ z ∈ bs, ob w z = true))
    (n := (1 + C % 3).toNat) (lo := 0) (Δ := [.ow (.lst (zs.map .int)), .sh (.int (w : Int)), .sh (.int C), .sh (.int (2 ^ w)), .no, .no, .no]) ⟨zs, .no, .no, .no, rfl, rfl, fun h => absurd h (by decide)⟩ (fun k Δ hk hI => by
    obtain ⟨bs, a4, a5, a6, rfl, hl, _⟩ := hI
    obtain ⟨j, v, a5', a6', hj, hv, es⟩ := spoil_step (w : Int) C bs w k (by omega) (by omega) a5 a6
    refine ⟨_, rfl, _, .inl es, bs.set j v, _, _, _, rfl, by rw [List.length_set]; exact hl, fun _ => ⟨v, ?_, hv⟩⟩
    exact List.mem_iff_getElem?.mpr ⟨j, by rw [List.getElem?_set_self hj]⟩)
  refine ⟨bs, hl, hb (by omega), ?_⟩
  simp only [F_law_spoiled, g_law_spoiled, L3.evs, Nat.reduceAdd, Nat.reduceSub, Nat.reduceLeDiff, ↓reduceIte, reduceCtorEq, shl_ok (powC_ok1 (i := 1) (j := (w : Int)) (by omega) (by omega) (by decide) (by decide)), epow, L3.listOf, mod_ok (show (0 : Int) < 3 by decide), add_ok, sFor, rng1_ok (show (-4611686018427387903 : Int) ≤ 1 + C % 3 by omega) (by omega), e]
end My

namespace My
open PySem L2 L3
theorem slice_ok {x : Str} (lo hi : Option Int) (h : x.length ≤ 100000) : sliceD (.str x) lo hi = .ok (.sh (.str (Txt.slice x lo hi))) := if_pos (by omega)
theorem sign_ok (z : Int) : ∃ c : Nat, ixD (.str "2 3ab9-.OIl_+\n") (.int (z % 14)) = .ok (.sh (.str ⟨#[c]⟩)) := by
  have h1 := Int.emod_nonneg z (show (14 : Int) ≠ 0 by decide)
  have h2 := Int.emod_lt_of_pos z (show (0 : Int) < 14 by decide)
  have hl : ("2 3ab9-.OIl_+\n" : Str).cps.toList.length = 14 := by decide
  have hlt : (z % 14).toNat < ("2 3ab9-.OIl_+\n" : Str).cps.toList.length := by rw [hl]; omega
  exact ⟨_, ix_str3 (by decide) (atI_at h1 (List.getElem?_eq_getElem hlt))⟩
theorem row_step (B C : Int) (x : Str) (a3 a4 a6 a7 : Sl) (k : Nat) (hk : k < 3) (h0 : 1 ≤ x.length) (h1 : x.length ≤ 40000) : ∃ (y : Str) (a6' a7' : Sl), 1 ≤ y.length ∧ y.length ≤ 2 * x.length + 1 ∧
    b_law_spoiled_row_1 [.sh (.str x), .sh (.int B), .sh (.int C), a3, a4, .sh (.int (0 + (k : Int))), a6, a7] = .nx [.sh (.str y), .sh (.int B), .sh (.int C), a3, a4, .sh (.int (0 + (k : Int))), a6', a7'] := by
  have em := mix_eq (C % 2147483647) (50 + (0 + (k : Int))) (by omega) (by omega)
  generalize mixZ (C % 2147483647) (50 + (0 + (k : Int))) = s at em
  obtain ⟨c, hc⟩ := sign_ok (s / 4096)
  have el := len_str3 (show x.length ≤ 16777216 by omega)
  have hL : (0 : Int) < (x.length : Int) := by omega
  generalize hu : Txt.slice x none (some (s % (x.length : Int))) = u
  generalize hv : Txt.slice x (some (s % (x.length : Int) + 1)) none = v
  have hul : u.length ≤ x.length := by rw [← hu]; exact Txt.slice_le _ _ _
  have hvl : v.length ≤ x.length := by rw [← hv]; exact Txt.slice_le _ _ _
  have c1 : u.length + (⟨#[c]⟩ : Str).length ≤ 16777216 := by show u.length + 1 ≤ _; omega
  have l1 : (u ++ (⟨#[c]⟩ : Str)).length = u.length + 1 := str_app_len _ _
  have c2 : (u ++ (⟨#[c]⟩ : Str)).length + v.length ≤ 16777216 := by rw [l1]; omega
  refine ⟨u ++ (⟨#[c]⟩ : Str) ++ v, .sh (.int s), .sh (.int (s % (x.length : Int))), by rw [str_app_len, l1]; omega, by rw [str_app_len, l1]; omega, ?_⟩
  simp only [b_law_spoiled_row_1, L3.evs, Nat.reduceAdd, Nat.reduceSub, Nat.reduceLeDiff, ↓reduceIte, reduceCtorEq, mod_ok (show (0 : Int) < 2147483647 by decide), add_ok, em, el, mod_ok hL, slice_ok none _ (show x.length ≤ 100000 by omega), slice_ok _ none (show x.length ≤ 100000 by omega), hu, hv, div_ok (show (0 : Int) < 4096 by decide) (by decide), mod_ok (show (0 : Int) < 14 by decide), hc, cat_ok c1, cat_ok c2]
theorem row_loop (B C : Int) (x : Str) (a3 a4 a5 : Sl) (n : Nat) (hn : n ≤ 3) (h0 : 1 ≤ x.length) (h1 : x.length ≤ 4500) : ∃ (y : Str) (a5' a6' a7' : Sl), y.length ≤ 8 * x.length + 7 ∧
    sLoop (gV 5) b_law_spoiled_row_1 (zints 0 n) [.sh (.str x), .sh (.int B), .sh (.int C), a3, a4, a5, .no, .no] = .nx [.sh (.str y), .sh (.int B), .sh (.int C), a3, a4, a5', a6', a7'] := by
  obtain ⟨Δ', e, y, a5', a6', a7', rfl, h2, h3⟩ := loop_ints (gV 5) b_law_spoiled_row_1 (fun k Δ => ∃ (y : Str) (a5' a6' a7' : Sl), Δ = [.sh (.str y), .sh (.int B), .sh (.int C), a3, a4, a5', a6', a7'] ∧ 1 ≤ y.length ∧ y.length + 1 ≤ 2 ^ k * (x.length + 1)) (n := n) (lo := 0)
    (Δ := [.sh (.str x), .sh (.int B), .sh (.int C), a3, a4, a5, .no, .no]) ⟨x, a5, .no, .no, rfl, h0, by omega⟩ (fun k Δ hk hI => by
    obtain ⟨y, a5', a6', a7', rfl, h2, h3⟩ := hI
    have hp : 2 ^ k ≤ 4 := by have : k = 0 ∨ k = 1 ∨ k = 2 := by omega
                              rcases this with rfl | rfl | rfl <;> decide
    have hy : y.length ≤ 40000 := by
      have := Nat.mul_le_mul_right (x.length + 1) hp
      omega
    obtain ⟨z, b6, b7, z1, z2, ez⟩ := row_step B C y a3 a4 a6' a7' k (by omega) h2 hy
    refine ⟨_, rfl, _, .inl ez, z, _, _, _, rfl, z1, ?_⟩
    rw [Nat.pow_succ, Nat.mul_comm (2 ^ k) 2, Nat.mul_assoc]
    omega)
  refine ⟨y, a5', a6', a7', ?_, e⟩
  have hp : 2 ^ n ≤ 8 := by have : n = 0 ∨ n = 1 ∨ n = 2 ∨ n = 3 := by omega
                            rcases this with rfl | rfl | rfl | rfl <;> decide
  have := Nat.mul_le_mul_right (x.length + 1) hp
  omega
theorem row_tail (B C : Int) (x : Str) (a4 : Sl) (h1 : x.length ≤ 4500) : ∃ y : Str, y.length ≤ 8 * x.length + 7 ∧
    (sSeq (sIf [0, 3] (tAndF (eTest (eOp ltD (eVar 3) (eC (.int 2)))) (eTest (eOp neD (eVar 0) (eC (.str "")))))
      (sFor [2] (iArgs rng1 (aCons (eOp addD (eC (.int 1)) (eOp modD (eOp divD (eVar 2) (eC (.int 384))) (eC (.int 3)))) aNil)) (gV 5) b_law_spoiled_row_1)
      sNil) (sRetV 0)) [.sh (.str x), .sh (.int B), .sh (.int C), .sh (.int (C % 3)), a4, .no, .no, .no] = .rt (.sh (.str y)) := by
  have m1 := Int.emod_nonneg (C / 384) (show (3 : Int) ≠ 0 by decide)
  have m2 := Int.emod_lt_of_pos (C / 384) (show (0 : Int) < 3 by decide)
  by_cases hf : C % 3 < 2
  · by_cases hx : x = ""
    · refine ⟨x, by omega, ?_⟩
      simp only [L3.evs, Nat.reduceAdd, Nat.reduceSub, Nat.reduceLeDiff, ↓reduceIte, reduceCtorEq, lt_ok, hf, neD_str, hx]
    · have h0 : 1 ≤ x.length := by
        rcases Nat.eq_zero_or_pos x.length with h | h
        · refine absurd (str_ext ?_) hx
          rw [str_len] at h
          rw [List.length_eq_zero_iff.mp h]
          rfl
        · exact h
      obtain ⟨y, b5, b6, b7, hy, ey⟩ := row_loop B C x (.sh (.int (C % 3))) a4 .no (1 + C / 384 % 3).toNat (by omega) h0 h1
      refine ⟨y, hy, ?_⟩
      simp only [L3.evs, Nat.reduceAdd, Nat.reduceSub, Nat.reduceLeDiff, ↓reduceIte, reduceCtorEq, lt_ok, hf, neD_str, hx, div_ok (show (0 : Int) < 384 by decide) (by decide), mod_ok (show (0 : Int) < 3 by decide), add_ok, sFor, rng1_ok (show (-4611686018427387903 : Int) ≤ 1 + C / 384 % 3 by omega) (by omega), ey]
  · refine ⟨x, by omega, ?_⟩
    simp only [L3.evs, Nat.reduceAdd, Nat.reduceSub, Nat.reduceLeDiff, ↓reduceIte, reduceCtorEq, lt_ok, hf]
theorem rep_ok : mulS (.str "10") (.int 32) = .ok (.sh (.str (repS "10" 32))) := by
  have : (2 : Int) ≤ 32 ∧ (32 : Int) ≤ 1000 ∧ 1 ≤ ("10" : Str).length ∧ ("10" : Str).length ≤ 1000 := by decide
  exact (if_pos this : (if (2 : Int) ≤ 32 ∧ (32 : Int) ≤ 1000 ∧ 1 ≤ ("10" : Str).length ∧ ("10" : Str).length ≤ 1000 then R.ok (W.sh (D.str (repS "10" (32 : Int).toNat))) else .no) = _)
theorem row_eq (x : Str) (w : Nat) (C : Int) (hx : x.length ≤ 4000) : ∃ y : Str, y.length ≤ 8 * x.length + 600 ∧ F_law_spoiled_row [.str x, .int (w : Int), .int C] = .ok (.sh (.str y)) := by
  have rl : (repS "10" 32).length = 64 := by rw [repS_len]; decide
  by_cases hf : 0 < C % 3
  · by_cases hg : C / 192 % 2 = 0
    · generalize hs : Txt.slice (repS "10" 32) none (some (C / 3 % 64)) = s
      have hsl : s.length ≤ 64 := by rw [← hs, ← rl]; exact Txt.slice_le _ _ _
      have c1 : x.length + s.length ≤ 16777216 := by omega
      have e0 := slice_ok (x := repS "10" 32) none (some (C / 3 % 64)) (by omega)
      obtain ⟨y, hy, ey⟩ := row_tail (w : Int) C (x ++ s) (.sh (.int (C / 3 % 64))) (by rw [str_app_len]; omega)
      rw [str_app_len] at hy
      refine ⟨y, by omega, ?_⟩
      unfold sSeq at ey
      simp only [L3.evs, Nat.reduceAdd, Nat.reduceSub, Nat.reduceLeDiff, ↓reduceIte, reduceCtorEq] at ey
      simp only [F_law_spoiled_row, g_law_spoiled_row, L3.evs, Nat.reduceAdd, Nat.reduceSub, Nat.reduceLeDiff, ↓reduceIte, reduceCtorEq, mod_ok (show (0 : Int) < 3 by decide), gt_ok, hf, div_ok (show (0 : Int) < 3 by decide) (by decide), mod_ok (show (0 : Int) < 64 by decide), div_ok (show (0 : Int) < 192 by decide) (by decide), mod_ok (show (0 : Int) < 2 by decide), eqD_int, hg, rep_ok, e0, hs, cat_ok c1]
      simp only [ey]
    · generalize hs : Txt.slice x (some (min (C / 3 % 64) (x.length : Int))) none = s
      have hsl : s.length ≤ x.length := by rw [← hs]; exact Txt.slice_le _ _ _
      have e0 := slice_ok (x := x) (some (min (C / 3 % 64) (x.length : Int))) none (by omega)
      obtain ⟨y, hy, ey⟩ := row_tail (w : Int) C s (.sh (.int (C / 3 % 64))) (by omega)
      refine ⟨y, by omega, ?_⟩
      unfold sSeq at ey
      simp only [L3.evs, Nat.reduceAdd, Nat.reduceSub, Nat.reduceLeDiff, ↓reduceIte, reduceCtorEq] at ey
      simp only [F_law_spoiled_row, g_law_spoiled_row, L3.evs, Nat.reduceAdd, Nat.reduceSub, Nat.reduceLeDiff, ↓reduceIte, reduceCtorEq, mod_ok (show (0 : Int) < 3 by decide), gt_ok, hf, div_ok (show (0 : Int) < 3 by decide) (by decide), mod_ok (show (0 : Int) < 64 by decide), div_ok (show (0 : Int) < 192 by decide) (by decide), mod_ok (show (0 : Int) < 2 by decide), eqD_int, hg, len_str3 (show x.length ≤ 16777216 by omega), min_ok, e0, hs]
      simp only [ey]
  · obtain ⟨y, hy, ey⟩ := row_tail (w : Int) C x .no (by omega)
    refine ⟨y, by omega, ?_⟩
    unfold sSeq at ey
    simp only [L3.evs, Nat.reduceAdd, Nat.reduceSub, Nat.reduceLeDiff, ↓reduceIte, reduceCtorEq] at ey
    simp only [F_law_spoiled_row, g_law_spoiled_row, L3.evs, Nat.reduceAdd, Nat.reduceSub, Nat.reduceLeDiff, ↓reduceIte, reduceCtorEq, mod_ok (show (0 : Int) < 3 by decide), gt_ok, hf]
    simp only [ey]
end My

namespace My
open PySem L2 L3
noncomputable def PP (w : Nat) : D → Bool
  | .tup [_, .int n] => ob w n
  | _ => false
noncomputable def F1 : D → D
  | .tup [i, _] => i
  | d => d
theorem first_of (w : Nat) : ∀ (l : List Int) (k n : Nat), ff (ob w) k l = some n → ∃ rest, ((enumD k (l.map .int)).filter (PP w)).map F1 = .int (n : Int) :: rest
  | [], _, _, h => by cases h
  | c :: l, k, n, h => by
    unfold ff at h
    have e : ((enumD k ((c :: l).map .int)).filter (PP w)) = if ob w c = true then .tup [.int (k : Int), .int c] :: ((enumD (k + 1) (l.map .int)).filter (PP w)) else ((enumD (k + 1) (l.map .int)).filter (PP w)) := by
      show ((D.tup [.int (k : Int), .int c] :: enumD (k + 1) (l.map .int)).filter (PP w)) = _
      rw [List.filter_cons]
      rfl
    rw [e]
    by_cases hc : ob w c = true
    · rw [if_pos hc] at h ⊢
      cases h
      exact ⟨_, rfl⟩
    · rw [if_neg hc] at h ⊢
      exact first_of w l (k + 1) n h
theorem ne_pair (n : Int) : neD (.lst [.int n, .bl true]) (.lst [.int n, .bl true]) = .ok (.sh (.bl false)) := by
  have h1 : eqC (.lst [.int n, .bl true]) (.lst [.int n, .bl true]) = true := rfl
  have h2 : eqvD (.lst [.int n, .bl true]) (.lst [.int n, .bl true]) = true := by
    show (PyData.eqv (.int n) (.int n) && (PyData.eqv (.bool true) (.bool true) && true)) = true
    simp [PyData.eqv]
  show (if eqC (.lst [.int n, .bl true]) (.lst [.int n, .bl true]) = true then R.ok (W.sh (D.bl (!eqvD (.lst [.int n, .bl true]) (.lst [.int n, .bl true])))) else .no) = _
  rw [if_pos h1, h2]
  rfl
theorem enum_len : ∀ (l : List D) (k : Nat), (enumD k l).length = l.length
  | [], _ => rfl
  | d :: l, k => by show (enumD (k + 1) l).length + 1 = l.length + 1; rw [enum_len l]
theorem first_eq (δ : List (Option D)) (hδ : δ.length = 12) (w : Nat) (hw : w ≤ 64) (bs : List Int) (n : Nat) (hl : bs.length ≤ 1000) (h2 : δ[2]? = some (some (.int (w : Int)))) (h7 : δ[7]? = some (some (.lst (bs.map .int)))) (hn : ff (ob w) 0 bs = some n) :
    eOp ixD (eComp 2 (iEnum (eVar 7)) (gC2 12 13) p_law_1 (eVar 12)) (eC (.int 0)) δ = .ok (.sh (.int (n : Int))) := by
  have epow : (1 : Int) * 2 ^ ((w : Int)).toNat = 2 ^ w := by rw [Int.toNat_natCast, Int.one_mul]
  obtain ⟨rest, hr⟩ := first_of w bs 0 n hn
  have ec := comp_list (fg := gC2 12 13) (p := p_law_1) (f := eVar 12) (δ := δ ++ List.replicate 2 none) (PP w) F1 (enumD 0 (bs.map .int)) (fun d hd => by
    obtain ⟨i, hi⟩ := List.mem_iff_getElem?.mp hd
    obtain ⟨d', e1, rfl⟩ := enumD_get hi
    rw [List.getElem?_map] at e1
    cases q : bs[i]? with
    | none => rw [q] at e1; cases e1
    | some c =>
      rw [q] at e1
      cases e1
      have e12 : (δ ++ List.replicate 2 none)[12]? = some none := by rw [List.getElem?_append_right (by omega), hδ]; rfl
      have e13 : (δ ++ List.replicate 2 none)[13]? = some none := by rw [List.getElem?_append_right (by omega), hδ]; rfl
      have l14 : (δ ++ List.replicate 2 (none : Option D)).length = 14 := by simp [hδ]
      refine ⟨((δ ++ List.replicate 2 none).set 12 (some (.int ((0 + i : Nat) : Int)))).set 13 (some (.int c)), ?_, ?_, fun _ => ⟨.sh (.int ((0 + i : Nat) : Int)), ?_, rfl⟩⟩
      · simp only [gC2, gC, e12, R.bind_ok, List.getElem?_set_ne (show 12 ≠ 13 by decide), e13]
      · have v13 : (((δ ++ List.replicate 2 none).set 12 (some (.int ((0 + i : Nat) : Int)))).set 13 (some (D.int c)))[13]? = some (some (.int c)) := by
          rw [List.getElem?_set_self (by rw [List.length_set, l14]; decide)]
        have v2 : (((δ ++ List.replicate 2 none).set 12 (some (.int ((0 + i : Nat) : Int)))).set 13 (some (D.int c)))[2]? = some (some (.int (w : Int))) := by
          rw [List.getElem?_set_ne (by decide), List.getElem?_set_ne (by decide), List.getElem?_append_left (by omega)]; exact h2
        show p_law_1 _ = .ok (ob w c)
        generalize ((δ ++ List.replicate 2 none).set 12 (some (.int ((0 + i : Nat) : Int)))).set 13 (some (D.int c)) = δ2 at v13 v2 ⊢
        unfold ob
        simp only [p_law_1, L3.evs, Nat.reduceAdd, Nat.reduceSub, Nat.reduceLeDiff, ↓reduceIte, reduceCtorEq, v13, v2, lt_ok, shl_ok (powC_ok1 (i := 1) (j := (w : Int)) (by omega) (by omega) (by decide) (by decide)), epow, ge_ok]
        cases decide (c < 0) <;> simp only [L3.evs, Nat.reduceAdd, Nat.reduceSub, Nat.reduceLeDiff, ↓reduceIte, reduceCtorEq, Bool.true_or, Bool.false_or]
      · have v12 : (((δ ++ List.replicate 2 none).set 12 (some (.int ((0 + i : Nat) : Int)))).set 13 (some (D.int c)))[12]? = some (some (.int ((0 + i : Nat) : Int))) := by
          rw [List.getElem?_set_ne (by decide), List.getElem?_set_self (by rw [l14]; decide)]
        simp only [eVar, v12])
  rw [hr] at ec
  have ec' := eComp_ok (m := 2) (fi := iEnum (eVar 7)) (fg := gC2 12 13) (p := p_law_1) (f := eVar 12) (δ := δ) (ds := enumD 0 (bs.map .int)) (by simp only [iEnum, eVar, h7, R.bind_ok, W.d_sh, enumOf]) (by rw [enum_len, List.length_map]; omega) ec
  simp only [eOp, ec', R.bind_ok, eC, W.d_sh, W.d_ow]
  exact ix_lst (atI_at (by decide) rfl)
theorem ff_app {α : Type} (P : α → Bool) (a b : List α) (c : α) (hc : P c = true) : ∀ k, (∀ x ∈ a, P x = false) → ff P k (a ++ c :: b) = some (k + a.length) := by
  induction a with
  | nil => intro k _; show ff P k (c :: b) = _; unfold ff; rw [if_pos hc]; rfl
  | cons x a ih =>
    intro k h
    show ff P k (x :: (a ++ c :: b)) = _
    unfold ff
    rw [if_neg (by rw [h x List.mem_cons_self]; decide), ih (k + 1) fun y hy => h y (List.mem_cons_of_mem _ hy), List.length_cons]
    congr 1
    omega
theorem bit_nb {c : Nat} (h : bit c) : nb c = false := by rcases h with rfl | rfl <;> rfl
theorem turn_eq (ns : List Int) (C : Int) (w : Nat) (h1 : 1 ≤ w) (h2 : w ≤ 64) (zs : List Int) (hz : 0 < zs.length) (hzl : zs.length ≤ 61) (hzb : ∀ z ∈ zs, 0 ≤ z ∧ z < 2 ^ w) (x : Str) (hx : x.length = w * zs.length) (a3 : Sl) (h3 : a3 = .ow (.lst (zs.map .int)) ∨ a3 = .sh (.lst (zs.map .int)))
    (k : Nat) (hk : k < 3) (a6 a7 a8 a9 a10 a11 : Sl) : ∃ a3' a6' a7' a8' a9' a10' a11', (a3' = .ow (.lst (zs.map .int)) ∨ a3' = .sh (.lst (zs.map .int))) ∧
    b_law_1 [.sh (.lst (ns.map .int)), .sh (.int C), .sh (.int (w : Int)), a3, .sh (.str x), .sh (.int (0 + (k : Int))), a6, a7, a8, a9, a10, a11] = .nx [.sh (.lst (ns.map .int)), .sh (.int C), .sh (.int (w : Int)), a3', .sh (.str x), .sh (.int (0 + (k : Int))), a6', a7', a8', a9', a10', a11'] := by
  have em := mix_eq (C % 2147483647) (0 + (k : Int)) (by omega) (by omega)
  obtain ⟨zc, ezc⟩ := cell_eq ns 1 (by decide) (by decide)
  have em2 := mix_eq zc (20 + (0 + (k : Int))) (by omega) (by omega)
  
  have hseed : ∃ S : Int, sSeq (sSet 6 [1, 5] (eFn 2 F_law_mix (aCons (eOp modD (eVar 1) (eC (.int 2147483647))) (aCons (eVar 5) aNil)))) (sIf [5] (eTest (eOp neD (eVar 5) (eC (.int 1))))
      (sSet 6 [0, 1, 5] (eOp ixD (eLst (aCons (eOp divD (eVar 1) (eC (.int 1024))) (aCons (eC (.int 0)) (aCons (eFn 2 F_law_mix (aCons (eFn 2 F_law_cell (aCons (eVar 0) (aCons (eC (.int 1)) aNil))) (aCons (eOp addD (eC (.int 20)) (eVar 5)) aNil))) aNil)))) (eVar 5)))
      sNil) [.sh (.lst (ns.map .int)), .sh (.int C), .sh (.int (w : Int)), a3, .sh (.str x), .sh (.int (0 + (k : Int))), a6, a7, a8, a9, a10, a11] = .nx [.sh (.lst (ns.map .int)), .sh (.int C), .sh (.int (w : Int)), a3, .sh (.str x), .sh (.int (0 + (k : Int))), .sh (.int S), a7, a8, a9, a10, a11] := by
    have : k = 0 ∨ k = 1 ∨ k = 2 := by omega
    rcases this with rfl | rfl | rfl
    · exact ⟨C / 1024, by
        simp only [L3.evs, Nat.reduceAdd, Nat.reduceSub, Nat.reduceLeDiff, ↓reduceIte, reduceCtorEq, mod_ok (show (0 : Int) < 2147483647 by decide), em, neD_int, div_ok (show (0 : Int) < 1024 by decide) (by decide), ezc, add_ok, em2]
        rfl⟩
    · exact ⟨mixZ (C % 2147483647) (0 + ((1 : Nat) : Int)), by
        simp only [L3.evs, Nat.reduceAdd, Nat.reduceSub, Nat.reduceLeDiff, ↓reduceIte, reduceCtorEq, mod_ok (show (0 : Int) < 2147483647 by decide), em, neD_int]
        rfl⟩
    · exact ⟨mixZ zc (20 + (0 + ((2 : Nat) : Int))), by
        simp only [L3.evs, Nat.reduceAdd, Nat.reduceSub, Nat.reduceLeDiff, ↓reduceIte, reduceCtorEq, mod_ok (show (0 : Int) < 2147483647 by decide), em, neD_int, div_ok (show (0 : Int) < 1024 by decide) (by decide), ezc, add_ok, em2]
        rfl⟩
  obtain ⟨S, hseed⟩ := hseed
  obtain ⟨bs, hbl, hbb, eb⟩ := spoiled_eq zs w S (by omega) hz
  obtain ⟨n, hn⟩ := ff_has (k := 0) hbb
  have ew := write_bad bs w n (by omega) (by omega) hn
  have eg := write_good zs w (by omega) (by omega) hzb
  have hxl : x.length ≤ 64 * 61 := by rw [hx]; exact Nat.mul_le_mul h2 hzl
  have hxw : x.length ≤ w * 61 := by rw [hx]; exact Nat.mul_le_mul_left w hzl
  obtain ⟨y, hy, ey⟩ := row_eq x w S (by omega)
  have ed := due_eq y w h1 (by omega)
  have er := law_read_eq y w h1 (by omega) (by omega)
  
  have e7 : ∃ a3', (a3' = .ow (.lst (zs.map .int)) ∨ a3' = .sh (.lst (zs.map .int))) ∧ sSet 7 [2, 3, 6] (eFn 3 F_law_spoiled (aCons (eVar 3) (aCons (eVar 2) (aCons (eVar 6) aNil)))) [.sh (.lst (ns.map .int)), .sh (.int C), .sh (.int (w : Int)), a3, .sh (.str x), .sh (.int (0 + (k : Int))), .sh (.int S), a7, a8, a9, a10, a11] =
      .nx [.sh (.lst (ns.map .int)), .sh (.int C), .sh (.int (w : Int)), a3', .sh (.str x), .sh (.int (0 + (k : Int))), .sh (.int S), .ow (.lst (bs.map .int)), a8, a9, a10, a11] := by
    rcases h3 with rfl | rfl
    · exact ⟨.sh (.lst (zs.map .int)), .inr rfl, by simp only [L3.evs, Nat.reduceAdd, Nat.reduceSub, Nat.reduceLeDiff, ↓reduceIte, reduceCtorEq, eb]⟩
    · exact ⟨.sh (.lst (zs.map .int)), .inr rfl, by simp only [L3.evs, Nat.reduceAdd, Nat.reduceSub, Nat.reduceLeDiff, ↓reduceIte, reduceCtorEq, eb]⟩
  obtain ⟨a3', h3', e7⟩ := e7
  have e8 : sSet 8 [2, 7] (eOp ixD (eComp 2 (iEnum (eVar 7)) (gC2 12 13) p_law_1 (eVar 12)) (eC (.int 0))) [.sh (.lst (ns.map .int)), .sh (.int C), .sh (.int (w : Int)), a3', .sh (.str x), .sh (.int (0 + (k : Int))), .sh (.int S), .ow (.lst (bs.map .int)), a8, a9, a10, a11] =
      .nx [.sh (.lst (ns.map .int)), .sh (.int C), .sh (.int (w : Int)), a3', .sh (.str x), .sh (.int (0 + (k : Int))), .sh (.int S), .ow (.lst (bs.map .int)), .sh (.int (n : Int)), a9, a10, a11] := by
    have f1 : eOp ixD (eComp 2 (iEnum (eVar 7)) (gC2 12 13) p_law_1 (eVar 12)) (eC (.int 0)) (vsh [.sh (.lst (ns.map .int)), .sh (.int C), .sh (.int (w : Int)), a3', .sh (.str x), .sh (.int (0 + (k : Int))), .sh (.int S), .ow (.lst (bs.map .int)), a8, a9, a10, a11]) = .no := rfl
    have f2 := first_eq (vall [.sh (.lst (ns.map .int)), .sh (.int C), .sh (.int (w : Int)), a3', .sh (.str x), .sh (.int (0 + (k : Int))), .sh (.int S), .ow (.lst (bs.map .int)), a8, a9, a10, a11]) rfl w h2 bs n (by omega) rfl rfl hn
    unfold sSet
    rw [f1, f2]
    rfl
  
  have e9 : sIf [2, 3, 7, 8] (tOrF (eTest (eOp neD (eFn 2 F_law_write (aCons (eVar 7) (aCons (eVar 2) aNil))) (eLst (aCons (eVar 8) (aCons (eC (.bl true)) aNil))))) (eTest (eOp (isND true) (eFn 2 F_law_write (aCons (eVar 3) (aCons (eVar 2) aNil))) (eC .non))))
      (sRet [] (eC (.bl false))) sNil [.sh (.lst (ns.map .int)), .sh (.int C), .sh (.int (w : Int)), a3', .sh (.str x), .sh (.int (0 + (k : Int))), .sh (.int S), .ow (.lst (bs.map .int)), .sh (.int (n : Int)), a9, a10, a11] =
      .nx [.sh (.lst (ns.map .int)), .sh (.int C), .sh (.int (w : Int)), a3', .sh (.str x), .sh (.int (0 + (k : Int))), .sh (.int S), .ow (.lst (bs.map .int)), .sh (.int (n : Int)), a9, a10, a11] := by
    rcases h3' with rfl | rfl
    · simp only [L3.evs, Nat.reduceAdd, Nat.reduceSub, Nat.reduceLeDiff, ↓reduceIte, reduceCtorEq, ew, eg, ne_pair]
    · simp only [L3.evs, Nat.reduceAdd, Nat.reduceSub, Nat.reduceLeDiff, ↓reduceIte, reduceCtorEq, ew, eg, ne_pair]
  have asc : ∀ (a b c : FS), sSeq (sSeq a b) c = sSeq a (sSeq b c) := fun a b c => by
    funext Δ
    unfold sSeq
    cases a Δ <;> rfl
  cases edue : dueZ y.cps.toList w with
  | some m =>
    rw [edue] at ed er
    refine ⟨a3', .sh (.int S), .ow (.lst (bs.map .int)), .sh (.int (n : Int)), .sh (.str y), .sh (.int (m : Int)), .ow (.lst [.int (m : Int), .bl true]), h3', ?_⟩
    unfold b_law_1
    rw [← asc, seq_nx hseed, seq_nx e7, seq_nx e8, seq_nx e9]
    simp only [L3.evs, Nat.reduceAdd, Nat.reduceSub, Nat.reduceLeDiff, ↓reduceIte, reduceCtorEq, ey, ed, er, ne_pair]
  | none =>
    rw [edue] at ed er
    refine ⟨a3', .sh (.int S), .ow (.lst (bs.map .int)), .sh (.int (n : Int)), .sh (.str y), .sh .non, .sh .non, h3', ?_⟩
    unfold b_law_1
    rw [← asc, seq_nx hseed, seq_nx e7, seq_nx e8, seq_nx e9]
    simp only [L3.evs, Nat.reduceAdd, Nat.reduceSub, Nat.reduceLeDiff, ↓reduceIte, reduceCtorEq, ey, ed, er]
end My

namespace My
open PySem L2 L3
theorem ff_no {α : Type} {P : α → Bool} : ∀ {l : List α} {k : Nat}, (∀ x ∈ l, P x = false) → ff P k l = none
  | [], _, _ => rfl
  | y :: l, k, h => by
    unfold ff
    rw [if_neg (by rw [h y List.mem_cons_self]; decide)]
    exact ff_no fun x hx => h x (List.mem_cons_of_mem _ hx)
noncomputable def modD2 (w : Nat) : D → D
  | .int n => .int (n % 2 ^ w)
  | d => d
theorem law_true (ns : List Int) (hns : ns.length ≤ 63) : ∃ v, F_law [.lst (ns.map D.int)] = .ok v ∧ v.d = .bl true := by
  have e1 := raw_eq ns 1 (by decide)
  generalize ns.getD (1 : Int).toNat 0 = C at e1
  obtain ⟨w, h1, h2, ewd⟩ := width_eq C
  obtain ⟨cs, hcl, ecs⟩ := cells_eq ns 2 60 hns (by decide) (by decide) (by decide) (by decide)
  have pos : (0 : Int) < 2 ^ w := Int.pow_pos (by decide)
  have epow : (1 : Int) * 2 ^ ((w : Int)).toNat = 2 ^ w := by rw [Int.toNat_natCast, Int.one_mul]
  generalize hzs : cs.map (fun n => n % 2 ^ w) ++ [0] = zs
  have hzl : zs.length = cs.length + 1 := by rw [← hzs]; simp
  have hzb : ∀ z ∈ zs, 0 ≤ z ∧ z < 2 ^ w := fun z hz => by
    rw [← hzs] at hz
    rcases List.mem_append.mp hz with hz | hz
    · obtain ⟨n, _, rfl⟩ := List.mem_map.mp hz
      exact ⟨Int.emod_nonneg _ (by omega), Int.emod_lt_of_pos _ pos⟩
    · have : z = 0 := by simpa using hz
      omega
  
  have ec := comp_map (fg := gC 12) (f := e_law_1) (δ := [some (.lst (ns.map .int)), some (.int C), some (.int (w : Int)), none, none, none, none, none, none, none, none, none, none]) (modD2 w) (cs.map .int) (fun d hd => by
    obtain ⟨n, _, rfl⟩ := List.mem_map.mp hd
    exact ⟨_, .sh (.int (n % 2 ^ w)), rfl, by simp only [e_law_1, L3.evs, Nat.reduceAdd, Nat.reduceSub, Nat.reduceLeDiff, ↓reduceIte, reduceCtorEq, shl_ok (powC_ok1 (i := 1) (j := (w : Int)) (by omega) (by omega) (by decide) (by decide)), epow, mod_ok pos], rfl⟩)
  rw [List.map_map] at ec
  have ec' := eComp_ok (m := 1) (fi := iOf (eFn 3 F_law_cells (aCons (eVar 0) (aCons (eC (.int 2)) (aCons (eC (.int 60)) aNil))))) (fg := gC 12) (p := fun _ => .ok true) (f := e_law_1) (δ := [some (.lst (ns.map .int)), some (.int C), some (.int (w : Int)), none, none, none, none, none, none, none, none, none]) (by simp only [L3.evs, Nat.reduceAdd, Nat.reduceSub, Nat.reduceLeDiff, ↓reduceIte, reduceCtorEq, ecs]) (by rw [List.length_map]; omega) ec
  have ecat : addD (.lst (cs.map (modD2 w ∘ D.int))) (.lst [.int 0]) = .ok (.ow (.lst (zs.map .int))) := by
    rw [catL_ok (by rw [List.length_map]; simp; omega), ← hzs, List.map_append, List.map_map]
    rfl
  
  generalize hx : mkS ((zs.map fun n => wr w n []).flatten) = x
  have hxl : x.length = w * zs.length := by rw [← hx, mkS_len, flat_len]
  have hxt : x.cps.toList = (zs.map fun n => wr w n []).flatten := by rw [← hx, mkS_list]
  have hxb : ∀ c ∈ x.cps.toList, bit c := by rw [hxt]; exact flat_bits w zs
  have ej := written_join zs w (by omega) (by omega)
  rw [hx] at ej
  have ec2 := comp_map (fg := gC 12) (f := e_law_2) (δ := [some (.lst (ns.map .int)), some (.int C), some (.int (w : Int)), some (.lst (zs.map .int)), none, none, none, none, none, none, none, none, none]) (wrD w) (zs.map .int) (fun d hd => by
    obtain ⟨n, _, rfl⟩ := List.mem_map.mp hd
    exact ⟨_, .sh (.str (mkS (wr w n []))), rfl, by simp only [e_law_2, L3.evs, Nat.reduceAdd, Nat.reduceSub, Nat.reduceLeDiff, ↓reduceIte, reduceCtorEq, law_bits_eq n w (by omega)], rfl⟩)
  rw [List.map_map] at ec2
  have ec2' := eComp_ok (m := 1) (fi := iOf (eVar 3)) (fg := gC 12) (p := fun _ => .ok true) (f := e_law_2) (δ := [some (.lst (ns.map .int)), some (.int C), some (.int (w : Int)), some (.lst (zs.map .int)), none, none, none, none, none, none, none, none]) (by simp only [L3.evs, Nat.reduceAdd, Nat.reduceSub, Nat.reduceLeDiff, ↓reduceIte, reduceCtorEq]) (by rw [List.length_map]; omega) ec2
  have q4 : q_law_4 [.sh (.lst (ns.map .int)), .sh (.int C), .sh (.int (w : Int)), .ow (.lst (zs.map .int)), .no, .no, .no, .no, .no, .no, .no, .no] = .nx [.sh (.lst (ns.map .int)), .sh (.int C), .sh (.int (w : Int)), .ow (.lst (zs.map .int)), .sh (.str x), .no, .no, .no, .no, .no, .no, .no] := by
    have f1 : eMeth "str" joinS (eC (.str "")) (aCons (eComp 1 (iOf (eVar 3)) (gC 12) (fun _ => .ok true) e_law_2) aNil) (vsh [.sh (.lst (ns.map .int)), .sh (.int C), .sh (.int (w : Int)), .ow (.lst (zs.map .int)), .no, .no, .no, .no, .no, .no, .no, .no]) = .no := rfl
    have f2 : eMeth "str" joinS (eC (.str "")) (aCons (eComp 1 (iOf (eVar 3)) (gC 12) (fun _ => .ok true) e_law_2) aNil) (vall [.sh (.lst (ns.map .int)), .sh (.int C), .sh (.int (w : Int)), .ow (.lst (zs.map .int)), .no, .no, .no, .no, .no, .no, .no, .no]) = .ok (.sh (.str x)) := by
      simp only [L3.evs, Nat.reduceAdd, Nat.reduceSub, Nat.reduceLeDiff, ↓reduceIte, reduceCtorEq, ec2', ej, beq_self_eq_true]
    unfold q_law_4 sSet
    rw [f1, f2]
    rfl
  
  obtain ⟨Δ', el, a3, a5, a6, a7, a8, a9, a10, a11, rfl, _⟩ := loop_ints (gV 5) b_law_1 (fun k Δ => ∃ a3 a5 a6 a7 a8 a9 a10 a11, Δ = [.sh (.lst (ns.map .int)), .sh (.int C), .sh (.int (w : Int)), a3, .sh (.str x), a5, a6, a7, a8, a9, a10, a11] ∧ (a3 = .ow (.lst (zs.map .int)) ∨ a3 = .sh (.lst (zs.map .int)))) (n := 3) (lo := 0)
    (Δ := [.sh (.lst (ns.map .int)), .sh (.int C), .sh (.int (w : Int)), .ow (.lst (zs.map .int)), .sh (.str x), .no, .no, .no, .no, .no, .no, .no]) ⟨_, _, _, _, _, _, _, _, rfl, .inl rfl⟩ (fun k Δ hk hI => by
    obtain ⟨a3, a5, a6, a7, a8, a9, a10, a11, rfl, h3⟩ := hI
    obtain ⟨b3, b6, b7, b8, b9, b10, b11, g3, e⟩ := turn_eq ns C w h1 h2 zs (by omega) (by omega) hzb x hxl a3 h3 k hk a6 a7 a8 a9 a10 a11
    exact ⟨_, rfl, _, .inl e, _, _, _, _, _, _, _, _, rfl, g3⟩)
  have er3 : rng1 [.int 3] = .ok (zints 0 3) := rng1_ok (by decide) (by decide)
  
  have hxs : x.length ≤ 64 * 61 := by rw [hxl]; exact Nat.mul_le_mul h2 (by omega)
  have hxw : x.length ≤ w * 61 := by rw [hxl]; exact Nat.mul_le_mul_left w (by omega)
  have ca : x.length + ("\n" : Str).length ≤ 16777216 := by show x.length + 1 ≤ _; omega
  have cb : (" " : Str).length + x.length ≤ 16777216 := by show 1 + x.length ≤ _; omega
  have la : (x ++ ("\n" : Str)).length = x.length + 1 := str_app_len _ _
  have lb : ((" " : Str) ++ x).length = 1 + x.length := str_app_len _ _
  have ra := law_read_eq (x ++ ("\n" : Str)) w h1 (by omega) (by omega)
  have rb := law_read_eq ((" " : Str) ++ x) w h1 (by omega) (by omega)
  have rc := law_read_eq x w h1 (by omega) (by omega)
  have da : dueZ (x ++ ("\n" : Str)).cps.toList w = some x.length := by
    unfold dueZ
    rw [str_app, show ("\n" : Str).cps.toList = [10] from rfl, ff_app nb x.cps.toList [] 10 rfl 0 fun c hc => bit_nb (hxb c hc), Nat.zero_add, ← str_len]
  have db : dueZ ((" " : Str) ++ x).cps.toList w = some 0 := by
    unfold dueZ
    rw [str_app, show (" " : Str).cps.toList = [32] from rfl]
    rfl
  have dc : dueZ x.cps.toList w = none := by
    unfold dueZ
    rw [ff_no fun c hc => bit_nb (hxb c hc)]
    refine if_pos ?_
    rw [← str_len, hxl, Nat.mul_mod_right]
  rw [da] at ra
  rw [db] at rb
  rw [dc] at rc
  refine ⟨.sh (.bl true), ?_, rfl⟩
  have s1 : q_law_1 (start3 12 [.lst (ns.map .int)]) = .nx [.sh (.lst (ns.map .int)), .sh (.int C), .no, .no, .no, .no, .no, .no, .no, .no, .no, .no] := by
    simp only [q_law_1, L3.evs, Nat.reduceAdd, Nat.reduceSub, Nat.reduceLeDiff, ↓reduceIte, reduceCtorEq, e1]
  have s2 : q_law_2 [.sh (.lst (ns.map .int)), .sh (.int C), .no, .no, .no, .no, .no, .no, .no, .no, .no, .no] = .nx [.sh (.lst (ns.map .int)), .sh (.int C), .sh (.int (w : Int)), .no, .no, .no, .no, .no, .no, .no, .no, .no] := by
    simp only [q_law_2, L3.evs, Nat.reduceAdd, Nat.reduceSub, Nat.reduceLeDiff, ↓reduceIte, reduceCtorEq, ewd]
  have s3 : q_law_3 [.sh (.lst (ns.map .int)), .sh (.int C), .sh (.int (w : Int)), .no, .no, .no, .no, .no, .no, .no, .no, .no] = .nx [.sh (.lst (ns.map .int)), .sh (.int C), .sh (.int (w : Int)), .ow (.lst (zs.map .int)), .no, .no, .no, .no, .no, .no, .no, .no] := by
    simp only [q_law_3, L3.evs, Nat.reduceAdd, Nat.reduceSub, Nat.reduceLeDiff, ↓reduceIte, reduceCtorEq, ec', ecat]
  have s5 : q_law_5 [.sh (.lst (ns.map .int)), .sh (.int C), .sh (.int (w : Int)), .ow (.lst (zs.map .int)), .sh (.str x), .no, .no, .no, .no, .no, .no, .no] = .nx [.sh (.lst (ns.map .int)), .sh (.int C), .sh (.int (w : Int)), a3, .sh (.str x), a5, a6, a7, a8, a9, a10, a11] := by
    simp only [q_law_5, L3.evs, Nat.reduceAdd, Nat.reduceSub, Nat.reduceLeDiff, ↓reduceIte, reduceCtorEq, sFor, er3, el]
  have s6 : q_law_6 [.sh (.lst (ns.map .int)), .sh (.int C), .sh (.int (w : Int)), a3, .sh (.str x), a5, a6, a7, a8, a9, a10, a11] = .nx [.sh (.lst (ns.map .int)), .sh (.int C), .sh (.int (w : Int)), a3, .sh (.str x), a5, a6, a7, a8, a9, a10, a11] := by
    simp only [q_law_6, L3.evs, Nat.reduceAdd, Nat.reduceSub, Nat.reduceLeDiff, ↓reduceIte, reduceCtorEq, cat_ok ca, cat_ok cb, ra, rb, len_str3 (show x.length ≤ 16777216 by omega), ne_pair, show ((0 : Nat) : Int) = 0 from rfl]
  have s7 : q_law_7 [.sh (.lst (ns.map .int)), .sh (.int C), .sh (.int (w : Int)), a3, .sh (.str x), a5, a6, a7, a8, a9, a10, a11] = .rt (.sh (.bl true)) := by
    simp only [q_law_7, L3.evs, Nat.reduceAdd, Nat.reduceSub, Nat.reduceLeDiff, ↓reduceIte, reduceCtorEq, rc]
  unfold F_law bodyD g_law
  rw [seq_nx s1, seq_nx s2, seq_nx s3, seq_nx q4, seq_nx s5, seq_nx s6, s7]
end My

set_option maxHeartbeats 20000000
namespace My
open PySem PyProof.Rows L2 L3
noncomputable def top (i : Nat) : Stmt := PySem.Challenge.pw_lodge_k13_no_bits.main.body.getD i (.Pass ⟨0, 0, 0, 0⟩)
noncomputable def classBody : Stmt → List Stmt
  | .ClassDef (body := b) .. => b
  | _ => []
section
variable {P : Program} {w : World} {K : PySem.W.Frag} {mg : Str → Option Value} {base : Heap} {f : Addr} {fd : FuncData}
noncomputable abbrev s_init_NoBits : Stmt := (classBody (top 5)).getD 0 (.Pass ⟨0, 0, 0, 0⟩)
theorem sc_init_NoBits : FnScope ["self", "at"] ["self", "at"] (defScope s_init_NoBits) := ⟨rfl, rfl, rfl, by decide +kernel, rfl, by decide +kernel, by decide +kernel⟩
theorem ok_init_NoBits {C f : Addr} {fd : FuncData} (F : Fun K "__init__" "NoBits.__init__" s_init_NoBits f fd) (xc : XCls K C) (hn : PySem.W.findIn K (.ref C) "at" = some none) : FnX P w K mg base false 1 f fd ["self", "at"] (spInit C "at") :=
  init_ok (k := 0) F sc_init_NoBits fun cdv A outer s H E => pss_one (ps_fldX xc hn (pe_var rfl (.inl rfl)) (pe_var rfl (.inl rfl)))
noncomputable abbrev s_law_raw : Stmt := top 24
theorem sc_law_raw : FnScope ["_law_script", "_law_k"] ["_law_script", "_law_k"] (defScope s_law_raw) := ⟨rfl, rfl, rfl, by decide +kernel, rfl, by decide +kernel, by decide +kernel⟩
theorem ok_law_raw {f : Addr} {fd : FuncData} (F : Fun K "_law_raw" "_law_raw" s_law_raw f fd) (m_len : mg "len" = none) : FnX P w K mg base true 1 f fd ["_law_script", "_law_k"] (spX K 2 F_law_raw) :=
  fn_D (c := true) (k := 0) F sc_law_raw fun cdv A outer s H E hr => by
    have nd := sc_law_raw.nd
    have hcalm : (cxN true P w K mg base ["_law_script", "_law_k"] "_law_raw" (defScope s_law_raw) f cdv A outer s H E).calm = true := rfl
    have hrX : RoomC true 0 (Cx.A (cxN true P w K mg base ["_law_script", "_law_k"] "_law_raw" (defScope s_law_raw) f cdv A outer s H E)) := hr
    have hu := RoomC.units hrX
    have lkX := lk_def (c := true) (P := P) (w := w) (K := K) (mg := mg) (base := base) (N := ["_law_script", "_law_k"]) (qual := "_law_raw") (scope := defScope s_law_raw) (f := f) (cd := cdv) (A := A) (outer := outer) (s := s) (H := H) (E := E)
    exact (bd_cons (sd_if [0, 1] (td_cmp op_ltD (ed_var 1) (ed_callB call_lenD3 rfl m_len PySem.boot_len (ad_cons (ed_var 0) ad_nil)) (nomark _))
      (bd_one (sd_ret [0, 1] (ed_ix (ed_var 0) (ed_var 1))))
      bd_nil)
    (bd_one (sd_ret [] ed_int)))
noncomputable abbrev s_law_width : Stmt := top 28
theorem sc_law_width : FnScope ["_law_cell_here"] ["_law_cell_here"] (defScope s_law_width) := ⟨rfl, rfl, rfl, by decide +kernel, rfl, by decide +kernel, by decide +kernel⟩
theorem ok_law_width {f : Addr} {fd : FuncData} (F : Fun K "_law_width" "_law_width" s_law_width f fd) : FnX P w K mg base true 1 f fd ["_law_cell_here"] (spX K 1 F_law_width) :=
  fn_D (c := true) (k := 0) F sc_law_width fun cdv A outer s H E hr => by
    have nd := sc_law_width.nd
    have hcalm : (cxN true P w K mg base ["_law_cell_here"] "_law_width" (defScope s_law_width) f cdv A outer s H E).calm = true := rfl
    have hrX : RoomC true 0 (Cx.A (cxN true P w K mg base ["_law_cell_here"] "_law_width" (defScope s_law_width) f cdv A outer s H E)) := hr
    have hu := RoomC.units hrX
    have lkX := lk_def (c := true) (P := P) (w := w) (K := K) (mg := mg) (base := base) (N := ["_law_cell_here"]) (qual := "_law_width") (scope := defScope s_law_width) (f := f) (cd := cdv) (A := A) (outer := outer) (s := s) (H := H) (E := E)
    exact (bd_one (sd_ret [0] (ed_ix (ed_lst (ad_cons (ed_bin op_addD ed_int (ed_bin op_modD (ed_bin op_divD (ed_var 0) ed_int) ed_int)) (ad_cons (ed_bin op_addD ed_int (ed_bin op_modD (ed_bin op_divD (ed_var 0) ed_int) ed_int)) (ad_cons ed_int (ad_cons ed_int ad_nil))))) (ed_bin op_modD (ed_var 0) ed_int))))
noncomputable abbrev s_law_mix : Stmt := top 23
theorem sc_law_mix : FnScope ["_law_cell_here", "_law_k", "_law_first"] ["_law_cell_here", "_law_k"] (defScope s_law_mix) := ⟨rfl, rfl, rfl, by decide +kernel, rfl, by decide +kernel, by decide +kernel⟩
theorem ok_law_mix {f : Addr} {fd : FuncData} (F : Fun K "_law_mix" "_law_mix" s_law_mix f fd) : FnX P w K mg base true 1 f fd ["_law_cell_here", "_law_k"] (spX K 2 F_law_mix) :=
  fn_D (c := true) (k := 0) F sc_law_mix fun cdv A outer s H E hr => by
    have nd := sc_law_mix.nd
    have hcalm : (cxN true P w K mg base ["_law_cell_here", "_law_k", "_law_first"] "_law_mix" (defScope s_law_mix) f cdv A outer s H E).calm = true := rfl
    have hrX : RoomC true 0 (Cx.A (cxN true P w K mg base ["_law_cell_here", "_law_k", "_law_first"] "_law_mix" (defScope s_law_mix) f cdv A outer s H E)) := hr
    have hu := RoomC.units hrX
    have lkX := lk_def (c := true) (P := P) (w := w) (K := K) (mg := mg) (base := base) (N := ["_law_cell_here", "_law_k", "_law_first"]) (qual := "_law_mix") (scope := defScope s_law_mix) (f := f) (cd := cdv) (A := A) (outer := outer) (s := s) (H := H) (E := E)
    exact (bd_cons (sd_set (i := 2) [0, 1] (ed_bin op_modD (ed_bin op_mulI (ed_bin op_addD (ed_var 0) ed_int) (ed_bin op_addD ed_int (ed_bin op_mulI ed_int (ed_var 1)))) ed_int) nd)
    (bd_one (sd_ret [1, 2] (ed_bin op_modD (ed_bin op_addD (ed_bin op_addD (ed_bin op_mulI (ed_bin op_divD (ed_var 2) ed_int) ed_int) (ed_bin op_mulI (ed_var 2) (ed_bin op_addD (ed_bin op_mulI (ed_var 1) (ed_var 1)) ed_int))) (ed_var 1)) ed_int))))
noncomputable abbrev s_law_cell : Stmt := top 25
theorem sc_law_cell : FnScope ["_law_script", "_law_k"] ["_law_script", "_law_k"] (defScope s_law_cell) := ⟨rfl, rfl, rfl, by decide +kernel, rfl, by decide +kernel, by decide +kernel⟩
theorem ok_law_cell {f : Addr} {fd : FuncData} (F : Fun K "_law_cell" "_law_cell" s_law_cell f fd) (c_law_mix : FnD P w K mg base true "_law_mix" 1 ["_law_cell_here", "_law_k"] F_law_mix) (c_law_raw : FnD P w K mg base true "_law_raw" 1 ["_law_script", "_law_k"] F_law_raw) : FnX P w K mg base true 2 f fd ["_law_script", "_law_k"] (spX K 2 F_law_cell) :=
  fn_D (c := true) (k := 1) F sc_law_cell fun cdv A outer s H E hr => by
    have nd := sc_law_cell.nd
    have hcalm : (cxN true P w K mg base ["_law_script", "_law_k"] "_law_cell" (defScope s_law_cell) f cdv A outer s H E).calm = true := rfl
    have hrX : RoomC true 1 (Cx.A (cxN true P w K mg base ["_law_script", "_law_k"] "_law_cell" (defScope s_law_cell) f cdv A outer s H E)) := hr
    have hu := RoomC.units hrX
    have lkX := lk_def (c := true) (P := P) (w := w) (K := K) (mg := mg) (base := base) (N := ["_law_script", "_law_k"]) (qual := "_law_cell") (scope := defScope s_law_cell) (f := f) (cd := cdv) (A := A) (outer := outer) (s := s) (H := H) (E := E)
    exact (bd_one (sd_ret [0, 1] (ed_call hrX lkX c_law_mix (ad_cons (ed_bin op_modD (ed_call hrX lkX c_law_raw (ad_cons (ed_var 0) (ad_cons (ed_var 1) ad_nil))) ed_int) (ad_cons (ed_bin op_addD (ed_var 1) ed_int) ad_nil)))))
noncomputable abbrev s_law_great : Stmt := top 26
theorem sc_law_great : FnScope ["_law_cell_here"] ["_law_cell_here"] (defScope s_law_great) := ⟨rfl, rfl, rfl, by decide +kernel, rfl, by decide +kernel, by decide +kernel⟩
theorem ok_law_great {f : Addr} {fd : FuncData} (F : Fun K "_law_great" "_law_great" s_law_great f fd) (c_law_mix : FnD P w K mg base true "_law_mix" 1 ["_law_cell_here", "_law_k"] F_law_mix) : FnX P w K mg base true 2 f fd ["_law_cell_here"] (spX K 1 F_law_great) :=
  fn_D (c := true) (k := 1) F sc_law_great fun cdv A outer s H E hr => by
    have nd := sc_law_great.nd
    have hcalm : (cxN true P w K mg base ["_law_cell_here"] "_law_great" (defScope s_law_great) f cdv A outer s H E).calm = true := rfl
    have hrX : RoomC true 1 (Cx.A (cxN true P w K mg base ["_law_cell_here"] "_law_great" (defScope s_law_great) f cdv A outer s H E)) := hr
    have hu := RoomC.units hrX
    have lkX := lk_def (c := true) (P := P) (w := w) (K := K) (mg := mg) (base := base) (N := ["_law_cell_here"]) (qual := "_law_great") (scope := defScope s_law_great) (f := f) (cd := cdv) (A := A) (outer := outer) (s := s) (H := H) (E := E)
    exact (bd_one (sd_ret [0] (ed_bin op_addD (ed_bin op_mulI (ed_bin op_addD (ed_bin op_mulI (ed_call hrX lkX c_law_mix (ad_cons (ed_var 0) (ad_cons ed_int ad_nil))) ed_int) (ed_call hrX lkX c_law_mix (ad_cons (ed_var 0) (ad_cons ed_int ad_nil)))) ed_int) (ed_call hrX lkX c_law_mix (ad_cons (ed_var 0) (ad_cons ed_int ad_nil))))))
noncomputable abbrev s_law_cells : Stmt := top 27
theorem sc_law_cells : FnScope ["_law_script", "_law_start", "_law_most", "_law_cells_here", "_law_many"] ["_law_script", "_law_start", "_law_most"] (defScope s_law_cells) := ⟨rfl, rfl, rfl, by decide +kernel, rfl, by decide +kernel, by decide +kernel⟩
theorem ok_law_cells {f : Addr} {fd : FuncData} (F : Fun K "_law_cells" "_law_cells" s_law_cells f fd) (c_law_raw : FnD P w K mg base true "_law_raw" 1 ["_law_script", "_law_k"] F_law_raw) (c_law_cell : FnD P w K mg base true "_law_cell" 2 ["_law_script", "_law_k"] F_law_cell) (c_law_great : FnD P w K mg base true "_law_great" 2 ["_law_cell_here"] F_law_great) (c_law_mix : FnD P w K mg base true "_law_mix" 1 ["_law_cell_here", "_law_k"] F_law_mix) (m_max : mg "max" = none) (m_len : mg "len" = none) (m_range : mg "range" = none) (m_min : mg "min" = none) : FnX P w K mg base true 3 f fd ["_law_script", "_law_start", "_law_most"] (spX K 3 F_law_cells) :=
  fn_D (c := true) (k := 2) F sc_law_cells fun cdv A outer s H E hr => by
    have nd := sc_law_cells.nd
    have hcalm : (cxN true P w K mg base ["_law_script", "_law_start", "_law_most", "_law_cells_here", "_law_many"] "_law_cells" (defScope s_law_cells) f cdv A outer s H E).calm = true := rfl
    have hrX : RoomC true 2 (Cx.A (cxN true P w K mg base ["_law_script", "_law_start", "_law_most", "_law_cells_here", "_law_many"] "_law_cells" (defScope s_law_cells) f cdv A outer s H E)) := hr
    have hu := RoomC.units hrX
    have lkX := lk_def (c := true) (P := P) (w := w) (K := K) (mg := mg) (base := base) (N := ["_law_script", "_law_start", "_law_most", "_law_cells_here", "_law_many"]) (qual := "_law_cells") (scope := defScope s_law_cells) (f := f) (cd := cdv) (A := A) (outer := outer) (s := s) (H := H) (E := E)
    exact (bd_cons (sd_set (i := 3) [0, 1] (ed_callB (call_maxD hcalm) rfl m_max PyProof.Rows.boot_max (ad_cons ed_int (ad_cons (ed_bin op_subD (ed_callB call_lenD3 rfl m_len PySem.boot_len (ad_cons (ed_var 0) ad_nil)) (ed_var 1)) ad_nil))) nd)
    (bd_cons (sd_if [0] (td_cmp (op_eqD hu) (ed_bin op_modD (ed_call hrX lkX c_law_raw (ad_cons (ed_var 0) (ad_cons ed_int ad_nil))) ed_int) ed_int (nomark _))
      (bd_one (sd_ret [0, 1, 2, 3] (ed_comp (N' := ["_law_script", "_law_start", "_law_most", "_law_cells_here", "_law_many", "_law_k"]) hcalm (id_range1 m_range (ad_cons (ed_callB (call_minD (calm_nox hcalm)) rfl m_min PyProof.Rows.boot_min (ad_cons (ed_var 2) (ad_cons (ed_var 3) ad_nil))) ad_nil)) rfl (by kernel_rfl) rfl (fun C s0 H0 fp pn => ⟨(gc_name (i := 5) (show List.Nodup [("_law_script" : Str), ("_law_start" : Str), ("_law_most" : Str), ("_law_cells_here" : Str), ("_law_many" : Str), ("_law_k" : Str)] from by decide +kernel)), ct_nil, (ed_call (room_comp hrX) lk_none c_law_raw (ad_cons (ed_var 0) (ad_cons (ed_bin op_addD (ed_var 1) (ed_var 5)) ad_nil)))⟩))))
      bd_nil)
    (bd_cons (sd_set (i := 4) [0, 2, 3] (ed_callB (call_minD hcalm) rfl m_min PyProof.Rows.boot_min (ad_cons (ed_var 2) (ad_cons (ed_callB (call_maxD hcalm) rfl m_max PyProof.Rows.boot_max (ad_cons (ed_var 3) (ad_cons (ed_bin op_addD ed_int (ed_bin op_modD (ed_call hrX lkX c_law_cell (ad_cons (ed_var 0) (ad_cons ed_int ad_nil))) (ed_var 2))) ad_nil))) ad_nil))) nd)
    (bd_one (sd_ret [0, 1, 3, 4] (ed_comp (N' := ["_law_script", "_law_start", "_law_most", "_law_cells_here", "_law_many", "_law_k"]) hcalm (id_range1 m_range (ad_cons (ed_var 4) ad_nil)) rfl (by kernel_rfl) rfl (fun C s0 H0 fp pn => ⟨(gc_name (i := 5) (show List.Nodup [("_law_script" : Str), ("_law_start" : Str), ("_law_most" : Str), ("_law_cells_here" : Str), ("_law_many" : Str), ("_law_k" : Str)] from by decide +kernel)), ct_nil, (ed_call (room_comp hrX) lk_none c_law_great (ad_cons (ed_call (room_comp hrX) lk_none c_law_mix (ad_cons (ed_call (room_comp hrX) lk_none c_law_cell (ad_cons (ed_var 0) (ad_cons (ed_bin op_addD (ed_var 1) (ed_bin op_modD (ed_var 5) (ed_callB (call_maxD (calm_comp hcalm)) rfl m_max PyProof.Rows.boot_max (ad_cons ed_int (ad_cons (ed_var 3) ad_nil))))) ad_nil))) (ad_cons (ed_var 5) ad_nil))) ad_nil))⟩)))))))
noncomputable abbrev s_law_bits : Stmt := top 29
theorem sc_law_bits : FnScope ["_law_number", "_law_width_here", "_law_found", "_law_k"] ["_law_number", "_law_width_here"] (defScope s_law_bits) := ⟨rfl, rfl, rfl, by decide +kernel, rfl, by decide +kernel, by decide +kernel⟩
theorem ok_law_bits {f : Addr} {fd : FuncData} (F : Fun K "_law_bits" "_law_bits" s_law_bits f fd) (m_range : mg "range" = none) : FnX P w K mg base true 1 f fd ["_law_number", "_law_width_here"] (spX K 2 F_law_bits) :=
  fn_D (c := true) (k := 0) F sc_law_bits fun cdv A outer s H E hr => by
    have nd := sc_law_bits.nd
    have hcalm : (cxN true P w K mg base ["_law_number", "_law_width_here", "_law_found", "_law_k"] "_law_bits" (defScope s_law_bits) f cdv A outer s H E).calm = true := rfl
    have hrX : RoomC true 0 (Cx.A (cxN true P w K mg base ["_law_number", "_law_width_here", "_law_found", "_law_k"] "_law_bits" (defScope s_law_bits) f cdv A outer s H E)) := hr
    have hu := RoomC.units hrX
    have lkX := lk_def (c := true) (P := P) (w := w) (K := K) (mg := mg) (base := base) (N := ["_law_number", "_law_width_here", "_law_found", "_law_k"]) (qual := "_law_bits") (scope := defScope s_law_bits) (f := f) (cd := cdv) (A := A) (outer := outer) (s := s) (H := H) (E := E)
    exact (bd_cons (sd_set (i := 2) [] ed_str nd)
    (bd_cons (sd_for [1] passes_def hcalm (id_range1 m_range (ad_cons (ed_var 1) ad_nil)) (gd_name (i := 3) nd)
      (bd_cons (sd_set (i := 2) [0, 2] (ed_bin op_addD (ed_ix ed_str (ed_bin op_modD (ed_var 0) ed_int)) (ed_var 2)) nd)
    (bd_one (sd_set (i := 0) [0] (ed_bin op_divD (ed_var 0) ed_int) nd))))
    (bd_one (sd_retV 2))))
noncomputable abbrev s_law_spoiled : Stmt := top 31
theorem sc_law_spoiled : FnScope ["_law_numbers", "_law_width_here", "_law_cell_here", "_law_most", "_law_k", "_law_step", "_law_far"] ["_law_numbers", "_law_width_here", "_law_cell_here"] (defScope s_law_spoiled) := ⟨rfl, rfl, rfl, by decide +kernel, rfl, by decide +kernel, by decide +kernel⟩
theorem ok_law_spoiled {f : Addr} {fd : FuncData} (F : Fun K "_law_spoiled" "_law_spoiled" s_law_spoiled f fd) (c_law_mix : FnD P w K mg base true "_law_mix" 1 ["_law_cell_here", "_law_k"] F_law_mix) (m_list : mg "list" = none) (m_range : mg "range" = none) (m_len : mg "len" = none) : FnX P w K mg base true 2 f fd ["_law_numbers", "_law_width_here", "_law_cell_here"] (spX K 3 F_law_spoiled) :=
  fn_D (c := true) (k := 1) F sc_law_spoiled fun cdv A outer s H E hr => by
    have nd := sc_law_spoiled.nd
    have hcalm : (cxN true P w K mg base ["_law_numbers", "_law_width_here", "_law_cell_here", "_law_most", "_law_k", "_law_step", "_law_far"] "_law_spoiled" (defScope s_law_spoiled) f cdv A outer s H E).calm = true := rfl
    have hrX : RoomC true 1 (Cx.A (cxN true P w K mg base ["_law_numbers", "_law_width_here", "_law_cell_here", "_law_most", "_law_k", "_law_step", "_law_far"] "_law_spoiled" (defScope s_law_spoiled) f cdv A outer s H E)) := hr
    have hu := RoomC.units hrX
    have lkX := lk_def (c := true) (P := P) (w := w) (K := K) (mg := mg) (base := base) (N := ["_law_numbers", "_law_width_here", "_law_cell_here", "_law_most", "_law_k", "_law_step", "_law_far"]) (qual := "_law_spoiled") (scope := defScope s_law_spoiled) (f := f) (cd := cdv) (A := A) (outer := outer) (s := s) (H := H) (E := E)
    exact (bd_cons (sd_set (i := 3) [1] (ed_bin op_shlD ed_int (ed_var 1)) nd)
    (bd_cons (sd_set (i := 0) [0] (ed_callTy call_listOf rfl m_list PyProof.Rows.boot_list (ad_cons (ed_var 0) ad_nil)) nd)
    (bd_cons (sd_for [2] passes_def hcalm (id_range1 m_range (ad_cons (ed_bin op_addD ed_int (ed_bin op_modD (ed_var 2) ed_int)) ad_nil)) (gd_name (i := 4) nd)
      (bd_cons (sd_set (i := 5) [2, 4] (ed_call hrX lkX c_law_mix (ad_cons (ed_bin op_modD (ed_var 2) ed_int) (ad_cons (ed_bin op_addD ed_int (ed_var 4)) ad_nil))) nd)
    (bd_cons (sd_set (i := 6) [5] (ed_ix (ed_lst (ad_cons ed_int (ad_cons (ed_bin op_addD ed_int (ed_bin op_modD (ed_bin op_divD (ed_var 5) ed_int) ed_int)) (ad_cons (ed_bin op_addD (ed_bin op_powD ed_int ed_int) (ed_var 5)) ad_nil)))) (ed_bin op_modD (ed_bin op_divD (ed_var 5) ed_int) ed_int)) nd)
    (bd_one (sd_setI (i := 0) (ed_ix (ed_lst (ad_cons (ed_bin op_subD ed_int (ed_var 6)) (ad_cons (ed_bin op_addD (ed_bin op_subD (ed_var 3) ed_int) (ed_var 6)) ad_nil))) (ed_bin op_modD (ed_bin op_divD (ed_var 5) ed_int) ed_int)) (ed_bin op_modD (ed_var 5) (ed_callB call_lenD3 rfl m_len PySem.boot_len (ad_cons (ed_var 0) ad_nil))))))))
    (bd_one (sd_retV 0)))))
noncomputable abbrev s_two_to : Stmt := top 15
theorem sc_two_to : FnScope ["width", "power", "turn"] ["width"] (defScope s_two_to) := ⟨rfl, rfl, rfl, by decide +kernel, rfl, by decide +kernel, by decide +kernel⟩
theorem ok_two_to {f : Addr} {fd : FuncData} (F : Fun K "two_to" "two_to" s_two_to f fd) (m_range : mg "range" = none) : FnX P w K mg base true 1 f fd ["width"] (spX K 1 F_two_to) :=
  fn_D (c := true) (k := 0) F sc_two_to fun cdv A outer s H E hr => by
    have nd := sc_two_to.nd
    have hcalm : (cxN true P w K mg base ["width", "power", "turn"] "two_to" (defScope s_two_to) f cdv A outer s H E).calm = true := rfl
    have hrX : RoomC true 0 (Cx.A (cxN true P w K mg base ["width", "power", "turn"] "two_to" (defScope s_two_to) f cdv A outer s H E)) := hr
    have hu := RoomC.units hrX
    have lkX := lk_def (c := true) (P := P) (w := w) (K := K) (mg := mg) (base := base) (N := ["width", "power", "turn"]) (qual := "two_to") (scope := defScope s_two_to) (f := f) (cd := cdv) (A := A) (outer := outer) (s := s) (H := H) (E := E)
    exact (bd_cons (sd_set (i := 1) [] ed_int nd)
    (bd_cons (sd_for [0] passes_def hcalm (id_range1 m_range (ad_cons (ed_var 0) ad_nil)) (gd_name (i := 2) nd)
      (bd_one (sd_set (i := 1) [1] (ed_bin op_mulI (ed_var 1) ed_int) nd)))
    (bd_one (sd_retV 1))))
noncomputable abbrev s_is_below : Stmt := top 14
theorem sc_is_below : FnScope ["number", "limit"] ["number", "limit"] (defScope s_is_below) := ⟨rfl, rfl, rfl, by decide +kernel, rfl, by decide +kernel, by decide +kernel⟩
theorem ok_is_below {f : Addr} {fd : FuncData} (F : Fun K "is_below" "is_below" s_is_below f fd) (m_isinstance : mg "isinstance" = none) (m_bool : mg "bool" = none) (kit_bool : KitT K "bool") : FnX P w K mg base true 1 f fd ["number", "limit"] (spX K 2 F_is_below) :=
  fn_D (c := true) (k := 0) F sc_is_below fun cdv A outer s H E hr => by
    have nd := sc_is_below.nd
    have hcalm : (cxN true P w K mg base ["number", "limit"] "is_below" (defScope s_is_below) f cdv A outer s H E).calm = true := rfl
    have hrX : RoomC true 0 (Cx.A (cxN true P w K mg base ["number", "limit"] "is_below" (defScope s_is_below) f cdv A outer s H E)) := hr
    have hu := RoomC.units hrX
    have lkX := lk_def (c := true) (P := P) (w := w) (K := K) (mg := mg) (base := base) (N := ["number", "limit"]) (qual := "is_below") (scope := defScope s_is_below) (f := f) (cd := cdv) (A := A) (outer := outer) (s := s) (H := H) (E := E)
    exact (bd_one (sd_ret [0, 1] (ed_and (ed_not (ed_isT kit_bool (ed_var 0) m_isinstance m_bool L3.boot_bool)) (ed_one (ed_chain op_leD op_ltD ed_int (ed_var 0) (ed_var 1))))))
noncomputable abbrev s_number_written : Stmt := top 16
theorem sc_number_written : FnScope ["number", "width", "signs", "rest", "turn"] ["number", "width"] (defScope s_number_written) := ⟨rfl, rfl, rfl, by decide +kernel, rfl, by decide +kernel, by decide +kernel⟩
theorem ok_number_written {f : Addr} {fd : FuncData} (F : Fun K "number_written" "number_written" s_number_written f fd) (m_range : mg "range" = none) (m_str : mg "str" = none) : FnX P w K mg base true 1 f fd ["number", "width"] (spX K 2 F_number_written) :=
  fn_D (c := true) (k := 0) F sc_number_written fun cdv A outer s H E hr => by
    have nd := sc_number_written.nd
    have hcalm : (cxN true P w K mg base ["number", "width", "signs", "rest", "turn"] "number_written" (defScope s_number_written) f cdv A outer s H E).calm = true := rfl
    have hrX : RoomC true 0 (Cx.A (cxN true P w K mg base ["number", "width", "signs", "rest", "turn"] "number_written" (defScope s_number_written) f cdv A outer s H E)) := hr
    have hu := RoomC.units hrX
    have lkX := lk_def (c := true) (P := P) (w := w) (K := K) (mg := mg) (base := base) (N := ["number", "width", "signs", "rest", "turn"]) (qual := "number_written") (scope := defScope s_number_written) (f := f) (cd := cdv) (A := A) (outer := outer) (s := s) (H := H) (E := E)
    exact (bd_cons (sd_set (i := 2) [] ed_str nd)
    (bd_cons (sd_set (i := 3) [0] (ed_var 0) nd)
    (bd_cons (sd_for [1] passes_def hcalm (id_range1 m_range (ad_cons (ed_var 1) ad_nil)) (gd_name (i := 4) nd)
      (bd_cons (sd_set (i := 2) [2, 3] (ed_bin op_addD (ed_callTy call_strOf rfl m_str PyProof.Rows.boot_str (ad_cons (ed_bin op_modD (ed_var 3) ed_int) ad_nil)) (ed_var 2)) nd)
    (bd_one (sd_set (i := 3) [3] (ed_bin op_divD (ed_var 3) ed_int) nd))))
    (bd_one (sd_retV 2)))))
noncomputable abbrev s_written : Stmt := top 17
theorem sc_written : FnScope ["numbers", "width", "limit", "place", "number"] ["numbers", "width"] (defScope s_written) := ⟨rfl, rfl, rfl, by decide +kernel, rfl, by decide +kernel, by decide +kernel⟩
theorem ok_written {f : Addr} {fd : FuncData} (F : Fun K "written" "written" s_written f fd) (c_two_to : FnD P w K mg base true "two_to" 1 ["width"] F_two_to) (c_is_below : FnD P w K mg base true "is_below" 1 ["number", "limit"] F_is_below) (c_number_written : FnD P w K mg base true "number_written" 1 ["number", "width"] F_number_written) (m_enumerate : mg "enumerate" = none) {C_NoBits : Addr} (x_NoBits : XC P w K mg base "NoBits" "at" C_NoBits) : FnX P w K mg base true 3 f fd ["numbers", "width"] (spX K 2 F_written) :=
  fn_D (c := true) (k := 2) F sc_written fun cdv A outer s H E hr => by
    have nd := sc_written.nd
    have hcalm : (cxN true P w K mg base ["numbers", "width", "limit", "place", "number"] "written" (defScope s_written) f cdv A outer s H E).calm = true := rfl
    have hrX : RoomC true 2 (Cx.A (cxN true P w K mg base ["numbers", "width", "limit", "place", "number"] "written" (defScope s_written) f cdv A outer s H E)) := hr
    have hu := RoomC.units hrX
    have lkX := lk_def (c := true) (P := P) (w := w) (K := K) (mg := mg) (base := base) (N := ["numbers", "width", "limit", "place", "number"]) (qual := "written") (scope := defScope s_written) (f := f) (cd := cdv) (A := A) (outer := outer) (s := s) (H := H) (E := E)
    exact (bd_cons (sd_set (i := 2) [1] (ed_call hrX lkX c_two_to (ad_cons (ed_var 1) ad_nil)) nd)
    (bd_cons (sd_for [0] passes_def hcalm (id_enum m_enumerate (ed_var 0)) (gd_two (i := 3) (j := 4) hcalm nd)
      (bd_one (sd_if [2, 4] (td_not (td_truth (ed_call hrX lkX c_is_below (ad_cons (ed_var 4) (ad_cons (ed_var 2) ad_nil)))))
      (bd_one (sd_raise [3] x_NoBits (RoomC.mono hrX (by decide)) lk1_def (ed_var 3)))
      bd_nil)))
    (bd_one (sd_ret [0, 1] (ed_meth PySem.F.plainAttrs_str PySem.F.slot_str_join PySem.F.type_str_join mt_joinS ed_str (ad_cons (ed_comp (N' := ["numbers", "width", "limit", "place", "?4", "number"]) hcalm (id_of (ed_var 0)) rfl (by kernel_rfl) rfl (fun C s0 H0 fp pn => ⟨(gc_name (i := 5) (show List.Nodup [("numbers" : Str), ("width" : Str), ("limit" : Str), ("place" : Str), ("?4" : Str), ("number" : Str)] from by decide +kernel)), ct_nil, (ed_call (room_comp hrX) lk_none c_number_written (ad_cons (ed_var 5) (ad_cons (ed_var 1) ad_nil)))⟩)) ad_nil))))))
noncomputable abbrev s_law_alone : Stmt := top 30
theorem sc_law_alone : FnScope ["_law_error"] ["_law_error"] (defScope s_law_alone) := ⟨rfl, rfl, rfl, by decide +kernel, rfl, by decide +kernel, by decide +kernel⟩
theorem ok_law_alone {f : Addr} {fd : FuncData} (F : Fun K "_law_alone" "_law_alone" s_law_alone f fd) (m_isinstance : mg "isinstance" = none) (m_ValueError : mg "ValueError" = none) {C_LodgeError : Addr} {C_NoEdges : Addr} {C_NoFit : Addr} {C_NoKey : Addr} {C_NoKeys : Addr} {C_NoRange : Addr} {C_NoSuch : Addr} {C_NoTry : Addr} {C_NoValue : Addr} {C_Stuck : Addr} {C_Twice : Addr} (gx_LodgeError : mg "LodgeError" = some (.ref C_LodgeError)) (gx_NoEdges : mg "NoEdges" = some (.ref C_NoEdges)) (gx_NoFit : mg "NoFit" = some (.ref C_NoFit)) (gx_NoKey : mg "NoKey" = some (.ref C_NoKey)) (gx_NoKeys : mg "NoKeys" = some (.ref C_NoKeys)) (gx_NoRange : mg "NoRange" = some (.ref C_NoRange)) (gx_NoSuch : mg "NoSuch" = some (.ref C_NoSuch)) (gx_NoTry : mg "NoTry" = some (.ref C_NoTry)) (gx_NoValue : mg "NoValue" = some (.ref C_NoValue)) (gx_Stuck : mg "Stuck" = some (.ref C_Stuck)) (gx_Twice : mg "Twice" = some (.ref C_Twice)) (is_LodgeError : IsOne K (.ref C_LodgeError) [("NoBits", true)]) (isb_ValueError : IsOne K (.type "ValueError") [("NoBits", true)]) (ist_NoEdges_NoFit_NoKey_NoKeys_NoRange : IsAny K [C_NoEdges, C_NoFit, C_NoKey, C_NoKeys, C_NoRange] [("NoBits", false)]) (ist_NoSuch_NoTry : IsAny K [C_NoSuch, C_NoTry] [("NoBits", false)]) (ist_NoValue_Stuck_Twice : IsAny K [C_NoValue, C_Stuck, C_Twice] [("NoBits", false)]) : FnX P w K mg base false 1 f fd ["_law_error"] (spX K 1 F_law_alone) :=
  fn_D (c := false) (k := 0) F sc_law_alone fun cdv A outer s H E hr => by
    have nd := sc_law_alone.nd
    have hcalm : (cxN false P w K mg base ["_law_error"] "_law_alone" (defScope s_law_alone) f cdv A outer s H E).calm = false := rfl
    have hrX : RoomC false 0 (Cx.A (cxN false P w K mg base ["_law_error"] "_law_alone" (defScope s_law_alone) f cdv A outer s H E)) := hr
    have hu := RoomC.units hrX
    have lkX := lk_def (c := false) (P := P) (w := w) (K := K) (mg := mg) (base := base) (N := ["_law_error"]) (qual := "_law_alone") (scope := defScope s_law_alone) (f := f) (cd := cdv) (A := A) (outer := outer) (s := s) (H := H) (E := E)
    exact (bd_cons (sd_if [0] (td_w (tw_or (td_not (td_truth (ed_isC is_LodgeError (ed_var 0) m_isinstance gx_LodgeError))) (tw_or1 (td_not (td_truth (ed_isB isb_ValueError (ed_var 0) m_isinstance m_ValueError L3.boot_ValueError))))))
      (bd_one (sd_ret [] ed_bl))
      bd_nil)
    (bd_cons (sd_if [0] (td_truth (ed_isTup ist_NoEdges_NoFit_NoKey_NoKeys_NoRange (ed_var 0) m_isinstance (pa_rcons gx_NoEdges (pa_rcons gx_NoFit (pa_rcons gx_NoKey (pa_rcons gx_NoKeys (pa_rcons gx_NoRange pa_rnil)))))))
      (bd_one (sd_ret [] ed_bl))
      bd_nil)
    (bd_cons (sd_if [0] (td_truth (ed_isTup ist_NoSuch_NoTry (ed_var 0) m_isinstance (pa_rcons gx_NoSuch (pa_rcons gx_NoTry pa_rnil))))
      (bd_one (sd_ret [] ed_bl))
      bd_nil)
    (bd_one (sd_ret [0] (ed_not (ed_isTup ist_NoValue_Stuck_Twice (ed_var 0) m_isinstance (pa_rcons gx_NoValue (pa_rcons gx_Stuck (pa_rcons gx_Twice pa_rnil))))))))))
noncomputable abbrev s_law_write : Stmt := top 34
theorem sc_law_write : FnScope ["_law_numbers", "_law_width_here", "_law_handed", "_law_told", "_law_error"] ["_law_numbers", "_law_width_here"] (defScope s_law_write) := ⟨rfl, rfl, rfl, by decide +kernel, rfl, by decide +kernel, by decide +kernel⟩
theorem ok_law_write {f : Addr} {fd : FuncData} (F : Fun K "_law_write" "_law_write" s_law_write f fd) (c_written : FnD P w K mg base true "written" 3 ["numbers", "width"] F_written) (c_law_alone : FnD P w K mg base false "_law_alone" 1 ["_law_error"] F_law_alone) (m_list : mg "list" = none) (m_isinstance : mg "isinstance" = none) (m_bool : mg "bool" = none) (kit_bool : KitT K "bool") {C_NoBits : Addr} (gx_NoBits : mg "NoBits" = some (.ref C_NoBits)) (ct_NoBits : Catches K C_NoBits [("NoBits", true)]) (xg_at : XGets K ["NoBits"] "at") : FnX P w K mg base true 4 f fd ["_law_numbers", "_law_width_here"] (spX K 2 F_law_write) :=
  fn_D (c := true) (k := 3) F sc_law_write fun cdv A outer s H E hr => by
    have nd := sc_law_write.nd
    have hcalm : (cxN true P w K mg base ["_law_numbers", "_law_width_here", "_law_handed", "_law_told", "_law_error"] "_law_write" (defScope s_law_write) f cdv A outer s H E).calm = true := rfl
    have hrX : RoomC true 3 (Cx.A (cxN true P w K mg base ["_law_numbers", "_law_width_here", "_law_handed", "_law_told", "_law_error"] "_law_write" (defScope s_law_write) f cdv A outer s H E)) := hr
    have hu := RoomC.units hrX
    have lkX := lk_def (c := true) (P := P) (w := w) (K := K) (mg := mg) (base := base) (N := ["_law_numbers", "_law_width_here", "_law_handed", "_law_told", "_law_error"]) (qual := "_law_write") (scope := defScope s_law_write) (f := f) (cd := cdv) (A := A) (outer := outer) (s := s) (H := H) (E := E)
    exact (bd_cons (sd_set (i := 2) [0] (ed_callTy call_listOf rfl m_list PyProof.Rows.boot_list (ad_cons (ed_var 0) ad_nil)) nd)
    (bd_cons (sd_set (i := 3) [] ed_non nd)
    (bd_cons (sd_try (i := 4) nd rfl rfl gx_NoBits ct_NoBits (fun pins W EXB lkB => (bd_one (sd_expr [1, 2] (ed_call (room_try hrX) lkB c_written (ad_cons (ed_var 2) (ad_cons (ed_var 1) ad_nil)))))) (fun e => (bd_one (sd_set (i := 3) [4] (ed_lst (ad_cons (ed_attr xg_at (ed_var 4)) (ad_cons (ed_and (ed_call (room_hand hrX) lk_none c_law_alone (ad_cons (ed_var 4) ad_nil)) (ed_one (ed_not (ed_isT kit_bool (ed_attr xg_at (ed_var 4)) m_isinstance m_bool L3.boot_bool)))) ad_nil))) nd))))
    (bd_cons (sd_if [0, 2] (td_cmp (op_neD hu) (ed_var 2) (ed_var 0) (nomark _))
      (bd_one (sd_ret [] ed_str))
      bd_nil)
    (bd_one (sd_retV 3))))))
noncomputable abbrev s_law_spoiled_row : Stmt := top 32
theorem sc_law_spoiled_row : FnScope ["_law_row", "_law_width_here", "_law_cell_here", "_law_form", "_law_more", "_law_k", "_law_step", "_law_at"] ["_law_row", "_law_width_here", "_law_cell_here"] (defScope s_law_spoiled_row) := ⟨rfl, rfl, rfl, by decide +kernel, rfl, by decide +kernel, by decide +kernel⟩
theorem ok_law_spoiled_row {f : Addr} {fd : FuncData} (F : Fun K "_law_spoiled_row" "_law_spoiled_row" s_law_spoiled_row f fd) (c_law_mix : FnD P w K mg base true "_law_mix" 1 ["_law_cell_here", "_law_k"] F_law_mix) (m_min : mg "min" = none) (m_len : mg "len" = none) (m_range : mg "range" = none) : FnX P w K mg base true 2 f fd ["_law_row", "_law_width_here", "_law_cell_here"] (spX K 3 F_law_spoiled_row) :=
  fn_D (c := true) (k := 1) F sc_law_spoiled_row fun cdv A outer s H E hr => by
    have nd := sc_law_spoiled_row.nd
    have hcalm : (cxN true P w K mg base ["_law_row", "_law_width_here", "_law_cell_here", "_law_form", "_law_more", "_law_k", "_law_step", "_law_at"] "_law_spoiled_row" (defScope s_law_spoiled_row) f cdv A outer s H E).calm = true := rfl
    have hrX : RoomC true 1 (Cx.A (cxN true P w K mg base ["_law_row", "_law_width_here", "_law_cell_here", "_law_form", "_law_more", "_law_k", "_law_step", "_law_at"] "_law_spoiled_row" (defScope s_law_spoiled_row) f cdv A outer s H E)) := hr
    have hu := RoomC.units hrX
    have lkX := lk_def (c := true) (P := P) (w := w) (K := K) (mg := mg) (base := base) (N := ["_law_row", "_law_width_here", "_law_cell_here", "_law_form", "_law_more", "_law_k", "_law_step", "_law_at"]) (qual := "_law_spoiled_row") (scope := defScope s_law_spoiled_row) (f := f) (cd := cdv) (A := A) (outer := outer) (s := s) (H := H) (E := E)
    exact (bd_cons (sd_set (i := 3) [2] (ed_bin op_modD (ed_var 2) ed_int) nd)
    (bd_cons (sd_if [3] (td_cmp op_gtD (ed_var 3) ed_int (nomark _))
      (bd_cons (sd_set (i := 4) [2] (ed_bin op_modD (ed_bin op_divD (ed_var 2) ed_int) ed_int) nd)
    (bd_one (sd_if [2] (td_cmp (op_eqD hu) (ed_bin op_modD (ed_bin op_divD (ed_var 2) ed_int) ed_int) ed_int (nomark _))
      (bd_one (sd_set (i := 0) [0, 4] (ed_bin op_addD (ed_var 0) (ed_slice (ed_bin op_mulS ed_str ed_int) od_none (od_some (ed_var 4)))) nd))
      (bd_one (sd_set (i := 0) [0, 4] (ed_slice (ed_var 0) (od_some (ed_callB (call_minD hcalm) rfl m_min PyProof.Rows.boot_min (ad_cons (ed_var 4) (ad_cons (ed_callB call_lenD3 rfl m_len PySem.boot_len (ad_cons (ed_var 0) ad_nil)) ad_nil)))) od_none) nd)))))
      bd_nil)
    (bd_cons (sd_if [0, 3] (td_w (tw_and (td_cmp op_ltD (ed_var 3) ed_int (nomark _)) (tw_and1 (td_cmp (op_neD hu) (ed_var 0) ed_str (nomark _)))))
      (bd_one (sd_for [2] passes_def hcalm (id_range1 m_range (ad_cons (ed_bin op_addD ed_int (ed_bin op_modD (ed_bin op_divD (ed_var 2) ed_int) ed_int)) ad_nil)) (gd_name (i := 5) nd)
      (bd_cons (sd_set (i := 6) [2, 5] (ed_call hrX lkX c_law_mix (ad_cons (ed_bin op_modD (ed_var 2) ed_int) (ad_cons (ed_bin op_addD ed_int (ed_var 5)) ad_nil))) nd)
    (bd_cons (sd_set (i := 7) [0, 6] (ed_bin op_modD (ed_var 6) (ed_callB call_lenD3 rfl m_len PySem.boot_len (ad_cons (ed_var 0) ad_nil))) nd)
    (bd_one (sd_set (i := 0) [0, 6, 7] (ed_bin op_addD (ed_bin op_addD (ed_slice (ed_var 0) od_none (od_some (ed_var 7))) (ed_ix ed_str (ed_bin op_modD (ed_bin op_divD (ed_var 6) ed_int) ed_int))) (ed_slice (ed_var 0) (od_some (ed_bin op_addD (ed_var 7) ed_int)) od_none)) nd))))))
      bd_nil)
    (bd_one (sd_retV 0)))))
noncomputable abbrev s_law_due : Stmt := top 33
theorem sc_law_due : FnScope ["_law_bits_here", "_law_width_here", "_law_at", "_law_sign"] ["_law_bits_here", "_law_width_here"] (defScope s_law_due) := ⟨rfl, rfl, rfl, by decide +kernel, rfl, by decide +kernel, by decide +kernel⟩
theorem ok_law_due {f : Addr} {fd : FuncData} (F : Fun K "_law_due" "_law_due" s_law_due f fd) (m_enumerate : mg "enumerate" = none) (m_len : mg "len" = none) : FnX P w K mg base true 1 f fd ["_law_bits_here", "_law_width_here"] (spX K 2 F_law_due) :=
  fn_D (c := true) (k := 0) F sc_law_due fun cdv A outer s H E hr => by
    have nd := sc_law_due.nd
    have hcalm : (cxN true P w K mg base ["_law_bits_here", "_law_width_here", "_law_at", "_law_sign"] "_law_due" (defScope s_law_due) f cdv A outer s H E).calm = true := rfl
    have hrX : RoomC true 0 (Cx.A (cxN true P w K mg base ["_law_bits_here", "_law_width_here", "_law_at", "_law_sign"] "_law_due" (defScope s_law_due) f cdv A outer s H E)) := hr
    have hu := RoomC.units hrX
    have lkX := lk_def (c := true) (P := P) (w := w) (K := K) (mg := mg) (base := base) (N := ["_law_bits_here", "_law_width_here", "_law_at", "_law_sign"]) (qual := "_law_due") (scope := defScope s_law_due) (f := f) (cd := cdv) (A := A) (outer := outer) (s := s) (H := H) (E := E)
    exact (bd_cons (sd_for [0] passes_def hcalm (id_enum m_enumerate (ed_var 0)) (gd_two (i := 2) (j := 3) hcalm nd)
      (bd_one (sd_if [3] (td_w (tw_and (td_cmp (op_neD hu) (ed_var 3) ed_str (nomark _)) (tw_and1 (td_cmp (op_neD hu) (ed_var 3) ed_str (nomark _)))))
      (bd_one (sd_retV 2))
      bd_nil)))
    (bd_cons (sd_if [0, 1] (td_cmp (op_neD hu) (ed_bin op_modD (ed_callB call_lenD3 rfl m_len PySem.boot_len (ad_cons (ed_var 0) ad_nil)) (ed_var 1)) ed_int (nomark _))
      (bd_one (sd_ret [0] (ed_callB call_lenD3 rfl m_len PySem.boot_len (ad_cons (ed_var 0) ad_nil))))
      bd_nil)
    (bd_one (sd_ret [] ed_non))))
noncomputable abbrev s_is_multiple : Stmt := top 18
theorem sc_is_multiple : FnScope ["length", "width"] ["length", "width"] (defScope s_is_multiple) := ⟨rfl, rfl, rfl, by decide +kernel, rfl, by decide +kernel, by decide +kernel⟩
theorem ok_is_multiple {f : Addr} {fd : FuncData} (F : Fun K "is_multiple" "is_multiple" s_is_multiple f fd) : FnX P w K mg base true 1 f fd ["length", "width"] (spX K 2 F_is_multiple) :=
  fn_D (c := true) (k := 0) F sc_is_multiple fun cdv A outer s H E hr => by
    have nd := sc_is_multiple.nd
    have hcalm : (cxN true P w K mg base ["length", "width"] "is_multiple" (defScope s_is_multiple) f cdv A outer s H E).calm = true := rfl
    have hrX : RoomC true 0 (Cx.A (cxN true P w K mg base ["length", "width"] "is_multiple" (defScope s_is_multiple) f cdv A outer s H E)) := hr
    have hu := RoomC.units hrX
    have lkX := lk_def (c := true) (P := P) (w := w) (K := K) (mg := mg) (base := base) (N := ["length", "width"]) (qual := "is_multiple") (scope := defScope s_is_multiple) (f := f) (cd := cdv) (A := A) (outer := outer) (s := s) (H := H) (E := E)
    exact (bd_cons (sd_if [1] (td_cmp op_ltD (ed_var 1) ed_int (nomark _))
      (bd_one (sd_ret [0] (ed_cmp (op_eqD hu) (ed_var 0) ed_int (nomark _))))
      bd_nil)
    (bd_one (sd_ret [0, 1] (ed_cmp (op_eqD hu) (ed_bin op_modD (ed_var 0) (ed_var 1)) ed_int (nomark _)))))
noncomputable abbrev s_look_bits : Stmt := top 19
theorem sc_look_bits : FnScope ["bits", "width", "place", "sign"] ["bits", "width"] (defScope s_look_bits) := ⟨rfl, rfl, rfl, by decide +kernel, rfl, by decide +kernel, by decide +kernel⟩
theorem ok_look_bits {f : Addr} {fd : FuncData} (F : Fun K "look_bits" "look_bits" s_look_bits f fd) (c_is_multiple : FnD P w K mg base true "is_multiple" 1 ["length", "width"] F_is_multiple) (m_enumerate : mg "enumerate" = none) (m_len : mg "len" = none) {C_NoBits : Addr} (x_NoBits : XC P w K mg base "NoBits" "at" C_NoBits) : FnX P w K mg base true 3 f fd ["bits", "width"] (spX K 2 F_look_bits) :=
  fn_D (c := true) (k := 2) F sc_look_bits fun cdv A outer s H E hr => by
    have nd := sc_look_bits.nd
    have hcalm : (cxN true P w K mg base ["bits", "width", "place", "sign"] "look_bits" (defScope s_look_bits) f cdv A outer s H E).calm = true := rfl
    have hrX : RoomC true 2 (Cx.A (cxN true P w K mg base ["bits", "width", "place", "sign"] "look_bits" (defScope s_look_bits) f cdv A outer s H E)) := hr
    have hu := RoomC.units hrX
    have lkX := lk_def (c := true) (P := P) (w := w) (K := K) (mg := mg) (base := base) (N := ["bits", "width", "place", "sign"]) (qual := "look_bits") (scope := defScope s_look_bits) (f := f) (cd := cdv) (A := A) (outer := outer) (s := s) (H := H) (E := E)
    exact (bd_cons (sd_for [0] passes_def hcalm (id_enum m_enumerate (ed_var 0)) (gd_two (i := 2) (j := 3) hcalm nd)
      (bd_one (sd_if [3] (td_w (tw_and (td_cmp (op_neD hu) (ed_var 3) ed_str (nomark _)) (tw_and1 (td_cmp (op_neD hu) (ed_var 3) ed_str (nomark _)))))
      (bd_one (sd_raise [2] x_NoBits (RoomC.mono hrX (by decide)) lk1_def (ed_var 2)))
      bd_nil)))
    (bd_one (sd_if [0, 1] (td_not (td_truth (ed_call hrX lkX c_is_multiple (ad_cons (ed_callB call_lenD3 rfl m_len PySem.boot_len (ad_cons (ed_var 0) ad_nil)) (ad_cons (ed_var 1) ad_nil)))))
      (bd_one (sd_raise [0] x_NoBits (RoomC.mono hrX (by decide)) lk1_def (ed_callB call_lenD3 rfl m_len PySem.boot_len (ad_cons (ed_var 0) ad_nil))))
      bd_nil)))
noncomputable abbrev s_number_read : Stmt := top 20
theorem sc_number_read : FnScope ["bits", "number", "sign"] ["bits"] (defScope s_number_read) := ⟨rfl, rfl, rfl, by decide +kernel, rfl, by decide +kernel, by decide +kernel⟩
theorem ok_number_read {f : Addr} {fd : FuncData} (F : Fun K "number_read" "number_read" s_number_read f fd) : FnX P w K mg base true 1 f fd ["bits"] (spX K 1 F_number_read) :=
  fn_D (c := true) (k := 0) F sc_number_read fun cdv A outer s H E hr => by
    have nd := sc_number_read.nd
    have hcalm : (cxN true P w K mg base ["bits", "number", "sign"] "number_read" (defScope s_number_read) f cdv A outer s H E).calm = true := rfl
    have hrX : RoomC true 0 (Cx.A (cxN true P w K mg base ["bits", "number", "sign"] "number_read" (defScope s_number_read) f cdv A outer s H E)) := hr
    have hu := RoomC.units hrX
    have lkX := lk_def (c := true) (P := P) (w := w) (K := K) (mg := mg) (base := base) (N := ["bits", "number", "sign"]) (qual := "number_read") (scope := defScope s_number_read) (f := f) (cd := cdv) (A := A) (outer := outer) (s := s) (H := H) (E := E)
    exact (bd_cons (sd_set (i := 1) [] ed_int nd)
    (bd_cons (sd_for [0] passes_def hcalm (id_of (ed_var 0)) (gd_name (i := 2) nd)
      (bd_one (sd_set (i := 1) [1, 2] (ed_bin op_addD (ed_bin op_mulI ed_int (ed_var 1)) (ed_if (td_cmp (op_eqD hu) (ed_var 2) ed_str (nomark _)) ed_int ed_int)) nd)))
    (bd_one (sd_retV 1))))
noncomputable abbrev s_read_bits : Stmt := top 21
theorem sc_read_bits : FnScope ["bits", "width", "numbers", "start"] ["bits", "width"] (defScope s_read_bits) := ⟨rfl, rfl, rfl, by decide +kernel, rfl, by decide +kernel, by decide +kernel⟩
theorem ok_read_bits {f : Addr} {fd : FuncData} (F : Fun K "read_bits" "read_bits" s_read_bits f fd) (c_look_bits : FnD P w K mg base true "look_bits" 3 ["bits", "width"] F_look_bits) (c_number_read : FnD P w K mg base true "number_read" 1 ["bits"] F_number_read) (m_len : mg "len" = none) : FnX P w K mg base true 4 f fd ["bits", "width"] (spX K 2 F_read_bits) :=
  fn_D (c := true) (k := 3) F sc_read_bits fun cdv A outer s H E hr => by
    have nd := sc_read_bits.nd
    have hcalm : (cxN true P w K mg base ["bits", "width", "numbers", "start"] "read_bits" (defScope s_read_bits) f cdv A outer s H E).calm = true := rfl
    have hrX : RoomC true 3 (Cx.A (cxN true P w K mg base ["bits", "width", "numbers", "start"] "read_bits" (defScope s_read_bits) f cdv A outer s H E)) := hr
    have hu := RoomC.units hrX
    have lkX := lk_def (c := true) (P := P) (w := w) (K := K) (mg := mg) (base := base) (N := ["bits", "width", "numbers", "start"]) (qual := "read_bits") (scope := defScope s_read_bits) (f := f) (cd := cdv) (A := A) (outer := outer) (s := s) (H := H) (E := E)
    exact (bd_cons (sd_expr [0, 1] (ed_call hrX lkX c_look_bits (ad_cons (ed_var 0) (ad_cons (ed_var 1) ad_nil))))
    (bd_cons (sd_set (i := 2) [] (ed_lst ad_nil) nd)
    (bd_cons (sd_set (i := 3) [] ed_int nd)
    (bd_cons (sd_while [0, 3] 3000 passes_def (td_cmp op_ltD (ed_var 3) (ed_callB call_lenD3 rfl m_len PySem.boot_len (ad_cons (ed_var 0) ad_nil)) (nomark _))
      (bd_cons (sd_app (i := 2) (ed_call hrX lkX c_number_read (ad_cons (ed_slice (ed_var 0) (od_some (ed_var 3)) (od_some (ed_bin op_addD (ed_var 3) (ed_var 1)))) ad_nil)))
    (bd_one (sd_set (i := 3) [1, 3] (ed_bin op_addD (ed_var 3) (ed_var 1)) nd))))
    (bd_one (sd_retV 2))))))
noncomputable abbrev s_law_read : Stmt := top 35
theorem sc_law_read : FnScope ["_law_bits_here", "_law_width_here", "_law_told", "_law_error"] ["_law_bits_here", "_law_width_here"] (defScope s_law_read) := ⟨rfl, rfl, rfl, by decide +kernel, rfl, by decide +kernel, by decide +kernel⟩
theorem ok_law_read {f : Addr} {fd : FuncData} (F : Fun K "_law_read" "_law_read" s_law_read f fd) (c_read_bits : FnD P w K mg base true "read_bits" 4 ["bits", "width"] F_read_bits) (c_law_alone : FnD P w K mg base false "_law_alone" 1 ["_law_error"] F_law_alone) (m_isinstance : mg "isinstance" = none) (m_bool : mg "bool" = none) (kit_bool : KitT K "bool") {C_NoBits : Addr} (gx_NoBits : mg "NoBits" = some (.ref C_NoBits)) (ct_NoBits : Catches K C_NoBits [("NoBits", true)]) (xg_at : XGets K ["NoBits"] "at") : FnX P w K mg base true 5 f fd ["_law_bits_here", "_law_width_here"] (spX K 2 F_law_read) :=
  fn_D (c := true) (k := 4) F sc_law_read fun cdv A outer s H E hr => by
    have nd := sc_law_read.nd
    have hcalm : (cxN true P w K mg base ["_law_bits_here", "_law_width_here", "_law_told", "_law_error"] "_law_read" (defScope s_law_read) f cdv A outer s H E).calm = true := rfl
    have hrX : RoomC true 4 (Cx.A (cxN true P w K mg base ["_law_bits_here", "_law_width_here", "_law_told", "_law_error"] "_law_read" (defScope s_law_read) f cdv A outer s H E)) := hr
    have hu := RoomC.units hrX
    have lkX := lk_def (c := true) (P := P) (w := w) (K := K) (mg := mg) (base := base) (N := ["_law_bits_here", "_law_width_here", "_law_told", "_law_error"]) (qual := "_law_read") (scope := defScope s_law_read) (f := f) (cd := cdv) (A := A) (outer := outer) (s := s) (H := H) (E := E)
    exact (bd_cons (sd_set (i := 2) [] ed_non nd)
    (bd_cons (sd_try (i := 3) nd rfl rfl gx_NoBits ct_NoBits (fun pins W EXB lkB => (bd_one (sd_expr [0, 1] (ed_call (room_try hrX) lkB c_read_bits (ad_cons (ed_var 0) (ad_cons (ed_var 1) ad_nil)))))) (fun e => (bd_one (sd_set (i := 2) [3] (ed_lst (ad_cons (ed_attr xg_at (ed_var 3)) (ad_cons (ed_and (ed_call (room_hand hrX) lk_none c_law_alone (ad_cons (ed_var 3) ad_nil)) (ed_one (ed_not (ed_isT kit_bool (ed_attr xg_at (ed_var 3)) m_isinstance m_bool L3.boot_bool)))) ad_nil))) nd))))
    (bd_one (sd_retV 2))))
noncomputable abbrev s_law : Stmt := top 36
theorem sc_law : FnScope ["_law_script", "_law_cell_here", "_law_width_here", "_law_numbers", "_law_bits_here", "_law_k", "_law_seed", "_law_bad", "_law_first", "_law_row", "_law_due_here", "_law_told"] ["_law_script"] (defScope s_law) := ⟨rfl, rfl, rfl, by decide +kernel, rfl, by decide +kernel, by decide +kernel⟩
theorem ok_law {f : Addr} {fd : FuncData} (F : Fun K "law" "law" s_law f fd) (c_law_raw : FnD P w K mg base true "_law_raw" 1 ["_law_script", "_law_k"] F_law_raw) (c_law_width : FnD P w K mg base true "_law_width" 1 ["_law_cell_here"] F_law_width) (c_law_cells : FnD P w K mg base true "_law_cells" 3 ["_law_script", "_law_start", "_law_most"] F_law_cells) (c_law_bits : FnD P w K mg base true "_law_bits" 1 ["_law_number", "_law_width_here"] F_law_bits) (c_law_mix : FnD P w K mg base true "_law_mix" 1 ["_law_cell_here", "_law_k"] F_law_mix) (c_law_cell : FnD P w K mg base true "_law_cell" 2 ["_law_script", "_law_k"] F_law_cell) (c_law_spoiled : FnD P w K mg base true "_law_spoiled" 2 ["_law_numbers", "_law_width_here", "_law_cell_here"] F_law_spoiled) (c_law_write : FnD P w K mg base true "_law_write" 4 ["_law_numbers", "_law_width_here"] F_law_write) (c_law_spoiled_row : FnD P w K mg base true "_law_spoiled_row" 2 ["_law_row", "_law_width_here", "_law_cell_here"] F_law_spoiled_row) (c_law_due : FnD P w K mg base true "_law_due" 1 ["_law_bits_here", "_law_width_here"] F_law_due) (c_law_read : FnD P w K mg base true "_law_read" 5 ["_law_bits_here", "_law_width_here"] F_law_read) (m_range : mg "range" = none) (m_enumerate : mg "enumerate" = none) (m_len : mg "len" = none) : FnX P w K mg base true 6 f fd ["_law_script"] (spX K 1 F_law) :=
  fn_D (c := true) (k := 5) F sc_law fun cdv A outer s H E hr => by
    have nd := sc_law.nd
    have hcalm : (cxN true P w K mg base ["_law_script", "_law_cell_here", "_law_width_here", "_law_numbers", "_law_bits_here", "_law_k", "_law_seed", "_law_bad", "_law_first", "_law_row", "_law_due_here", "_law_told"] "law" (defScope s_law) f cdv A outer s H E).calm = true := rfl
    have hrX : RoomC true 5 (Cx.A (cxN true P w K mg base ["_law_script", "_law_cell_here", "_law_width_here", "_law_numbers", "_law_bits_here", "_law_k", "_law_seed", "_law_bad", "_law_first", "_law_row", "_law_due_here", "_law_told"] "law" (defScope s_law) f cdv A outer s H E)) := hr
    have hu := RoomC.units hrX
    have lkX := lk_def (c := true) (P := P) (w := w) (K := K) (mg := mg) (base := base) (N := ["_law_script", "_law_cell_here", "_law_width_here", "_law_numbers", "_law_bits_here", "_law_k", "_law_seed", "_law_bad", "_law_first", "_law_row", "_law_due_here", "_law_told"]) (qual := "law") (scope := defScope s_law) (f := f) (cd := cdv) (A := A) (outer := outer) (s := s) (H := H) (E := E)
    exact (bd_cons (sd_set (i := 1) [0] (ed_call hrX lkX c_law_raw (ad_cons (ed_var 0) (ad_cons ed_int ad_nil))) nd)
    (bd_cons (sd_set (i := 2) [1] (ed_call hrX lkX c_law_width (ad_cons (ed_var 1) ad_nil)) nd)
    (bd_cons (sd_set (i := 3) [0, 2] (ed_bin op_addD (ed_comp (N' := ["_law_script", "_law_cell_here", "_law_width_here", "_law_numbers", "_law_bits_here", "_law_k", "_law_seed", "_law_bad", "_law_first", "_law_row", "_law_due_here", "_law_told", "_law_one"]) hcalm (id_of (ed_call (room_nox hrX) lk_none c_law_cells (ad_cons (ed_var 0) (ad_cons ed_int (ad_cons ed_int ad_nil))))) rfl (by kernel_rfl) rfl (fun C s0 H0 fp pn => ⟨(gc_name (i := 12) (show List.Nodup [("_law_script" : Str), ("_law_cell_here" : Str), ("_law_width_here" : Str), ("_law_numbers" : Str), ("_law_bits_here" : Str), ("_law_k" : Str), ("_law_seed" : Str), ("_law_bad" : Str), ("_law_first" : Str), ("_law_row" : Str), ("_law_due_here" : Str), ("_law_told" : Str), ("_law_one" : Str)] from by decide +kernel)), ct_nil, (ed_bin op_modD (ed_var 12) (ed_bin op_shlD ed_int (ed_var 2)))⟩)) (ed_lst (ad_cons ed_int ad_nil))) nd)
    (bd_cons (sd_set (i := 4) [2, 3] (ed_meth PySem.F.plainAttrs_str PySem.F.slot_str_join PySem.F.type_str_join mt_joinS ed_str (ad_cons (ed_comp (N' := ["_law_script", "_law_cell_here", "_law_width_here", "_law_numbers", "_law_bits_here", "_law_k", "_law_seed", "_law_bad", "_law_first", "_law_row", "_law_due_here", "_law_told", "_law_number"]) hcalm (id_of (ed_var 3)) rfl (by kernel_rfl) rfl (fun C s0 H0 fp pn => ⟨(gc_name (i := 12) (show List.Nodup [("_law_script" : Str), ("_law_cell_here" : Str), ("_law_width_here" : Str), ("_law_numbers" : Str), ("_law_bits_here" : Str), ("_law_k" : Str), ("_law_seed" : Str), ("_law_bad" : Str), ("_law_first" : Str), ("_law_row" : Str), ("_law_due_here" : Str), ("_law_told" : Str), ("_law_number" : Str)] from by decide +kernel)), ct_nil, (ed_call (room_comp hrX) lk_none c_law_bits (ad_cons (ed_var 12) (ad_cons (ed_var 2) ad_nil)))⟩)) ad_nil)) nd)
    (bd_cons (sd_for [] passes_def hcalm (id_range1 m_range (ad_cons ed_int ad_nil)) (gd_name (i := 5) nd)
      (bd_cons (sd_set (i := 6) [1, 5] (ed_call hrX lkX c_law_mix (ad_cons (ed_bin op_modD (ed_var 1) ed_int) (ad_cons (ed_var 5) ad_nil))) nd)
    (bd_cons (sd_if [5] (td_cmp (op_neD hu) (ed_var 5) ed_int (nomark _))
      (bd_one (sd_set (i := 6) [0, 1, 5] (ed_ix (ed_lst (ad_cons (ed_bin op_divD (ed_var 1) ed_int) (ad_cons ed_int (ad_cons (ed_call hrX lkX c_law_mix (ad_cons (ed_call hrX lkX c_law_cell (ad_cons (ed_var 0) (ad_cons ed_int ad_nil))) (ad_cons (ed_bin op_addD ed_int (ed_var 5)) ad_nil))) ad_nil)))) (ed_var 5)) nd))
      bd_nil)
    (bd_cons (sd_set (i := 7) [2, 3, 6] (ed_call hrX lkX c_law_spoiled (ad_cons (ed_var 3) (ad_cons (ed_var 2) (ad_cons (ed_var 6) ad_nil)))) nd)
    (bd_cons (sd_set (i := 8) [2, 7] (ed_ix (ed_comp (N' := ["_law_script", "_law_cell_here", "_law_width_here", "_law_numbers", "_law_bits_here", "_law_k", "_law_seed", "_law_bad", "_law_first", "_law_row", "_law_due_here", "_law_told", "_law_at", "_law_number"]) hcalm (id_enum m_enumerate (ed_var 7)) rfl (by kernel_rfl) rfl (fun C s0 H0 fp pn => ⟨(gc_two (i := 12) (j := 13) (calm_comp hcalm) (show List.Nodup [("_law_script" : Str), ("_law_cell_here" : Str), ("_law_width_here" : Str), ("_law_numbers" : Str), ("_law_bits_here" : Str), ("_law_k" : Str), ("_law_seed" : Str), ("_law_bad" : Str), ("_law_first" : Str), ("_law_row" : Str), ("_law_due_here" : Str), ("_law_told" : Str), ("_law_at" : Str), ("_law_number" : Str)] from by decide +kernel)), (ct_one (td_w (tw_or (td_cmp op_ltD (ed_var 13) ed_int (nomark _)) (tw_or1 (td_cmp op_geD (ed_var 13) (ed_bin op_shlD ed_int (ed_var 2)) (nomark _)))))), (ed_var 12)⟩)) ed_int) nd)
    (bd_cons (sd_if [2, 3, 7, 8] (td_w (tw_or (td_cmp (op_neD hu) (ed_call hrX lkX c_law_write (ad_cons (ed_var 7) (ad_cons (ed_var 2) ad_nil))) (ed_lst (ad_cons (ed_var 8) (ad_cons ed_bl ad_nil))) (nomark _)) (tw_or1 (td_cmp op_notND (ed_call hrX lkX c_law_write (ad_cons (ed_var 3) (ad_cons (ed_var 2) ad_nil))) ed_non (nomark _)))))
      (bd_one (sd_ret [] ed_bl))
      bd_nil)
    (bd_cons (sd_set (i := 9) [2, 4, 6] (ed_call hrX lkX c_law_spoiled_row (ad_cons (ed_var 4) (ad_cons (ed_var 2) (ad_cons (ed_var 6) ad_nil)))) nd)
    (bd_cons (sd_set (i := 10) [2, 9] (ed_call hrX lkX c_law_due (ad_cons (ed_var 9) (ad_cons (ed_var 2) ad_nil))) nd)
    (bd_cons (sd_set (i := 11) [2, 9] (ed_call hrX lkX c_law_read (ad_cons (ed_var 9) (ad_cons (ed_var 2) ad_nil))) nd)
    (bd_one (sd_if [10, 11] (td_w (tw_or (td_w (tw_and (td_cmp op_isND (ed_var 10) ed_non (nomark _)) (tw_and1 (td_cmp op_notND (ed_var 11) ed_non (nomark _))))) (tw_or1 (td_w (tw_and (td_cmp op_notND (ed_var 10) ed_non (nomark _)) (tw_and1 (td_cmp (op_neD hu) (ed_var 11) (ed_lst (ad_cons (ed_var 10) (ad_cons ed_bl ad_nil))) (nomark _))))))))
      (bd_one (sd_ret [] ed_bl))
      bd_nil)))))))))))
    (bd_cons (sd_if [2, 4] (td_w (tw_or (td_cmp (op_neD hu) (ed_call hrX lkX c_law_read (ad_cons (ed_bin op_addD (ed_var 4) ed_str) (ad_cons (ed_var 2) ad_nil))) (ed_lst (ad_cons (ed_callB call_lenD3 rfl m_len PySem.boot_len (ad_cons (ed_var 4) ad_nil)) (ad_cons ed_bl ad_nil))) (nomark _)) (tw_or1 (td_cmp (op_neD hu) (ed_call hrX lkX c_law_read (ad_cons (ed_bin op_addD ed_str (ed_var 4)) (ad_cons (ed_var 2) ad_nil))) (ed_lst (ad_cons ed_int (ad_cons ed_bl ad_nil))) (nomark _)))))
      (bd_one (sd_ret [] ed_bl))
      bd_nil)
    (bd_one (sd_ret [2, 4] (ed_cmp op_isND (ed_call hrX lkX c_law_read (ad_cons (ed_var 4) (ad_cons (ed_var 2) ad_nil))) ed_non (nomark _))))))))))
end
theorem all_mk {l : PySem.W.OpenLaw} {w : World} {K : PySem.W.Frag} {h : Heap} {mg : Str → Option Value} {fa : Addr} (X : K.In h) (G : h.Ns mainGlobals mg) (hfa : mg "law" = some (.ref fa))
    {f1 : Addr} {od1 an1 : Option Addr} {sl1 : Array (Option Value)} {oc1 kV1 dc1 pm1 cd1 ct1 : Value}
    {f2 : Addr} {od2 an2 : Option Addr} {sl2 : Array (Option Value)} {oc2 kV2 dc2 pm2 cd2 ct2 : Value}
    {f3 : Addr} {od3 an3 : Option Addr} {sl3 : Array (Option Value)} {oc3 kV3 dc3 pm3 cd3 ct3 : Value}
    {f4 : Addr} {od4 an4 : Option Addr} {sl4 : Array (Option Value)} {oc4 kV4 dc4 pm4 cd4 ct4 : Value}
    {f5 : Addr} {od5 an5 : Option Addr} {sl5 : Array (Option Value)} {oc5 kV5 dc5 pm5 cd5 ct5 : Value}
    {f6 : Addr} {od6 an6 : Option Addr} {sl6 : Array (Option Value)} {oc6 kV6 dc6 pm6 cd6 ct6 : Value}
    {f7 : Addr} {od7 an7 : Option Addr} {sl7 : Array (Option Value)} {oc7 kV7 dc7 pm7 cd7 ct7 : Value}
    {f8 : Addr} {od8 an8 : Option Addr} {sl8 : Array (Option Value)} {oc8 kV8 dc8 pm8 cd8 ct8 : Value}
    {f9 : Addr} {od9 an9 : Option Addr} {sl9 : Array (Option Value)} {oc9 kV9 dc9 pm9 cd9 ct9 : Value}
    {f10 : Addr} {od10 an10 : Option Addr} {sl10 : Array (Option Value)} {oc10 kV10 dc10 pm10 cd10 ct10 : Value}
    {f11 : Addr} {od11 an11 : Option Addr} {sl11 : Array (Option Value)} {oc11 kV11 dc11 pm11 cd11 ct11 : Value}
    {f12 : Addr} {od12 an12 : Option Addr} {sl12 : Array (Option Value)} {oc12 kV12 dc12 pm12 cd12 ct12 : Value}
    {f13 : Addr} {od13 an13 : Option Addr} {sl13 : Array (Option Value)} {oc13 kV13 dc13 pm13 cd13 ct13 : Value}
    {f14 : Addr} {od14 an14 : Option Addr} {sl14 : Array (Option Value)} {oc14 kV14 dc14 pm14 cd14 ct14 : Value}
    {f15 : Addr} {od15 an15 : Option Addr} {sl15 : Array (Option Value)} {oc15 kV15 dc15 pm15 cd15 ct15 : Value}
    {f16 : Addr} {od16 an16 : Option Addr} {sl16 : Array (Option Value)} {oc16 kV16 dc16 pm16 cd16 ct16 : Value}
    {f17 : Addr} {od17 an17 : Option Addr} {sl17 : Array (Option Value)} {oc17 kV17 dc17 pm17 cd17 ct17 : Value}
    {f18 : Addr} {od18 an18 : Option Addr} {sl18 : Array (Option Value)} {oc18 kV18 dc18 pm18 cd18 ct18 : Value}
    {f19 : Addr} {od19 an19 : Option Addr} {sl19 : Array (Option Value)} {oc19 kV19 dc19 pm19 cd19 ct19 : Value}
    {f20 : Addr} {od20 an20 : Option Addr} {sl20 : Array (Option Value)} {oc20 kV20 dc20 pm20 cd20 ct20 : Value}
    {f21 : Addr} {od21 an21 : Option Addr} {sl21 : Array (Option Value)} {oc21 kV21 dc21 pm21 cd21 ct21 : Value}
    {f22 : Addr} {od22 an22 : Option Addr} {sl22 : Array (Option Value)} {oc22 kV22 dc22 pm22 cd22 ct22 : Value}
    {C_NoBits : Addr}
    {C_LodgeError : Addr}
    {C_NoEdges : Addr}
    {C_NoFit : Addr}
    {C_NoKey : Addr}
    {C_NoKeys : Addr}
    {C_NoRange : Addr}
    {C_NoSuch : Addr}
    {C_NoTry : Addr}
    {C_NoValue : Addr}
    {C_Stuck : Addr}
    {C_Twice : Addr}
    {fI_NoBits N_NoBits L_NoBits : Addr} {nm_NoBits qn_NoBits : Str} {bs_NoBits sub_NoBits : List Value} {sn_NoBits : List Str} {ab_NoBits : Bool} {col_NoBits : Option Bool} {dd_NoBits od_NoBits ddL_NoBits odL_NoBits odI_NoBits an_NoBits : Option Addr} {k0_NoBits k1_NoBits k2_NoBits k3_NoBits k5_NoBits : Option Value} {oc_NoBits c0_NoBits oL_NoBits kV_NoBits dc_NoBits pm_NoBits cd_NoBits ct_NoBits : Value} {es_NoBits esL_NoBits : Array DictEntry} {ep_NoBits epL_NoBits : Nat} {sl_NoBits sl0_NoBits slL_NoBits slI_NoBits : Array (Option Value)} {cdL_NoBits : ClassData}
    (a1 : PySem.W.nsIn K mainGlobals "_law_raw" = some (some (.ref f1))) (l1 : K.lookup f1 = some ⟨oc1, od1, .func (PySem.W.fnOf "_law_raw" "_law_raw" (defArgs s_law_raw) (defBody s_law_raw) (defScope s_law_raw) .none kV1 dc1 pm1 an1 cd1 ct1), sl1⟩) (c1 : PySem.W.codeIn K cd1 "_law_raw" = true) (k1 : PySem.W.keepIn K (.ref f1) = true)
    (a2 : PySem.W.nsIn K mainGlobals "_law_width" = some (some (.ref f2))) (l2 : K.lookup f2 = some ⟨oc2, od2, .func (PySem.W.fnOf "_law_width" "_law_width" (defArgs s_law_width) (defBody s_law_width) (defScope s_law_width) .none kV2 dc2 pm2 an2 cd2 ct2), sl2⟩) (c2 : PySem.W.codeIn K cd2 "_law_width" = true) (k2 : PySem.W.keepIn K (.ref f2) = true)
    (a3 : PySem.W.nsIn K mainGlobals "_law_mix" = some (some (.ref f3))) (l3 : K.lookup f3 = some ⟨oc3, od3, .func (PySem.W.fnOf "_law_mix" "_law_mix" (defArgs s_law_mix) (defBody s_law_mix) (defScope s_law_mix) .none kV3 dc3 pm3 an3 cd3 ct3), sl3⟩) (c3 : PySem.W.codeIn K cd3 "_law_mix" = true) (k3 : PySem.W.keepIn K (.ref f3) = true)
    (a4 : PySem.W.nsIn K mainGlobals "_law_cell" = some (some (.ref f4))) (l4 : K.lookup f4 = some ⟨oc4, od4, .func (PySem.W.fnOf "_law_cell" "_law_cell" (defArgs s_law_cell) (defBody s_law_cell) (defScope s_law_cell) .none kV4 dc4 pm4 an4 cd4 ct4), sl4⟩) (c4 : PySem.W.codeIn K cd4 "_law_cell" = true) (k4 : PySem.W.keepIn K (.ref f4) = true)
    (a5 : PySem.W.nsIn K mainGlobals "_law_great" = some (some (.ref f5))) (l5 : K.lookup f5 = some ⟨oc5, od5, .func (PySem.W.fnOf "_law_great" "_law_great" (defArgs s_law_great) (defBody s_law_great) (defScope s_law_great) .none kV5 dc5 pm5 an5 cd5 ct5), sl5⟩) (c5 : PySem.W.codeIn K cd5 "_law_great" = true) (k5 : PySem.W.keepIn K (.ref f5) = true)
    (a6 : PySem.W.nsIn K mainGlobals "_law_cells" = some (some (.ref f6))) (l6 : K.lookup f6 = some ⟨oc6, od6, .func (PySem.W.fnOf "_law_cells" "_law_cells" (defArgs s_law_cells) (defBody s_law_cells) (defScope s_law_cells) .none kV6 dc6 pm6 an6 cd6 ct6), sl6⟩) (c6 : PySem.W.codeIn K cd6 "_law_cells" = true) (k6 : PySem.W.keepIn K (.ref f6) = true)
    (a7 : PySem.W.nsIn K mainGlobals "_law_bits" = some (some (.ref f7))) (l7 : K.lookup f7 = some ⟨oc7, od7, .func (PySem.W.fnOf "_law_bits" "_law_bits" (defArgs s_law_bits) (defBody s_law_bits) (defScope s_law_bits) .none kV7 dc7 pm7 an7 cd7 ct7), sl7⟩) (c7 : PySem.W.codeIn K cd7 "_law_bits" = true) (k7 : PySem.W.keepIn K (.ref f7) = true)
    (a8 : PySem.W.nsIn K mainGlobals "_law_spoiled" = some (some (.ref f8))) (l8 : K.lookup f8 = some ⟨oc8, od8, .func (PySem.W.fnOf "_law_spoiled" "_law_spoiled" (defArgs s_law_spoiled) (defBody s_law_spoiled) (defScope s_law_spoiled) .none kV8 dc8 pm8 an8 cd8 ct8), sl8⟩) (c8 : PySem.W.codeIn K cd8 "_law_spoiled" = true) (k8 : PySem.W.keepIn K (.ref f8) = true)
    (a9 : PySem.W.nsIn K mainGlobals "two_to" = some (some (.ref f9))) (l9 : K.lookup f9 = some ⟨oc9, od9, .func (PySem.W.fnOf "two_to" "two_to" (defArgs s_two_to) (defBody s_two_to) (defScope s_two_to) .none kV9 dc9 pm9 an9 cd9 ct9), sl9⟩) (c9 : PySem.W.codeIn K cd9 "two_to" = true) (k9 : PySem.W.keepIn K (.ref f9) = true)
    (a10 : PySem.W.nsIn K mainGlobals "is_below" = some (some (.ref f10))) (l10 : K.lookup f10 = some ⟨oc10, od10, .func (PySem.W.fnOf "is_below" "is_below" (defArgs s_is_below) (defBody s_is_below) (defScope s_is_below) .none kV10 dc10 pm10 an10 cd10 ct10), sl10⟩) (c10 : PySem.W.codeIn K cd10 "is_below" = true) (k10 : PySem.W.keepIn K (.ref f10) = true)
    (a11 : PySem.W.nsIn K mainGlobals "number_written" = some (some (.ref f11))) (l11 : K.lookup f11 = some ⟨oc11, od11, .func (PySem.W.fnOf "number_written" "number_written" (defArgs s_number_written) (defBody s_number_written) (defScope s_number_written) .none kV11 dc11 pm11 an11 cd11 ct11), sl11⟩) (c11 : PySem.W.codeIn K cd11 "number_written" = true) (k11 : PySem.W.keepIn K (.ref f11) = true)
    (a12 : PySem.W.nsIn K mainGlobals "written" = some (some (.ref f12))) (l12 : K.lookup f12 = some ⟨oc12, od12, .func (PySem.W.fnOf "written" "written" (defArgs s_written) (defBody s_written) (defScope s_written) .none kV12 dc12 pm12 an12 cd12 ct12), sl12⟩) (c12 : PySem.W.codeIn K cd12 "written" = true) (k12 : PySem.W.keepIn K (.ref f12) = true)
    (a13 : PySem.W.nsIn K mainGlobals "_law_alone" = some (some (.ref f13))) (l13 : K.lookup f13 = some ⟨oc13, od13, .func (PySem.W.fnOf "_law_alone" "_law_alone" (defArgs s_law_alone) (defBody s_law_alone) (defScope s_law_alone) .none kV13 dc13 pm13 an13 cd13 ct13), sl13⟩) (c13 : PySem.W.codeIn K cd13 "_law_alone" = true) (k13 : PySem.W.keepIn K (.ref f13) = true)
    (a14 : PySem.W.nsIn K mainGlobals "_law_write" = some (some (.ref f14))) (l14 : K.lookup f14 = some ⟨oc14, od14, .func (PySem.W.fnOf "_law_write" "_law_write" (defArgs s_law_write) (defBody s_law_write) (defScope s_law_write) .none kV14 dc14 pm14 an14 cd14 ct14), sl14⟩) (c14 : PySem.W.codeIn K cd14 "_law_write" = true) (k14 : PySem.W.keepIn K (.ref f14) = true)
    (a15 : PySem.W.nsIn K mainGlobals "_law_spoiled_row" = some (some (.ref f15))) (l15 : K.lookup f15 = some ⟨oc15, od15, .func (PySem.W.fnOf "_law_spoiled_row" "_law_spoiled_row" (defArgs s_law_spoiled_row) (defBody s_law_spoiled_row) (defScope s_law_spoiled_row) .none kV15 dc15 pm15 an15 cd15 ct15), sl15⟩) (c15 : PySem.W.codeIn K cd15 "_law_spoiled_row" = true) (k15 : PySem.W.keepIn K (.ref f15) = true)
    (a16 : PySem.W.nsIn K mainGlobals "_law_due" = some (some (.ref f16))) (l16 : K.lookup f16 = some ⟨oc16, od16, .func (PySem.W.fnOf "_law_due" "_law_due" (defArgs s_law_due) (defBody s_law_due) (defScope s_law_due) .none kV16 dc16 pm16 an16 cd16 ct16), sl16⟩) (c16 : PySem.W.codeIn K cd16 "_law_due" = true) (k16 : PySem.W.keepIn K (.ref f16) = true)
    (a17 : PySem.W.nsIn K mainGlobals "is_multiple" = some (some (.ref f17))) (l17 : K.lookup f17 = some ⟨oc17, od17, .func (PySem.W.fnOf "is_multiple" "is_multiple" (defArgs s_is_multiple) (defBody s_is_multiple) (defScope s_is_multiple) .none kV17 dc17 pm17 an17 cd17 ct17), sl17⟩) (c17 : PySem.W.codeIn K cd17 "is_multiple" = true) (k17 : PySem.W.keepIn K (.ref f17) = true)
    (a18 : PySem.W.nsIn K mainGlobals "look_bits" = some (some (.ref f18))) (l18 : K.lookup f18 = some ⟨oc18, od18, .func (PySem.W.fnOf "look_bits" "look_bits" (defArgs s_look_bits) (defBody s_look_bits) (defScope s_look_bits) .none kV18 dc18 pm18 an18 cd18 ct18), sl18⟩) (c18 : PySem.W.codeIn K cd18 "look_bits" = true) (k18 : PySem.W.keepIn K (.ref f18) = true)
    (a19 : PySem.W.nsIn K mainGlobals "number_read" = some (some (.ref f19))) (l19 : K.lookup f19 = some ⟨oc19, od19, .func (PySem.W.fnOf "number_read" "number_read" (defArgs s_number_read) (defBody s_number_read) (defScope s_number_read) .none kV19 dc19 pm19 an19 cd19 ct19), sl19⟩) (c19 : PySem.W.codeIn K cd19 "number_read" = true) (k19 : PySem.W.keepIn K (.ref f19) = true)
    (a20 : PySem.W.nsIn K mainGlobals "read_bits" = some (some (.ref f20))) (l20 : K.lookup f20 = some ⟨oc20, od20, .func (PySem.W.fnOf "read_bits" "read_bits" (defArgs s_read_bits) (defBody s_read_bits) (defScope s_read_bits) .none kV20 dc20 pm20 an20 cd20 ct20), sl20⟩) (c20 : PySem.W.codeIn K cd20 "read_bits" = true) (k20 : PySem.W.keepIn K (.ref f20) = true)
    (a21 : PySem.W.nsIn K mainGlobals "_law_read" = some (some (.ref f21))) (l21 : K.lookup f21 = some ⟨oc21, od21, .func (PySem.W.fnOf "_law_read" "_law_read" (defArgs s_law_read) (defBody s_law_read) (defScope s_law_read) .none kV21 dc21 pm21 an21 cd21 ct21), sl21⟩) (c21 : PySem.W.codeIn K cd21 "_law_read" = true) (k21 : PySem.W.keepIn K (.ref f21) = true)
    (a22 : PySem.W.nsIn K mainGlobals "law" = some (some (.ref f22))) (l22 : K.lookup f22 = some ⟨oc22, od22, .func (PySem.W.fnOf "law" "law" (defArgs s_law) (defBody s_law) (defScope s_law) .none kV22 dc22 pm22 an22 cd22 ct22), sl22⟩) (c22 : PySem.W.codeIn K cd22 "law" = true) (k22 : PySem.W.keepIn K (.ref f22) = true)
    (z_len : PySem.W.nsIn K mainGlobals "len" = some none)
    (z_max : PySem.W.nsIn K mainGlobals "max" = some none)
    (z_range : PySem.W.nsIn K mainGlobals "range" = some none)
    (z_min : PySem.W.nsIn K mainGlobals "min" = some none)
    (z_list : PySem.W.nsIn K mainGlobals "list" = some none)
    (z_isinstance : PySem.W.nsIn K mainGlobals "isinstance" = some none)
    (z_bool : PySem.W.nsIn K mainGlobals "bool" = some none)
    (z_str : PySem.W.nsIn K mainGlobals "str" = some none)
    (z_enumerate : PySem.W.nsIn K mainGlobals "enumerate" = some none)
    (z_ValueError : PySem.W.nsIn K mainGlobals "ValueError" = some none)
    (t_bool_non : PySem.W.kitOne K (.type "NoneType") (.type "bool") = some false)
    (t_bool_bl : PySem.W.kitOne K (.type "bool") (.type "bool") = some true)
    (t_bool_int : PySem.W.kitOne K (.type "int") (.type "bool") = some false)
    (t_bool_str : PySem.W.kitOne K (.type "str") (.type "bool") = some false)
    (t_bool_lst : PySem.W.kitOne K (.type "list") (.type "bool") = some false)
    (t_bool_tup : PySem.W.kitOne K (.type "tuple") (.type "bool") = some false)
    (xa_NoBits : PySem.W.nsIn K mainGlobals "NoBits" = some (some (.ref C_NoBits)))
    (xa_LodgeError : PySem.W.nsIn K mainGlobals "LodgeError" = some (some (.ref C_LodgeError)))
    (xa_NoEdges : PySem.W.nsIn K mainGlobals "NoEdges" = some (some (.ref C_NoEdges)))
    (xa_NoFit : PySem.W.nsIn K mainGlobals "NoFit" = some (some (.ref C_NoFit)))
    (xa_NoKey : PySem.W.nsIn K mainGlobals "NoKey" = some (some (.ref C_NoKey)))
    (xa_NoKeys : PySem.W.nsIn K mainGlobals "NoKeys" = some (some (.ref C_NoKeys)))
    (xa_NoRange : PySem.W.nsIn K mainGlobals "NoRange" = some (some (.ref C_NoRange)))
    (xa_NoSuch : PySem.W.nsIn K mainGlobals "NoSuch" = some (some (.ref C_NoSuch)))
    (xa_NoTry : PySem.W.nsIn K mainGlobals "NoTry" = some (some (.ref C_NoTry)))
    (xa_NoValue : PySem.W.nsIn K mainGlobals "NoValue" = some (some (.ref C_NoValue)))
    (xa_Stuck : PySem.W.nsIn K mainGlobals "Stuck" = some (some (.ref C_Stuck)))
    (xa_Twice : PySem.W.nsIn K mainGlobals "Twice" = some (some (.ref C_Twice)))
    (xl_NoBits : K.lookup C_NoBits = some (excClassObj nm_NoBits qn_NoBits C_NoBits N_NoBits bs_NoBits (.ref L_NoBits :: bmVE) true sn_NoBits sub_NoBits ab_NoBits col_NoBits dd_NoBits k0_NoBits k1_NoBits k2_NoBits k3_NoBits k5_NoBits "ValueError.__new__"))
    (xn_NoBits : K.lookup N_NoBits = some ⟨oc_NoBits, od_NoBits, .dict es_NoBits ep_NoBits, sl_NoBits⟩)
    (xi_NoBits : PySem.W.findIn K (.ref C_NoBits) "__init__" = some (some (.ref fI_NoBits)))
    (xk_NoBits : strKeysB es_NoBits = true)
    (xj_NoBits : nsFind es_NoBits "__init__" = some (.ref fI_NoBits))
    (xm_NoBits : K.lookup L_NoBits = some ⟨c0_NoBits, ddL_NoBits, .cls cdL_NoBits, sl0_NoBits⟩)
    (xo_NoBits : K.lookup cdL_NoBits.ns = some ⟨oL_NoBits, odL_NoBits, .dict esL_NoBits epL_NoBits, slL_NoBits⟩)
    (xp_NoBits : strKeysB esL_NoBits = true)
    (xq_NoBits : nsFind esL_NoBits "__init__" = none)
    (xs_NoBits : PySem.W.findIn K (.ref C_NoBits) "__setattr__" = some (some (.builtin "object.__setattr__")))
    (xf_NoBits : PySem.W.findIn K (.ref C_NoBits) "at" = some none)
    (xkp_NoBits : PySem.W.keepIn K (.ref C_NoBits) = true)
    (xlI_NoBits : K.lookup fI_NoBits = some ⟨.type "function", odI_NoBits, .func (PySem.W.fnOf "__init__" "NoBits.__init__" (defArgs s_init_NoBits) (defBody s_init_NoBits) (defScope s_init_NoBits) .none kV_NoBits dc_NoBits pm_NoBits an_NoBits cd_NoBits ct_NoBits), slI_NoBits⟩)
    (xcI_NoBits : PySem.W.codeIn K cd_NoBits "NoBits.__init__" = true)
    (xkI_NoBits : PySem.W.keepIn K (.ref fI_NoBits) = true)
    (ga_NoBits : PySem.W.findIn K (.ref C_NoBits) "__getattribute__" = some (some (.builtin "BaseException.__getattribute__")))
    (gt_NoBits : PySem.W.findIn K (.ref C_NoBits) "__getattr__" = some none)
    (be_NoBits : PySem.W.mroIn K C_NoBits (.type "BaseException") = some true)
    (hd_NoBits : PySem.W.hasDictIn K C_NoBits = true)
    (cl_NoBits : PySem.W.findIn K (.ref C_NoBits) "__class__" = some (some (.builtin "object.__class__")))
    (ob_NoBits : PySem.W.mroIn K C_NoBits (.type "object") = some true)
    (em_NoBits_NoBits : PySem.W.exmOne K (.ref C_NoBits) (.ref C_NoBits) = some true)
    (ko_NoBits_LodgeError : PySem.W.kitOne K (.ref C_NoBits) (.ref C_LodgeError) = some true)
    (kb_NoBits_ValueError : PySem.W.kitOne K (.ref C_NoBits) (.type "ValueError") = some true)
    (ka_NoBits_NoEdges_NoFit_NoKey_NoKeys_NoRange : PySem.W.kitAny K (.ref C_NoBits) [.ref C_NoEdges, .ref C_NoFit, .ref C_NoKey, .ref C_NoKeys, .ref C_NoRange] = some false)
    (ka_NoBits_NoSuch_NoTry : PySem.W.kitAny K (.ref C_NoBits) [.ref C_NoSuch, .ref C_NoTry] = some false)
    (ka_NoBits_NoValue_Stuck_Twice : PySem.W.kitAny K (.ref C_NoBits) [.ref C_NoValue, .ref C_Stuck, .ref C_Twice] = some false)
    (gs_all : PySem.W.specialIn K (.builtin "object.__class__") "__get__" = some (some (.builtin "getset_descriptor.__get__")))
    (tk_all : PySem.W.takesIn K (.builtin "object.__class__") = some true) :
    ∃ fd : FuncData, (∀ (s : Shared) (v : Value), BindsTo s fd ⟨[v], []⟩ [("_law_script", v)]) ∧ ∀ base : Heap, K.In base → base.Ns mainGlobals mg → FnOk l.prog w K mg base CX0 6 fa fd ["_law_script"] (spLaw3 K) := by
  have gx_NoBits := PySem.W.mg_of X G xa_NoBits
  have gx_LodgeError := PySem.W.mg_of X G xa_LodgeError
  have gx_NoEdges := PySem.W.mg_of X G xa_NoEdges
  have gx_NoFit := PySem.W.mg_of X G xa_NoFit
  have gx_NoKey := PySem.W.mg_of X G xa_NoKey
  have gx_NoKeys := PySem.W.mg_of X G xa_NoKeys
  have gx_NoRange := PySem.W.mg_of X G xa_NoRange
  have gx_NoSuch := PySem.W.mg_of X G xa_NoSuch
  have gx_NoTry := PySem.W.mg_of X G xa_NoTry
  have gx_NoValue := PySem.W.mg_of X G xa_NoValue
  have gx_Stuck := PySem.W.mg_of X G xa_Stuck
  have gx_Twice := PySem.W.mg_of X G xa_Twice
  have xcl_NoBits := xcls_of xl_NoBits xs_NoBits
  have xmk_NoBits : XMk K C_NoBits fI_NoBits := xmk_of xl_NoBits xn_NoBits xk_NoBits xj_NoBits xm_NoBits xo_NoBits xp_NoBits xq_NoBits
  have xin_NoBits : XInst K C_NoBits := ⟨ga_NoBits, gt_NoBits, be_NoBits, hd_NoBits, cl_NoBits, gs_all, tk_all, ob_NoBits⟩
  have FI_NoBits := fun_mk (x := "__init__") (qual := "NoBits.__init__") (st := s_init_NoBits) xlI_NoBits xcI_NoBits xkI_NoBits
  have bI_NoBits := Fun.binds2 (ps := ["self", "at"]) FI_NoBits rfl fun _ _ _ _ _ _ _ _ => rfl
  have ct_NoBits : Catches K C_NoBits [("NoBits", true)] := (.one xa_NoBits em_NoBits_NoBits .nil)
  have is_LodgeError : IsOne K (.ref C_LodgeError) [("NoBits", true)] := (.one xa_NoBits xin_NoBits ko_NoBits_LodgeError .nil)
  have isb_ValueError : IsOne K (.type "ValueError") [("NoBits", true)] := (.one xa_NoBits xin_NoBits kb_NoBits_ValueError .nil)
  have ist_NoEdges_NoFit_NoKey_NoKeys_NoRange : IsAny K [C_NoEdges, C_NoFit, C_NoKey, C_NoKeys, C_NoRange] [("NoBits", false)] := (IsAny.one (v := [C_NoEdges, C_NoFit, C_NoKey, C_NoKeys, C_NoRange]) xa_NoBits xin_NoBits ka_NoBits_NoEdges_NoFit_NoKey_NoKeys_NoRange .nil)
  have ist_NoSuch_NoTry : IsAny K [C_NoSuch, C_NoTry] [("NoBits", false)] := (IsAny.one (v := [C_NoSuch, C_NoTry]) xa_NoBits xin_NoBits ka_NoBits_NoSuch_NoTry .nil)
  have ist_NoValue_Stuck_Twice : IsAny K [C_NoValue, C_Stuck, C_Twice] [("NoBits", false)] := (IsAny.one (v := [C_NoValue, C_Stuck, C_Twice]) xa_NoBits xin_NoBits ka_NoBits_NoValue_Stuck_Twice .nil)
  have xg_at : XGets K ["NoBits"] "at" := (.one xa_NoBits ⟨ga_NoBits, gt_NoBits, be_NoBits, hd_NoBits, xf_NoBits⟩ .nil)
  have e := hfa.symm.trans (PySem.W.mg_of X G a22)
  cases e
  have m_len := PySem.W.mg_none_of X G z_len
  have m_max := PySem.W.mg_none_of X G z_max
  have m_range := PySem.W.mg_none_of X G z_range
  have m_min := PySem.W.mg_none_of X G z_min
  have m_list := PySem.W.mg_none_of X G z_list
  have m_isinstance := PySem.W.mg_none_of X G z_isinstance
  have m_bool := PySem.W.mg_none_of X G z_bool
  have m_str := PySem.W.mg_none_of X G z_str
  have m_enumerate := PySem.W.mg_none_of X G z_enumerate
  have m_ValueError := PySem.W.mg_none_of X G z_ValueError
  have kit_bool : KitT K "bool" := ⟨t_bool_non, t_bool_bl, t_bool_int, t_bool_str, t_bool_lst, t_bool_tup⟩
  have F1 := fun_mk (st := s_law_raw) l1 c1 k1
  have b1 := Fun.binds2 (ps := ["_law_script", "_law_k"]) F1 rfl fun _ _ _ _ _ _ _ _ => rfl
  have F2 := fun_mk (st := s_law_width) l2 c2 k2
  have b2 := Fun.binds1 (ps := ["_law_cell_here"]) F2 rfl fun _ _ _ _ _ _ _ => rfl
  have F3 := fun_mk (st := s_law_mix) l3 c3 k3
  have b3 := Fun.binds2 (ps := ["_law_cell_here", "_law_k"]) F3 rfl fun _ _ _ _ _ _ _ _ => rfl
  have F4 := fun_mk (st := s_law_cell) l4 c4 k4
  have b4 := Fun.binds2 (ps := ["_law_script", "_law_k"]) F4 rfl fun _ _ _ _ _ _ _ _ => rfl
  have F5 := fun_mk (st := s_law_great) l5 c5 k5
  have b5 := Fun.binds1 (ps := ["_law_cell_here"]) F5 rfl fun _ _ _ _ _ _ _ => rfl
  have F6 := fun_mk (st := s_law_cells) l6 c6 k6
  have b6 := Fun.binds3 (ps := ["_law_script", "_law_start", "_law_most"]) F6 rfl fun _ _ _ _ _ _ _ _ _ => rfl
  have F7 := fun_mk (st := s_law_bits) l7 c7 k7
  have b7 := Fun.binds2 (ps := ["_law_number", "_law_width_here"]) F7 rfl fun _ _ _ _ _ _ _ _ => rfl
  have F8 := fun_mk (st := s_law_spoiled) l8 c8 k8
  have b8 := Fun.binds3 (ps := ["_law_numbers", "_law_width_here", "_law_cell_here"]) F8 rfl fun _ _ _ _ _ _ _ _ _ => rfl
  have F9 := fun_mk (st := s_two_to) l9 c9 k9
  have b9 := Fun.binds1 (ps := ["width"]) F9 rfl fun _ _ _ _ _ _ _ => rfl
  have F10 := fun_mk (st := s_is_below) l10 c10 k10
  have b10 := Fun.binds2 (ps := ["number", "limit"]) F10 rfl fun _ _ _ _ _ _ _ _ => rfl
  have F11 := fun_mk (st := s_number_written) l11 c11 k11
  have b11 := Fun.binds2 (ps := ["number", "width"]) F11 rfl fun _ _ _ _ _ _ _ _ => rfl
  have F12 := fun_mk (st := s_written) l12 c12 k12
  have b12 := Fun.binds2 (ps := ["numbers", "width"]) F12 rfl fun _ _ _ _ _ _ _ _ => rfl
  have F13 := fun_mk (st := s_law_alone) l13 c13 k13
  have b13 := Fun.binds1 (ps := ["_law_error"]) F13 rfl fun _ _ _ _ _ _ _ => rfl
  have F14 := fun_mk (st := s_law_write) l14 c14 k14
  have b14 := Fun.binds2 (ps := ["_law_numbers", "_law_width_here"]) F14 rfl fun _ _ _ _ _ _ _ _ => rfl
  have F15 := fun_mk (st := s_law_spoiled_row) l15 c15 k15
  have b15 := Fun.binds3 (ps := ["_law_row", "_law_width_here", "_law_cell_here"]) F15 rfl fun _ _ _ _ _ _ _ _ _ => rfl
  have F16 := fun_mk (st := s_law_due) l16 c16 k16
  have b16 := Fun.binds2 (ps := ["_law_bits_here", "_law_width_here"]) F16 rfl fun _ _ _ _ _ _ _ _ => rfl
  have F17 := fun_mk (st := s_is_multiple) l17 c17 k17
  have b17 := Fun.binds2 (ps := ["length", "width"]) F17 rfl fun _ _ _ _ _ _ _ _ => rfl
  have F18 := fun_mk (st := s_look_bits) l18 c18 k18
  have b18 := Fun.binds2 (ps := ["bits", "width"]) F18 rfl fun _ _ _ _ _ _ _ _ => rfl
  have F19 := fun_mk (st := s_number_read) l19 c19 k19
  have b19 := Fun.binds1 (ps := ["bits"]) F19 rfl fun _ _ _ _ _ _ _ => rfl
  have F20 := fun_mk (st := s_read_bits) l20 c20 k20
  have b20 := Fun.binds2 (ps := ["bits", "width"]) F20 rfl fun _ _ _ _ _ _ _ _ => rfl
  have F21 := fun_mk (st := s_law_read) l21 c21 k21
  have b21 := Fun.binds2 (ps := ["_law_bits_here", "_law_width_here"]) F21 rfl fun _ _ _ _ _ _ _ _ => rfl
  have F22 := fun_mk (st := s_law) l22 c22 k22
  have b22 := Fun.binds1 (ps := ["_law_script"]) F22 rfl fun _ _ _ _ _ _ _ => rfl
  refine ⟨PySem.W.fnOf "law" "law" (defArgs s_law) (defBody s_law) (defScope s_law) .none kV22 dc22 pm22 an22 cd22 ct22, fun s v => .of_eq rfl, fun base _ _ => ?_⟩
  have x_NoBits : XC l.prog w K mg base "NoBits" "at" C_NoBits := ⟨xa_NoBits, gx_NoBits, xkp_NoBits, xcl_NoBits, ⟨_, _, _, _, xmk_NoBits, xlI_NoBits, rfl, ok_init_NoBits FI_NoBits xcl_NoBits xf_NoBits, bI_NoBits⟩⟩
  have c_law_raw : FnD l.prog w K mg base true "_law_raw" 1 ["_law_script", "_law_k"] F_law_raw := fnd_mk F1 (PySem.W.mg_of X G a1) b1 (ok_law_raw F1 m_len)
  have c_law_width : FnD l.prog w K mg base true "_law_width" 1 ["_law_cell_here"] F_law_width := fnd_mk F2 (PySem.W.mg_of X G a2) b2 (ok_law_width F2)
  have c_law_mix : FnD l.prog w K mg base true "_law_mix" 1 ["_law_cell_here", "_law_k"] F_law_mix := fnd_mk F3 (PySem.W.mg_of X G a3) b3 (ok_law_mix F3)
  have c_law_cell : FnD l.prog w K mg base true "_law_cell" 2 ["_law_script", "_law_k"] F_law_cell := fnd_mk F4 (PySem.W.mg_of X G a4) b4 (ok_law_cell F4 c_law_mix c_law_raw)
  have c_law_great : FnD l.prog w K mg base true "_law_great" 2 ["_law_cell_here"] F_law_great := fnd_mk F5 (PySem.W.mg_of X G a5) b5 (ok_law_great F5 c_law_mix)
  have c_law_cells : FnD l.prog w K mg base true "_law_cells" 3 ["_law_script", "_law_start", "_law_most"] F_law_cells := fnd_mk F6 (PySem.W.mg_of X G a6) b6 (ok_law_cells F6 c_law_raw c_law_cell c_law_great c_law_mix m_max m_len m_range m_min)
  have c_law_bits : FnD l.prog w K mg base true "_law_bits" 1 ["_law_number", "_law_width_here"] F_law_bits := fnd_mk F7 (PySem.W.mg_of X G a7) b7 (ok_law_bits F7 m_range)
  have c_law_spoiled : FnD l.prog w K mg base true "_law_spoiled" 2 ["_law_numbers", "_law_width_here", "_law_cell_here"] F_law_spoiled := fnd_mk F8 (PySem.W.mg_of X G a8) b8 (ok_law_spoiled F8 c_law_mix m_list m_range m_len)
  have c_two_to : FnD l.prog w K mg base true "two_to" 1 ["width"] F_two_to := fnd_mk F9 (PySem.W.mg_of X G a9) b9 (ok_two_to F9 m_range)
  have c_is_below : FnD l.prog w K mg base true "is_below" 1 ["number", "limit"] F_is_below := fnd_mk F10 (PySem.W.mg_of X G a10) b10 (ok_is_below F10 m_isinstance m_bool kit_bool)
  have c_number_written : FnD l.prog w K mg base true "number_written" 1 ["number", "width"] F_number_written := fnd_mk F11 (PySem.W.mg_of X G a11) b11 (ok_number_written F11 m_range m_str)
  have c_written : FnD l.prog w K mg base true "written" 3 ["numbers", "width"] F_written := fnd_mk F12 (PySem.W.mg_of X G a12) b12 (ok_written F12 c_two_to c_is_below c_number_written m_enumerate x_NoBits)
  have c_law_alone : FnD l.prog w K mg base false "_law_alone" 1 ["_law_error"] F_law_alone := fnd_mk F13 (PySem.W.mg_of X G a13) b13 (ok_law_alone F13 m_isinstance m_ValueError gx_LodgeError gx_NoEdges gx_NoFit gx_NoKey gx_NoKeys gx_NoRange gx_NoSuch gx_NoTry gx_NoValue gx_Stuck gx_Twice is_LodgeError isb_ValueError ist_NoEdges_NoFit_NoKey_NoKeys_NoRange ist_NoSuch_NoTry ist_NoValue_Stuck_Twice)
  have c_law_write : FnD l.prog w K mg base true "_law_write" 4 ["_law_numbers", "_law_width_here"] F_law_write := fnd_mk F14 (PySem.W.mg_of X G a14) b14 (ok_law_write F14 c_written c_law_alone m_list m_isinstance m_bool kit_bool gx_NoBits ct_NoBits xg_at)
  have c_law_spoiled_row : FnD l.prog w K mg base true "_law_spoiled_row" 2 ["_law_row", "_law_width_here", "_law_cell_here"] F_law_spoiled_row := fnd_mk F15 (PySem.W.mg_of X G a15) b15 (ok_law_spoiled_row F15 c_law_mix m_min m_len m_range)
  have c_law_due : FnD l.prog w K mg base true "_law_due" 1 ["_law_bits_here", "_law_width_here"] F_law_due := fnd_mk F16 (PySem.W.mg_of X G a16) b16 (ok_law_due F16 m_enumerate m_len)
  have c_is_multiple : FnD l.prog w K mg base true "is_multiple" 1 ["length", "width"] F_is_multiple := fnd_mk F17 (PySem.W.mg_of X G a17) b17 (ok_is_multiple F17)
  have c_look_bits : FnD l.prog w K mg base true "look_bits" 3 ["bits", "width"] F_look_bits := fnd_mk F18 (PySem.W.mg_of X G a18) b18 (ok_look_bits F18 c_is_multiple m_enumerate m_len x_NoBits)
  have c_number_read : FnD l.prog w K mg base true "number_read" 1 ["bits"] F_number_read := fnd_mk F19 (PySem.W.mg_of X G a19) b19 (ok_number_read F19)
  have c_read_bits : FnD l.prog w K mg base true "read_bits" 4 ["bits", "width"] F_read_bits := fnd_mk F20 (PySem.W.mg_of X G a20) b20 (ok_read_bits F20 c_look_bits c_number_read m_len)
  have c_law_read : FnD l.prog w K mg base true "_law_read" 5 ["_law_bits_here", "_law_width_here"] F_law_read := fnd_mk F21 (PySem.W.mg_of X G a21) b21 (ok_law_read F21 c_read_bits c_law_alone m_isinstance m_bool kit_bool gx_NoBits ct_NoBits xg_at)
  exact law_of (ok_law (P := l.prog) (w := w) (base := base) F22 c_law_raw c_law_width c_law_cells c_law_bits c_law_mix c_law_cell c_law_spoiled c_law_write c_law_spoiled_row c_law_due c_law_read m_range m_enumerate m_len) law_true
end My

open PySem PySem.W PyProof.Rows
set_option maxRecDepth 100000 in
set_option maxHeartbeats 0 in
theorem PySem.Challenge.cw_lodge_k13_no_bits_holds : PySem.Challenge.rw_lodge_k13_no_bits.Holds := by
  w_on; o_law; k_head; (case hw => w_witness2)
  k_fill
  refine L3.walk3 (l := PySem.Challenge.rw_lodge_k13_no_bits) (x := "_law_script") (k := 6) rfl rfl ⟨rfl, by decide, by decide⟩ (fun w h Y => PySem.W.kIn_of Y) ?F
  case F =>
    intro w mg fa h KX G hmg
    refine' My.all_mk KX G hmg ?a1 ?l1 ?c1 ?k1 ?a2 ?l2 ?c2 ?k2 ?a3 ?l3 ?c3 ?k3 ?a4 ?l4 ?c4 ?k4 ?a5 ?l5 ?c5 ?k5 ?a6 ?l6 ?c6 ?k6 ?a7 ?l7 ?c7 ?k7 ?a8 ?l8 ?c8 ?k8 ?a9 ?l9 ?c9 ?k9 ?a10 ?l10 ?c10 ?k10 ?a11 ?l11 ?c11 ?k11 ?a12 ?l12 ?c12 ?k12 ?a13 ?l13 ?c13 ?k13 ?a14 ?l14 ?c14 ?k14 ?a15 ?l15 ?c15 ?k15 ?a16 ?l16 ?c16 ?k16 ?a17 ?l17 ?c17 ?k17 ?a18 ?l18 ?c18 ?k18 ?a19 ?l19 ?c19 ?k19 ?a20 ?l20 ?c20 ?k20 ?a21 ?l21 ?c21 ?k21 ?a22 ?l22 ?c22 ?k22 ?z_len ?z_max ?z_range ?z_min ?z_list ?z_isinstance ?z_bool ?z_str ?z_enumerate ?z_ValueError ?t_bool_non ?t_bool_bl ?t_bool_int ?t_bool_str ?t_bool_lst ?t_bool_tup ?xa_NoBits ?xa_LodgeError ?xa_NoEdges ?xa_NoFit ?xa_NoKey ?xa_NoKeys ?xa_NoRange ?xa_NoSuch ?xa_NoTry ?xa_NoValue ?xa_Stuck ?xa_Twice ?xl_NoBits ?xn_NoBits ?xi_NoBits ?xk_NoBits ?xj_NoBits ?xm_NoBits ?xo_NoBits ?xp_NoBits ?xq_NoBits ?xs_NoBits ?xf_NoBits ?xkp_NoBits ?xlI_NoBits ?xcI_NoBits ?xkI_NoBits ?ga_NoBits ?gt_NoBits ?be_NoBits ?hd_NoBits ?cl_NoBits ?ob_NoBits ?em_NoBits_NoBits ?ko_NoBits_LodgeError ?kb_NoBits_ValueError ?ka_NoBits_NoEdges_NoFit_NoKey_NoKeys_NoRange ?ka_NoBits_NoSuch_NoTry ?ka_NoBits_NoValue_Stuck_Twice ?gs_all ?tk_all
    (case a1 => k_is)
    (case l1 => k_is)
    (case c1 => k_is)
    (case k1 => k_is)
    (case a2 => k_is)
    (case l2 => k_is)
    (case c2 => k_is)
    (case k2 => k_is)
    (case a3 => k_is)
    (case l3 => k_is)
    (case c3 => k_is)
    (case k3 => k_is)
    (case a4 => k_is)
    (case l4 => k_is)
    (case c4 => k_is)
    (case k4 => k_is)
    (case a5 => k_is)
    (case l5 => k_is)
    (case c5 => k_is)
    (case k5 => k_is)
    (case a6 => k_is)
    (case l6 => k_is)
    (case c6 => k_is)
    (case k6 => k_is)
    (case a7 => k_is)
    (case l7 => k_is)
    (case c7 => k_is)
    (case k7 => k_is)
    (case a8 => k_is)
    (case l8 => k_is)
    (case c8 => k_is)
    (case k8 => k_is)
    (case a9 => k_is)
    (case l9 => k_is)
    (case c9 => k_is)
    (case k9 => k_is)
    (case a10 => k_is)
    (case l10 => k_is)
    (case c10 => k_is)
    (case k10 => k_is)
    (case a11 => k_is)
    (case l11 => k_is)
    (case c11 => k_is)
    (case k11 => k_is)
    (case a12 => k_is)
    (case l12 => k_is)
    (case c12 => k_is)
    (case k12 => k_is)
    (case a13 => k_is)
    (case l13 => k_is)
    (case c13 => k_is)
    (case k13 => k_is)
    (case a14 => k_is)
    (case l14 => k_is)
    (case c14 => k_is)
    (case k14 => k_is)
    (case a15 => k_is)
    (case l15 => k_is)
    (case c15 => k_is)
    (case k15 => k_is)
    (case a16 => k_is)
    (case l16 => k_is)
    (case c16 => k_is)
    (case k16 => k_is)
    (case a17 => k_is)
    (case l17 => k_is)
    (case c17 => k_is)
    (case k17 => k_is)
    (case a18 => k_is)
    (case l18 => k_is)
    (case c18 => k_is)
    (case k18 => k_is)
    (case a19 => k_is)
    (case l19 => k_is)
    (case c19 => k_is)
    (case k19 => k_is)
    (case a20 => k_is)
    (case l20 => k_is)
    (case c20 => k_is)
    (case k20 => k_is)
    (case a21 => k_is)
    (case l21 => k_is)
    (case c21 => k_is)
    (case k21 => k_is)
    (case a22 => k_is)
    (case l22 => k_is)
    (case c22 => k_is)
    (case k22 => k_is)
    (case z_len => k_is)
    (case z_max => k_is)
    (case z_range => k_is)
    (case z_min => k_is)
    (case z_list => k_is)
    (case z_isinstance => k_is)
    (case z_bool => k_is)
    (case z_str => k_is)
    (case z_enumerate => k_is)
    (case z_ValueError => k_is)
    (case t_bool_non => kit_is)
    (case t_bool_bl => kit_is)
    (case t_bool_int => kit_is)
    (case t_bool_str => kit_is)
    (case t_bool_lst => kit_is)
    (case t_bool_tup => kit_is)
    (case xa_NoBits => k_is)
    (case xa_LodgeError => k_is)
    (case xa_NoEdges => k_is)
    (case xa_NoFit => k_is)
    (case xa_NoKey => k_is)
    (case xa_NoKeys => k_is)
    (case xa_NoRange => k_is)
    (case xa_NoSuch => k_is)
    (case xa_NoTry => k_is)
    (case xa_NoValue => k_is)
    (case xa_Stuck => k_is)
    (case xa_Twice => k_is)
    (case xl_NoBits => k_is)
    (case xn_NoBits => k_is)
    (case xi_NoBits => k_is)
    (case xk_NoBits => rfl)
    (case xj_NoBits => rfl)
    (case xm_NoBits => k_is)
    (case xo_NoBits => k_is)
    (case xp_NoBits => rfl)
    (case xq_NoBits => rfl)
    (case xs_NoBits => k_is)
    (case xf_NoBits => k_is)
    (case xkp_NoBits => k_is)
    (case xlI_NoBits => k_is)
    (case xcI_NoBits => k_is)
    (case xkI_NoBits => k_is)
    (case ga_NoBits => k_is)
    (case gt_NoBits => k_is)
    (case be_NoBits => k_is)
    (case hd_NoBits => k_is)
    (case cl_NoBits => k_is)
    (case ob_NoBits => k_is)
    (case em_NoBits_NoBits => kts_exm)
    (case ko_NoBits_LodgeError => kit_is)
    (case kb_NoBits_ValueError => kit_is)
    (case ka_NoBits_NoEdges_NoFit_NoKey_NoKeys_NoRange => kit_is)
    (case ka_NoBits_NoSuch_NoTry => kit_is)
    (case ka_NoBits_NoValue_Stuck_Twice => kit_is)
    (case gs_all => k_is)
    (case tk_all => k_is)
