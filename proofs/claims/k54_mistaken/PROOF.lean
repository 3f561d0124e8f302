import PyProof.Rows.All
import Wide.All
import OpenK.AllK
import Wide.FinOn
import Lean
import PyProof.EqAt
import PyProof.EqKinds
import PyProof.TupleCall
import PySem.Challenge.RW_lodge_k54_mistaken
set_option Elab.async false
set_option linter.all false
set_option maxRecDepth 100000
set_option genSizeOf false
namespace PySem.W.Fast
def tw9157106176930274247 := 0
def tw1159820010637302833 := 0
def tw960438141962771197 := 0
def tw18023000960438395852 := 0
def tw10926513182796651163 := 0
def tw11759788558475630815 := 0
def tw14776511754221913688 := 0
def tw5913692421612011606 := 0
def tw14883100409531752411 := 0
def tw1869749504725125837 := 0
def tw10691457743085017836 := 0
def tw13330709345740988913 := 0
def tw2812169905926059496 := 0
def tw10507773315749570659 := 0
def tw7768649731520746536 := 0
def tw2057714180426572332 := 0
def tw16093693246619867891 := 0
def tw13939622825988417890 := 0
def tw311561330778106653 := 0
def tw6109753207939672807 := 0
def tw1565538724540070175 := 0
def tw15943407243155377002 := 0
def tw4580663552268625363 := 0
def tw10078248133166380917 := 0
def tw9892183336684146828 := 0
def tw4363447733243519447 := 0
def tw9581507633284822531 := 0
def tw5534412350219221713 := 0
def tw1369599590618742510 := 0
def tw4275347707950106347 := 0
end PySem.W.Fast
noncomputable section
open PySem.W (Frag InitBack InstAt KitX Looks any_some bind_fn callWith_K callWith_K0 cellsFrom_some check_slot class_get clsIn codeIn codeRec_of emptyDict eq_bytes exmOne exm_one findIn findObj findObj_own fnOf get_value handedIn handed_on hasDictIn hideAll hideAll_get hideAll_none hideAll_size instObj isFn kdl_call kdl_dict keepIn ki_setAt ki_setBack kia_one kia_tup kitAny kitOne kitx_bool kitx_int kitx_list kitx_none kitx_str kitx_tuple lookIn looks_clsIn looks_find looks_findIn looks_mroIn make_core makesIn makes_of methodCall_KW methodObj method_fn mg_none_of mg_of mroIn ne_bytes nsIn of_hideAll osa_eq osa_open plainGet plainGet_of plainOver set_plain specialIn takerIn takesIn truthy_bytes typeIn)
local macro_rules
 | `(tactic| simp_arith [$xs,*] $[$l:location]?) => `(tactic| simp only [Nat.reduceAdd, Nat.reduceSub, Nat.reduceLeDiff, ↓reduceIte, reduceCtorEq, $xs,*] $[$l:location]?)
namespace L2
open PySem PySem.Spec PyProof.Rows
abbrev Key := Sum Int Str
def au_5 : Key → Value → Bool
 | .inl k, v => Value.isInt k v
 | .inr x, v => Value.isStrOf x v
def keyH (w : World) : Key → Int
 | .inl k => hashInt k
 | .inr x => hashStr w x
theorem f_0 : ∀ {k : Key} {v : Value}, au_5 k v = true → (∃ i t, k = Sum.inl i ∧ v = Value.int i t) ∨ (∃ x t, k = Sum.inr x ∧ v = Value.str x t)
 | .inl i, v, h => by
  obtain ⟨t, e⟩ := Value.isInt_shape (k := i) (v := v) h
  exact .inl ⟨i, t, rfl, e⟩
 | .inr x, v, h => by
  obtain ⟨t, e⟩ := Value.isStrOf_shape (x := x) (v := v) h
  exact .inr ⟨x, t, rfl, e⟩
theorem ca_6 (i : Int) (t : Tok) : au_5 (.inl i) (.int i t) = true := by simp [au_5, Value.isInt]
theorem ca_7 (x : Str) (t : Tok) : au_5 (.inr x) (.str x t) = true := by simp [au_5, Value.isStrOf]
theorem da_3 (a b : Int) : decide ((Sum.inl a : Key) = Sum.inl b) = (a == b) := by
 by_cases e : a = b
 ·subst e; simp
 ·have h : ¬ (Sum.inl a : Key) = Sum.inl b := fun q => e (Sum.inl.inj q)
  rw [decide_eq_false h]
  exact (beq_eq_false_iff_ne.mpr e).symm
theorem da_4 (a b : Str) : decide ((Sum.inr a : Key) = Sum.inr b) = decide (a = b) := by
 by_cases e : a = b
 ·subst e; simp
 ·have h : ¬ (Sum.inr a : Key) = Sum.inr b := fun q => e (Sum.inr.inj q)
  rw [decide_eq_false h, decide_eq_false e]
theorem da_5 (a : Int) (b : Str) : decide ((Sum.inl a : Key) = Sum.inr b) = false := decide_eq_false (fun q => nomatch q)
theorem da_6 (a : Str) (b : Int) : decide ((Sum.inr a : Key) = Sum.inl b) = false := decide_eq_false (fun q => nomatch q)
def e_6 (prog : Program) (w : World) : PySem.KeyKind prog w Key where
 is := au_5
 hash := keyH w
 inj := fun v a b ha hb => by
  rcases f_0 ha with ⟨i, t, rfl, rfl⟩ | ⟨x, t, rfl, rfl⟩
  ·rcases f_0 hb with ⟨j, u, rfl, e⟩ | ⟨y, u, rfl, e⟩
   ·injection e with e1 _; rw [e1]
   ·exact nomatch e
  ·rcases f_0 hb with ⟨j, u, rfl, e⟩ | ⟨y, u, rfl, e⟩
   ·exact nomatch e
   ·injection e with e1 _; rw [e1]
 byValue := fun k v h => by
  rcases f_0 h with ⟨i, t, rfl, rfl⟩ | ⟨x, t, rfl, rfl⟩ <;> rfl
 pyHash := fun hv h => by
  rcases f_0 hv with ⟨i, t, rfl, rfl⟩ | ⟨x, t, rfl, rfl⟩
  ·exact wpAny_pyHash_int h
  ·exact wpAny_pyHash_str h
 eqBool := fun hu hv h => by
  rcases f_0 hu with ⟨i, t, rfl, rfl⟩ | ⟨x, t, rfl, rfl⟩
  ·rcases f_0 hv with ⟨j, u, rfl, rfl⟩ | ⟨y, u, rfl, rfl⟩
   ·rw [da_3] at h; exact wpAny_eqBool_int h
   ·rw [da_5] at h; exact SeqAt.EqAt.int_str i t y u _ _ _ _ h
  ·rcases f_0 hv with ⟨j, u, rfl, rfl⟩ | ⟨y, u, rfl, rfl⟩
   ·rw [da_6] at h; exact SeqAt.EqAt.str_int x t j u _ _ _ _ h
   ·rw [da_4] at h; exact wpAny_eqBool_str h
 «strs» := fun k x t v h => by
  rcases f_0 h with ⟨i, u, rfl, e⟩ | ⟨y, u, rfl, e⟩
  ·exact nomatch e
  ·injection e with e1 _
   subst e1
   cases v <;> rfl
theorem bg_5 (prog : Program) (w : World) (i : Int) (t : Tok) : (e_6 prog w).is (.inl i) (.int i t) = true := ca_6 i t
theorem bg_6 (prog : Program) (w : World) (x : Str) (t : Tok) : (e_6 prog w).is (.inr x) (.str x t) = true := ca_7 x t
inductive V where
 | non | bl (b : Bool) | int (i : Int) | str (x : Str) | byt (b : Array UInt8) | flt (b : UInt64) | ref (a : Addr) | ty (n : String)
 deriving DecidableEq
def RelV : V → Value → Prop
 | .non, u => u = Value.none
 | .bl b, u => u = Value.bool b
 | .int i, u => ∃ t, u = Value.int i t
 | .str x, u => ∃ t, u = Value.str x t
 | .byt b, u => ∃ t, u = Value.bytes b t
 | .flt b, u => ∃ t, u = Value.float b t
 | .ref a, u => u = Value.ref a
 | .ty n, u => u = Value.type n
abbrev Vals : List V → List Value → Prop := Paired RelV
theorem Vals.length {xs : List V} {us : List Value} (r : Vals xs us) : xs.length = us.length := Paired.length r
theorem Vals.get : ∀ {xs : List V} {us : List Value} {i : Nat} {x : V}, Vals xs us → xs[i]? = some x → ∃ u, us[i]? = some u ∧ RelV x u
 | _, _, _, _, .nil, e => by simp at e
 | _, _, 0, _, .cons r _, e => by simp at e; subst e; exact ⟨_, rfl, r⟩
 | _, _, i + 1, x, .cons _ t, e => by
  obtain ⟨u, h1, h2⟩ := Vals.get (i := i) (x := x) t (by simpa using e)
  exact ⟨u, by simpa using h1, h2⟩
theorem Vals.set {x : V} {u : Value} (r : RelV x u) : ∀ {xs : List V} {us : List Value} (i : Nat), Vals xs us → Vals (xs.set i x) (us.set i u)
 | _, _, _, .nil => .nil
 | _, _, 0, .cons _ t => .cons r t
 | _, _, i + 1, .cons q t => .cons q (Vals.set r i t)
theorem Vals.append : ∀ {xs ys : List V} {us ws : List Value}, Vals xs us → Vals ys ws → Vals (xs ++ ys) (us ++ ws)
 | _, _, _, _, .nil, s => s
 | _, _, _, _, .cons r t, s => .cons r (Vals.append t s)
def RelO : Option V → Option Value → Prop
 | some v, some u => RelV v u
 | none, none => True
 | _, _ => False
def KV {κ : Type} : List (κ × V) → List (κ × Value) → Prop := Paired fun (p : κ × V) (q : κ × Value) => p.1 = q.1 ∧ RelV p.2 q.2
def kV : Key → V
 | .inl i => .int i
 | .inr x => .str x
inductive HO where
  | lst (xs : List V)
  | tup (xs : List V)
  | dK (kvs : List (Key × V)) | dT (kvs : List (List Key × V))
  | set (S : Int → Bool) (n : Nat)
  | ins (C dx : Addr) (fs : List (Str × V))
  | own (x : Addr)
  | xd (fs : List (Str × V))
  | met (f x : Addr)
  | rng (lo hi : Int)
  | frz (o : Obj) (u : HO)
  | tbl (ps : Array Value)
  | ext (φ : Heap → Prop)
abbrev Hp := Addr → Option HO
def upd (H : Hp) (a : Addr) (o : HO) : Hp := fun b => if b = a then some o else H b
theorem b_1 {H : Hp} {a : Addr} {o : HO} : upd H a o a = some o := by unfold upd; rw [if_pos rfl]
theorem a_8 {H : Hp} {a b : Addr} {o : HO} (h : b ≠ a) : upd H a o b = H b := by unfold upd; rw [if_neg h]
theorem dh_1 {H : Hp} {a b : Addr} {o u : HO} (h : H a = some o) (h' : H b = some u) (d : o ≠ u) : a ≠ b := by
 intro e; subst e; rw [h] at h'; exact d (Option.some.inj h')
theorem b_9 {H : Hp} {a b : Addr} {o : HO} (h : H a = some o) (h' : H b = none) : a ≠ b := by
 intro e; subst e; rw [h] at h'; cases h'
section
variable (P : Program) (w : World)
def ObjOk (H : Hp) (h : Heap) (a : Addr) : HO → Prop
 | .lst xs => xs.length ≤ sizeLine ∧ ∃ (its : List Value) (n : Nat), Vals xs its ∧ h.get? a = some { cls := .type "list", data := .seq its.toArray n }
 | .tup xs => xs.length ≤ sizeLine ∧ ∃ its : List Value, Vals xs its ∧ IsTup h a its.toArray
 | .dK kvs => kvs.length ≤ sizeLine ∧ (a == sysModules) = false ∧ ∃ vs, KV kvs vs ∧ h.DictOf (e_6 P w) a vs
 | .dT kvs => kvs.length ≤ sizeLine ∧ (a == sysModules) = false ∧ ∃ xs : List (List Key × Addr × Value),
   Paired (fun (p : List Key × V) (q : List Key × Addr × Value) => p.1 = q.1 ∧ H q.2.1 = some (.tup (p.1.map kV)) ∧ RelV p.2 q.2.2) kvs xs ∧
   ∃ o es ep, h.get? a = some o ∧ o.ExactDict ∧ o.data = .dict es ep ∧ es.toList = xs.map (entryOfKey (tupleKind (e_6 P w))) ∧ (xs.map (·.1)).Nodup
 | .set S n => h.SetOf (intKind P w) a S n
 | .ins C dx fs => H dx = some (.own a) ∧ fs.length ≤ 1000 ∧ dx ≠ a ∧ h.get? a = some (instObj C dx) ∧
   ∃ mA, h.Ns1 dx mA ∧ (∀ f, RelO (fs.lookup f) (mA f)) ∧ PySem.Within mA (fs.map (·.1))
 | .own _ => ∃ o, h.get? a = some o
 | .xd fs => ∃ mA, h.Ns1 a mA ∧ ∀ f, RelO (fs.lookup f) (mA f)
 | .rng lo hi => ∃ t u v, h.get? a = some { cls := .type "range", data := .fields #[.int lo t, .int hi u, .int 1 v] }
 | .frz o u => h.get? a = some o ∧ ObjOk H h a u
 | .tbl ps => h.get? a = some { cls := .none, data := .fields ps }
 | .met f x => h.get? a = some (methodObj (.ref f) (.ref x))
 | .ext φ => φ h ∧ (∃ o, h.get? a = some o) ∧ ∀ h1 h2 : Heap, φ h1 → (∀ o, h1.get? a = some o → h2.get? a = some o) → φ h2
def HOk (H : Hp) (h : Heap) : Prop := ∀ a o, H a = some o → ObjOk P w H h a o
end
section
variable {P : Program} {w : World} {H H' : Hp} {h h' : Heap} {a : Addr} {o : HO}
theorem ObjOk.lt (x : ObjOk P w H h a o) : a < h.objs.size := by
 cases o with
 | lst xs => obtain ⟨_, _, _, _, e⟩ := x; exact Heap.lt_size e
 | tup xs => obtain ⟨_, _, _, p⟩ := x; exact p.lt
 | dK kvs => obtain ⟨_, _, _, _, o, _, _, e, _⟩ := x; exact Heap.lt_size e
 | dT kvs => obtain ⟨_, _, _, _, o, _, _, e, _⟩ := x; exact Heap.lt_size e
 | set S n => obtain ⟨o, _, _, _, e, _⟩ := x; exact Heap.lt_size e
 | ins C dx fs => obtain ⟨_, _, _, e, _⟩ := x; exact Heap.lt_size e
 | own y => obtain ⟨_, e⟩ := x; exact Heap.lt_size e
 | xd fs => obtain ⟨_, ⟨_, _, _, e, _⟩, _⟩ := x; exact Heap.lt_size e
 | rng lo hi => obtain ⟨_, _, _, e⟩ := x; exact Heap.lt_size e
 | frz ob u => obtain ⟨e, _⟩ := x; exact Heap.lt_size e
 | tbl ps => exact Heap.lt_size (show h.get? a = some _ from x)
 | met f y => exact Heap.lt_size (show h.get? a = some _ from x)
 | ext φ => obtain ⟨_, ⟨_, e⟩, _⟩ := x; exact Heap.lt_size e
theorem Paired.mapP {α β : Type} {F G : α → β → Prop} : ∀ {l₁ : List α} {l₂ : List β}, Paired F l₁ l₂ → (∀ a b, F a b → G a b) → Paired G l₁ l₂
 | _, _, .nil, _ => .nil
 | _, _, .cons r t, f => .cons (f _ _ r) (Paired.mapP t f)
theorem ObjOk.stay (x : ObjOk P w H h a o) (k : ∀ b u, (b = a ∨ H b = some (.own a)) → h.get? b = some u → h'.get? b = some u)
  (ho : ∀ b, H b = some (.own a) → H' b = some (.own a)) (ht : ∀ b xs, H b = some (.tup xs) → H' b = some (.tup xs)) : ObjOk P w H' h' a o := by
 induction o with
 | lst xs => obtain ⟨z, its, n, r, e⟩ := x; exact ⟨z, its, n, r, k _ _ (.inl rfl) e⟩
 | tup xs => obtain ⟨z, its, r, ob, e, c⟩ := x; exact ⟨z, its, r, ob, k _ _ (.inl rfl) e, c⟩
 | dK kvs => obtain ⟨z, y, vs, r, ob, es, ep, e, c⟩ := x; exact ⟨z, y, vs, r, ob, es, ep, k _ _ (.inl rfl) e, c⟩
 | dT kvs =>
  obtain ⟨z, y, xs, r, ob, es, ep, e, c⟩ := x
  exact ⟨z, y, xs, Paired.mapP r fun p q z => ⟨z.1, ht _ _ z.2.1, z.2.2⟩, ob, es, ep, k _ _ (.inl rfl) e, c⟩
 | set S n => obtain ⟨ob, es, ep, t, e, c⟩ := x; exact ⟨ob, es, ep, t, k _ _ (.inl rfl) e, c⟩
 | ins C dx fs =>
  obtain ⟨d, z, ne, e, mA, ⟨od, es, ep, e2, c⟩, r⟩ := x
  exact ⟨ho _ d, z, ne, k _ _ (.inl rfl) e, mA, ⟨od, es, ep, k _ _ (.inr d) e2, c⟩, r⟩
 | own y => obtain ⟨ob, e⟩ := x; exact ⟨ob, k _ _ (.inl rfl) e⟩
 | xd fs => obtain ⟨mA, ⟨od, es, ep, e, c⟩, r⟩ := x; exact ⟨mA, ⟨od, es, ep, k _ _ (.inl rfl) e, c⟩, r⟩
 | rng lo hi => obtain ⟨t, u, v, e⟩ := x; exact ⟨t, u, v, k _ _ (.inl rfl) e⟩
 | frz ob u ih => obtain ⟨e, q⟩ := x; exact ⟨k _ _ (.inl rfl) e, ih q⟩
 | tbl ps =>
  have e : h.get? a = some { cls := .none, data := .fields ps } := x
  show h'.get? a = some { cls := .none, data := .fields ps }
  exact k a _ (.inl rfl) e
 | met f y =>
  have e : h.get? a = some (methodObj (.ref f) (.ref y)) := x
  show h'.get? a = some (methodObj (.ref f) (.ref y))
  exact k a _ (.inl rfl) e
 | ext φ => obtain ⟨p, ⟨o, e⟩, st⟩ := x; exact ⟨st _ _ p fun o q => k _ _ (.inl rfl) q, ⟨o, k _ _ (.inl rfl) e⟩, st⟩
theorem HOk.lt (x : HOk P w H h) (e : H a = some o) : a < h.objs.size := (x a o e).lt
theorem HOk.fresh (x : HOk P w H h) (e : h.objs.size ≤ a) : H a = none := by
 cases q : H a with
 | none => rfl
 | some u => exact absurd (Nat.lt_of_lt_of_le (x.lt q) e) (Nat.lt_irrefl _)
theorem HOk.kept (x : HOk P w H h) (k : ∀ b u, h.get? b = some u → h'.get? b = some u) : HOk P w H h' := fun a o e =>
 (x a o e).stay (fun b u _ q => k b u q) (fun _ q => q) fun _ _ q => q
theorem HOk.laid (x : HOk P w H h) (k : ∀ b u, h.get? b = some u → h'.get? b = some u) (hp : h.objs.size ≤ a) (new : ObjOk P w (upd H a o) h' a o) : HOk P w (upd H a o) h' := fun b u e => by
 have hn := x.fresh hp
 by_cases hb : b = a
 ·subst hb; rw [b_1] at e; cases e; exact new
 ·rw [a_8 hb] at e
  exact (x b u e).stay (fun c v _ q => k c v q) (fun c q => by rw [a_8 (b_9 q hn)]; exact q) fun c xs q => by rw [a_8 (b_9 q hn)]; exact q
end
def Rd (H : Hp) (a : Addr) (u : HO) : Prop := H a = some u ∨ ∃ o, H a = some (.frz o u)
theorem Rd.ok {P : Program} {w : World} {H : Hp} {h : Heap} {a : Addr} {u : HO} (r : Rd H a u) (x : HOk P w H h) : ObjOk P w H h a u := by
 rcases r with r | ⟨o, r⟩
 ·exact x a u r
 ·obtain ⟨_, q⟩ := x a _ r
  exact q
def Mut : Option HO → Prop
 | some (.lst _) => True
 | some (.dK _) => True
 | some (.dT _) => True
 | some (.set _ _) => True
 | some (.ins _ _ _) => True
 | some (.ext _) => True
 | _ => False
section
variable {P : Program} {w : World} {H : Hp} {h h' : Heap} {x e : Addr} {o' : HO}
theorem HOk.write (ok : HOk P w H h) (mu : Mut (H x)) (he : e = x ∨ H e = some (.own x)) (k : ∀ b u, b ≠ e → h.get? b = some u → h'.get? b = some u) (heo : ∃ u, h'.get? e = some u)
  (new : ObjOk P w (upd H x o') h' x o') : HOk P w (upd H x o') h' := fun b u q => by
 have cy : ∀ c y, H c = some (.own y) → c ≠ x := fun c y r z => by subst z; rw [r] at mu; exact mu
 have fj : ∀ c xs, H c = some (.tup xs) → c ≠ x := fun c xs r z => by subst z; rw [r] at mu; exact mu
 by_cases hb : b = x
 ·subst hb; rw [b_1] at q; cases q; exact new
 ·rw [a_8 hb] at q
  by_cases hbe : b = e
  ·have q' : H b = some (.own x) := by
    rcases he with z | z
    ·exact absurd (hbe.trans z) hb
    ·rw [hbe]; exact z
   rw [q] at q'; cases q'
   obtain ⟨v, hv⟩ := heo
   exact ⟨v, by rw [hbe]; exact hv⟩
  ·refine (ok b u q).stay (fun c v hc r => k c v ?_ r) (fun c r => by rw [a_8 (cy c b r)]; exact r) fun c xs r => by rw [a_8 (fj c xs r)]; exact r
   rcases hc with rfl | hc
   ·exact hbe
   ·rintro rfl
    rcases he with z | z
    ·exact cy c b hc z
    ·rw [hc] at z; cases z; exact hb rfl
end
structure Un (fs ex : List Addr) (H H' : Hp) (h h' : Heap) : Prop where
 keep : ∀ b o, h.get? b = some o → H b = none → b ∉ fs → b ∉ ex → h'.get? b = some o
 slot : ∀ b o, h.get? b = some o → H b = none → b ∈ fs → b ∉ ex → ∃ sl, h'.get? b = some { o with slots := sl }
 free : ∀ b o, h.get? b = some o → H b = none → b ∉ ex → H' b = none
 there : ∀ b o, h.get? b = some o → b ∉ ex → ∃ o', h'.get? b = some o'
 tups : ∀ b xs, H b = some (.tup xs) → H' b = some (.tup xs)
 frzs : ∀ b o u, H b = some (.frz o u) → H' b = some (.frz o u)
 tbls : ∀ b ps, H b = some (.tbl ps) → ∃ more, H' b = some (.tbl (ps ++ more))
section
variable {fs fs' ex ex' : List Addr} {H H1 H2 : Hp} {h h1 h2 h' : Heap} {a x e : Addr} {o : HO}
theorem Un.any (u : Un fs ex H H1 h h1) {b : Addr} {ob : Obj} (q : h.get? b = some ob) (n : H b = none) (hx : b ∉ ex) : ∃ sl, h1.get? b = some { ob with slots := sl } := by
 by_cases hb : b ∈ fs
 ·exact u.slot b ob q n hb hx
 ·exact ⟨ob.slots, u.keep b ob q n hb hx⟩
theorem Un.kept (k : ∀ b u, h.get? b = some u → h'.get? b = some u) : Un fs ex H H h h' :=
 ⟨fun b ob q _ _ _ => k b ob q, fun b ob q _ _ _ => ⟨ob.slots, k b ob q⟩, fun _ _ _ n _ => n, fun b ob q _ => ⟨ob, k b ob q⟩, fun _ _ q => q, fun _ _ _ q => q, fun _ ps q => ⟨#[], by rw [q]; simp⟩⟩
theorem Un.refl : Un fs ex H H h h := Un.kept fun _ _ q => q
theorem Un.laid (k : ∀ b u, h.get? b = some u → h'.get? b = some u) (hp : h.objs.size ≤ a) (hn : H a = none) : Un fs ex H (upd H a o) h h' where
 keep := fun b u q _ _ _ => k b u q
 slot := fun b u q _ _ _ => ⟨u.slots, k b u q⟩
 free := fun b u q n _ => by rw [a_8 (Nat.ne_of_lt (Nat.lt_of_lt_of_le (Heap.lt_size q) hp))]; exact n
 there := fun b u q _ => ⟨u, k b u q⟩
 tups := fun b xs q => by rw [a_8 (b_9 q hn)]; exact q
 frzs := fun b u xs q => by rw [a_8 (b_9 q hn)]; exact q
 tbls := fun b ps q => ⟨#[], by rw [a_8 (b_9 q hn), q]; simp⟩
theorem Un.write (mu : Mut (H x)) (he : e = x ∨ H e = some (.own x)) (k : ∀ b u, b ≠ e → h.get? b = some u → h'.get? b = some u) (heo : ∃ u, h'.get? e = some u) : Un fs ex H (upd H x o) h h' := by
 have hx : ∀ b, H b = none → b ≠ x := fun b n z => by subst z; rw [n] at mu; exact mu
 have hb : ∀ b, H b = none → b ≠ e := fun b n z => by
  subst z
  rcases he with r | r
  ·exact hx b n r
  ·rw [n] at r; cases r
 have hm : ∀ b u, H b = some u → ¬ Mut (some u) → b ≠ x := fun b u q nm z => by subst z; rw [q] at mu; exact nm mu
 refine ⟨fun b u q n _ _ => k b u (hb b n) q, fun b u q n _ _ => ⟨u.slots, k b u (hb b n) q⟩, fun b u q n _ => by rw [a_8 (hx b n)]; exact n, fun b u q _ => ?_,
  fun b xs q => by rw [a_8 (hm b _ q fun z => z)]; exact q, fun b u xs q => by rw [a_8 (hm b _ q fun z => z)]; exact q, fun b ps q => ⟨#[], by rw [a_8 (hm b _ q fun z => z), q]; simp⟩⟩
 by_cases hbe : b = e
 ·subst hbe; exact heo
 ·exact ⟨u, k b u hbe q⟩
end
def trk (h : Heap) (H : Hp) : List Addr := (List.range h.objs.size).filter fun a => (H a).isSome
def hidT (h : Heap) (H : Hp) : Heap := hideAll h (trk h H)
theorem ca_8 (h : Heap) (H : Hp) : (hidT h H).objs.size = h.objs.size := hideAll_size _ _
theorem cg_7 {h : Heap} {H : Hp} {b : Addr} {o : Obj} (e : h.get? b = some o) (n : H b = none) : (hidT h H).get? b = some o :=
 hideAll_get _ e fun hm => by
  have q : (H b).isSome = true := (List.mem_filter.mp hm).2
  rw [n] at q; simp at q
theorem cr_6 {h : Heap} {H : Hp} {b : Addr} {o : Obj} (e : (hidT h H).get? b = some o) : h.get? b = some o ∧ H b = none := by
 have e' : h.get? b = some o := of_hideAll (trk h H) e
 refine ⟨e', ?_⟩
 cases q : H b with
 | none => rfl
 | some x =>
  have hm : b ∈ trk h H := List.mem_filter.mpr ⟨List.mem_range.mpr (Heap.lt_size e'), by simp [q]⟩
  have z : (hidT h H).get? b = none := hideAll_none (trk h H) hm
  rw [z] at e; cases e
structure Mod (K : Frag) (mg : Str → Option Value) (base : Heap) : Prop where
 kin : K.In base
 glob : base.Ns mainGlobals mg
 blt : ∃ mb, base.Ns builtinsNs mb ∧ ∀ x : Str, x ≠ "__name__" → mb x = bootBuiltins x
 nolimit : base.NoLimit
structure Cx where
 prog : Program
 w : World
 K : Frag
 mg : Str → Option Value
 base : Heap
 A : Around
 N : List Str
 s₀ : Shared
 H₀ : Hp
 env : Env
 outer : List Env
 stack : List Env
 ex : List Addr
 fn : Str → Bool
 calm : Bool
 pn : List (Addr × Obj)
 xe : Value → Shared → Prop
def frs (l : List Env) : List Addr := l.filterMap (·.frame)
abbrev Cx.fs (X : Cx) : List Addr := frs X.outer
def Vis (sc : Scope) (x : Str) : Prop := sc.names.lookup x = some .local ∨ sc.names.lookup x = some .cell ∨ sc.names.lookup x = some .free
def Loc (sc : Scope) (x : Str) : Prop := sc.names.lookup x = some .local ∨ sc.names.lookup x = some .cell
def Look (env : Env) (h : Heap) (m : Str → Option Value) (x : Str) (u : Value) : Prop :=
 (env.kindOf x = some .local ∧ m x = some u) ∨ ((env.kindOf x = some .cell ∨ env.kindOf x = some .free) ∧ ∃ c, env.cells.lookup x = some c ∧ h.IsCell c (some u))
structure Cx.Ok (X : Cx) : Prop where
 mod : Mod X.K X.mg X.base
 kind : X.env.scope.kind = .function
 glob : X.env.globals = mainGlobals
 blt : X.env.builtins = builtinsNs
 above : X.s₀.heap.objs.size ≤ X.env.locals
 inj : ∀ x y c, X.env.cells.lookup x = some c → X.env.cells.lookup y = some c → x = y
 has : ∀ x, (X.env.kindOf x = some .cell ∨ X.env.kindOf x = some .free) → ∃ c, X.env.cells.lookup x = some c
 cab : ∀ x c, X.fn x = true → X.env.cells.lookup x = some c → X.s₀.heap.objs.size ≤ c
 hd : X.calm = true → X.A.handled = none
 frames : X.A.frames = some X.stack
 stk : X.stack = X.outer ∨ (X.stack = X.env :: X.outer ∧ X.env.frame = some X.env.locals)
 exf : ∀ b ∈ X.ex, b ≠ X.env.locals ∧ ∀ x c, X.env.cells.lookup x = some c → c ≠ b
 bs : ∀ b o, X.base.get? b = some o → X.s₀.heap.get? b = some o ∧ X.H₀ b = none
 bsz : X.base.objs.size ≤ X.s₀.heap.objs.size
 noex : ∀ b o, X.base.get? b = some o → b ∉ X.ex
 exfs : ∀ b ∈ X.ex, b ∉ X.fs
 funs : X.s₀.heap.FunFrames X.base X.outer
 frf : ∀ b ∈ X.fs, X.H₀ b = none
structure Inv (X : Cx) (zd : List (Addr × Obj)) (σ : List (Option V)) (H : Hp) (s : Shared) : Prop where
 ok : X.Ok
 os : s.os = X.s₀.os
 bare : AllBare s.gens
 base : Un X.fs X.ex X.H₀ H X.s₀.heap s.heap
 loc : ∃ m, s.heap.Ns X.env.locals m ∧ ∀ (i : Nat) (x : Str) (v : V), X.N[i]? = some x → σ[i]? = some (some v) → Vis X.env.scope x → ∃ u, RelV v u ∧ Look X.env s.heap m x u
 cell : ∀ x c, X.env.cells.lookup x = some c → ∃ v, s.heap.IsCell c v
 free : H X.env.locals = none
 freeC : ∀ x c, X.env.cells.lookup x = some c → H c = none
 pin : ∀ p ∈ X.pn ++ zd, s.heap.get? p.1 = some p.2 ∧ H p.1 = none ∧ p.1 ≠ X.env.locals ∧ p.1 ∉ X.fs ∧ ∀ v, p.2.data ≠ .cell v
 hok : HOk X.prog X.w H s.heap
 len : σ.length = X.N.length
section
variable {X : Cx} {zd : List (Addr × Obj)} {σ : List (Option V)} {H H' : Hp} {s : Shared} {h' : Heap}
theorem Cx.Ok.nofr (ok : X.Ok) {b : Addr} {o : Obj} (e : X.base.get? b = some o) : b ∉ X.fs := fun hb => by
 have := (ok.funs.mem hb).1
 rw [e] at this; cases this
theorem Inv.bs (I : Inv X zd σ H s) : ∀ b o, X.base.get? b = some o → s.heap.get? b = some o ∧ H b = none := fun b o e =>
 ⟨I.base.keep b o (I.ok.bs b o e).1 (I.ok.bs b o e).2 (I.ok.nofr e) (I.ok.noex b o e), I.base.free b o (I.ok.bs b o e).1 (I.ok.bs b o e).2 (I.ok.noex b o e)⟩
theorem Inv.bk (I : Inv X zd σ H s) : ∀ b o, X.base.get? b = some o → s.heap.get? b = some o := fun b o e => (I.bs b o e).1
theorem Inv.mod (I : Inv X zd σ H s) : Mod X.K X.mg X.base := I.ok.mod
theorem Inv.kIn (I : Inv X zd σ H s) : X.K.In s.heap := I.ok.mod.kin.keeps I.bk
theorem Inv.nolimit (I : Inv X zd σ H s) : s.heap.NoLimit := I.ok.mod.nolimit.keeps I.bk
theorem Inv.fr (I : Inv X zd σ H s) : ∃ m, Fr X.base X.env.locals s.heap m :=
 let ⟨m, hn, _⟩ := I.loc
 ⟨m, hn, I.bk, Nat.le_trans I.ok.bsz I.ok.above⟩
theorem Inv.lt (I : Inv X zd σ H s) : X.env.locals < s.heap.objs.size := let ⟨_, hn, _⟩ := I.loc; hn.lt
theorem Inv.sz (I : Inv X zd σ H s) : X.s₀.heap.objs.size ≤ s.heap.objs.size := Nat.le_trans I.ok.above (Nat.le_of_lt I.lt)
theorem Inv.nofs (I : Inv X zd σ H s) {a : Addr} (h : s.heap.objs.size ≤ a) : a ∉ X.fs := fun hb => by
 obtain ⟨_, o, ho, _⟩ := I.ok.funs.mem hb
 exact absurd (Nat.lt_of_lt_of_le (Heap.lt_size ho) (Nat.le_trans I.sz h)) (Nat.lt_irrefl _)
theorem Inv.cne (I : Inv X zd σ H s) : ∀ x c, X.env.cells.lookup x = some c → c ≠ X.env.locals := fun x c e z => by
 obtain ⟨v, o, ho, hd⟩ := I.cell x c e
 obtain ⟨m, ⟨o', es, ep, ho', hd', _⟩, _⟩ := I.loc
 rw [z, ho'] at ho; cases ho; rw [hd'] at hd; cases hd
theorem Inv.funs (I : Inv X zd σ H s) : s.heap.FunFrames X.base X.outer := by
 have all : ∀ (l : List Env), (∀ b ∈ frs l, b ∈ X.fs) → X.s₀.heap.FunFrames X.base l → s.heap.FunFrames X.base l := by
  intro l
  induction l with
  | nil => intro _ _; trivial
  | cons env r ih =>
   intro hs hl
   obtain ⟨hk, ⟨L, o, hf, hn, ho, hd⟩, hr⟩ := hl
   have hL : L ∈ X.fs := hs L (by unfold frs; rw [List.filterMap_cons, hf]; exact List.mem_cons_self)
   obtain ⟨sl, e⟩ := I.base.slot L o ho (I.ok.frf L hL) hL fun z => I.ok.exfs L z hL
   exact ⟨hk, ⟨L, _, hf, hn, e, hd⟩, ih (fun b hb => hs b (by unfold frs; rw [List.filterMap_cons, hf]; exact List.mem_cons_of_mem _ hb)) hr⟩
 exact all X.outer (fun _ hb => hb) I.ok.funs
theorem Inv.stack (I : Inv X zd σ H s) : s.heap.FunFrames X.base X.stack := by
 rcases I.ok.stk with e | ⟨e, hf⟩
 ·rw [e]; exact I.funs
 ·rw [e]
  obtain ⟨m, hn, _⟩ := I.loc
  refine .cons (by rw [I.ok.kind]; decide) hf hn ?_ I.funs
  exact Heap.get?_none_of_le (Nat.le_trans I.ok.bsz I.ok.above)
theorem Inv.stkSub (I : Inv X zd σ H s) : ∀ b ∈ frs X.stack, b ∈ X.env.locals :: X.fs := fun b hb => by
 rcases I.ok.stk with e | ⟨e, hf⟩
 ·rw [e] at hb; exact List.mem_cons_of_mem _ hb
 ·rw [e] at hb
  unfold frs at hb
  rw [List.filterMap_cons, hf] at hb
  exact hb
theorem Inv.stkFree (I : Inv X zd σ H s) : ∀ b ∈ frs X.stack, H b = none := fun b hb => by
 rcases List.mem_cons.mp (I.stkSub b hb) with e | hb
 ·rw [e]; exact I.free
 ·obtain ⟨_, o, ho, _⟩ := I.ok.funs.mem hb
  exact I.base.free b o ho (I.ok.frf b hb) fun z => I.ok.exfs b z hb
theorem Inv.step {g' : Array GenState} {t' : Nat} {d' : Drawn} {ch : List Addr} (I : Inv X zd σ H s)
  (hch : ∀ b ∈ ch, (b ∈ X.ex ∨ X.s₀.heap.objs.size ≤ b) ∧ b ≠ X.env.locals ∧ (∀ x c, X.env.cells.lookup x = some c → c ≠ b) ∧ ∀ p ∈ X.pn ++ zd, p.1 ≠ b)
  (keep : ∀ b o, b ≠ X.env.locals → b ∉ X.fs → b ∉ ch → s.heap.get? b = some o → H b = none → h'.get? b = some o)
  (slot : ∀ b o, b ≠ X.env.locals → b ∈ X.fs → b ∉ ch → s.heap.get? b = some o → H b = none → ∃ sl, h'.get? b = some { o with slots := sl }) (free : ∀ b o, b ∉ ch → s.heap.get? b = some o → H b = none → H' b = none)
  (there : ∀ b o, b ∉ ch → s.heap.get? b = some o → ∃ o', h'.get? b = some o')
  (tups : ∀ b xs, H b = some (.tup xs) → H' b = some (.tup xs)) (frzs : ∀ b o u, H b = some (.frz o u) → H' b = some (.frz o u)) (tbls : ∀ b ps, H b = some (.tbl ps) → ∃ more, H' b = some (.tbl (ps ++ more)))
  (ns : ∀ m, s.heap.Ns X.env.locals m → h'.Ns X.env.locals m) (hok : HOk X.prog X.w H' h') (hg : AllBare g') :
  Inv X zd σ H' { s with heap := h', gens := g', drawn := d', toks := t' } := by
 have neL : ∀ b o, X.s₀.heap.get? b = some o → b ≠ X.env.locals := fun b o e => Nat.ne_of_lt (Nat.lt_of_lt_of_le (Heap.lt_size e) I.ok.above)
 have neC : ∀ b o, X.s₀.heap.get? b = some o → b ∉ X.ex → b ∉ ch := fun b o e hx hb => by
  rcases (hch b hb).1 with z | z
  ·exact hx z
  ·exact absurd (Nat.lt_of_lt_of_le (Heap.lt_size e) z) (Nat.lt_irrefl _)
 have cellK : ∀ x c, X.env.cells.lookup x = some c → ∀ v, s.heap.IsCell c v → h'.IsCell c v := fun x c e v ⟨o, ho, hd⟩ => by
  have nch : c ∉ ch := fun z => (hch c z).2.2.1 x c e rfl
  by_cases hc : c ∈ X.fs
  ·obtain ⟨sl, q⟩ := slot c o (I.cne x c e) hc nch ho (I.freeC x c e)
   exact ⟨_, q, hd⟩
  ·exact ⟨o, keep c o (I.cne x c e) hc nch ho (I.freeC x c e), hd⟩
 refine ⟨I.ok, I.os, hg, ⟨fun b o e n hb hx => ?_, fun b o e n hb hx => ?_, fun b o e n hx => ?_, fun b o e hx => ?_, fun b xs e => tups b xs (I.base.tups b xs e), fun b o xs e => frzs b o xs (I.base.frzs b o xs e), fun b ps e => ?_⟩, ?_, fun x c e => ?_, ?_, fun x c e => ?_, fun p hp => ?_, hok, I.len⟩
 ·exact keep b o (neL b o e) hb (neC b o e hx) (I.base.keep b o e n hb hx) (I.base.free b o e n hx)
 ·obtain ⟨sl, e1⟩ := I.base.slot b o e n hb hx
  obtain ⟨sl', e2⟩ := slot b _ (neL b o e) hb (neC b o e hx) e1 (I.base.free b o e n hx)
  exact ⟨sl', e2⟩
 ·obtain ⟨o', e1⟩ := I.base.there b o e hx
  exact free b o' (neC b o e hx) e1 (I.base.free b o e n hx)
 ·obtain ⟨o', e1⟩ := I.base.there b o e hx
  exact there b o' (neC b o e hx) e1
 ·obtain ⟨m1, e1⟩ := I.base.tbls b ps e
  obtain ⟨m2, e2⟩ := tbls b _ e1
  exact ⟨m1 ++ m2, by rw [e2, Array.append_assoc]⟩
 ·obtain ⟨m, hn, hl⟩ := I.loc
  refine ⟨m, ns m hn, fun i x v e1 e2 e3 => ?_⟩
  obtain ⟨u, r, l⟩ := hl i x v e1 e2 e3
  refine ⟨u, r, ?_⟩
  rcases l with l | ⟨k, c, e, z⟩
  ·exact .inl l
  ·exact .inr ⟨k, c, e, cellK x c e _ z⟩
 ·obtain ⟨v, z⟩ := I.cell x c e
  exact ⟨v, cellK x c e v z⟩
 ·obtain ⟨m, ⟨o, _, _, ho, _⟩, _⟩ := I.loc
  exact free _ o (fun z => (hch _ z).2.1 rfl) ho I.free
 ·obtain ⟨v, o, ho, hd⟩ := I.cell x c e
  exact free c o (fun z => (hch c z).2.2.1 x c e rfl) ho (I.freeC x c e)
 ·obtain ⟨e, n, ne, nf, d⟩ := I.pin p hp
  have nch : p.1 ∉ ch := fun z => (hch p.1 z).2.2.2 p hp rfl
  exact ⟨keep p.1 p.2 ne nf nch e n, free p.1 p.2 nch e n, ne, nf, d⟩
theorem Inv.un {t' : Nat} (I : Inv X zd σ H s) (u : Un X.fs [] H H' s.heap h') (hok : HOk X.prog X.w H' h') : Inv X zd σ H' { s with heap := h', toks := t' } := by
 obtain ⟨m, ⟨o, es, ep, ho, r⟩, _⟩ := id I.loc
 obtain ⟨sl, hL⟩ := u.any ho I.free (by simp)
 exact I.step (g' := s.gens) (d' := s.drawn) (ch := []) (fun _ z => nomatch z) (fun b o _ hb _ e n => u.keep b o e n hb (by simp)) (fun b o _ hb _ e n => u.slot b o e n hb (by simp)) (fun b o _ e n => u.free b o e n (by simp)) (fun b o _ e => u.there b o e (by simp)) u.tups u.frzs u.tbls (fun m' hm => by
  obtain ⟨o', es', ep', ho', r'⟩ := hm
  rw [ho] at ho'; cases ho'
  exact ⟨_, es', ep', hL, r'⟩) hok I.bare
theorem Inv.call {g' : Array GenState} {t' : Nat} {d' : Drawn} {ch : List Addr} (I : Inv X zd σ H s) (u : Un (frs X.stack) ch H H' s.heap h') (hok : HOk X.prog X.w H' h') (hg : AllBare g')
  (hch : ∀ b ∈ ch, (b ∈ X.ex ∨ X.s₀.heap.objs.size ≤ b) ∧ b ≠ X.env.locals ∧ (∀ x c, X.env.cells.lookup x = some c → c ≠ b) ∧ ∀ p ∈ X.pn ++ zd, p.1 ≠ b) :
  Inv X zd σ H' { s with heap := h', gens := g', drawn := d', toks := t' } := by
 obtain ⟨m, ⟨o, es, ep, ho, r⟩, _⟩ := id I.loc
 obtain ⟨sl, hL⟩ := u.any ho I.free fun z => (hch _ z).2.1 rfl
 exact I.step (ch := ch) hch (fun b o hL hb hc e n => u.keep b o e n (fun z => (List.mem_cons.mp (I.stkSub b z)).elim hL hb) hc) (fun b o _ _ hc e n => u.any e n hc) (fun b o hc e n => u.free b o e n hc) (fun b o hc e => u.there b o e hc) u.tups u.frzs u.tbls (fun m' hm => by
  obtain ⟨o', es', ep', ho', r'⟩ := hm
  rw [ho] at ho'; cases ho'
  exact ⟨_, es', ep', hL, r'⟩) hok hg
theorem Inv.turned {t' : Nat} {it : Addr} (I : Inv X zd σ H s) (k : ∀ b o, b ≠ it → s.heap.get? b = some o → h'.get? b = some o) (hn : H it = none) (hL : it ≠ X.env.locals)
  (h1 : it ∈ X.ex ∨ X.s₀.heap.objs.size ≤ it) (h2 : ∀ x c, X.env.cells.lookup x = some c → c ≠ it) (h3 : ∀ p ∈ X.pn ++ zd, p.1 ≠ it) : Inv X zd σ H { s with heap := h', toks := t' } := by
 have nit : ∀ b u, H b = some u → b ≠ it := fun b u e z => by rw [z, hn] at e; cases e
 refine I.step (g' := s.gens) (d' := s.drawn) (ch := [it]) (fun b hb => ?_) (fun b o _ _ hc e _ => k b o (fun z => hc (by simp [z])) e) (fun b o _ _ hc e _ => ⟨o.slots, k b o (fun z => hc (by simp [z])) e⟩) (fun _ _ _ _ n => n)
  (fun b o hc e => ⟨o, k b o (fun z => hc (by simp [z])) e⟩) (fun _ _ e => e) (fun _ _ _ e => e) (fun b ps e => ⟨#[], by rw [e]; simp⟩) (fun m hm => ?_) (fun b u e => ?_) I.bare
 ·have e : b = it := by simpa using hb
  subst e
  exact ⟨h1, hL, h2, h3⟩
 ·obtain ⟨o, es, ep, ho, r⟩ := hm
  exact ⟨o, es, ep, k _ o (Ne.symm hL) ho, r⟩
 ·refine (I.hok b u e).stay (fun c v hc q => k c v ?_ q) (fun _ q => q) fun _ _ q => q
  rcases hc with z | z
  ·rw [z]; exact nit b u e
  ·exact nit c _ z
theorem Inv.tok (I : Inv X zd σ H s) (t : Nat) : Inv X zd σ H { s with toks := t } := I.un (h' := s.heap) (t' := t) Un.refl I.hok
theorem Inv.kept {t' : Nat} (I : Inv X zd σ H s) (k : ∀ b u, s.heap.get? b = some u → h'.get? b = some u) : Inv X zd σ H { s with heap := h', toks := t' } := I.un (Un.kept k) (I.hok.kept k)
theorem Inv.laid {a : Addr} {o : HO} {t' : Nat} (I : Inv X zd σ H s) (k : ∀ b u, s.heap.get? b = some u → h'.get? b = some u) (hp : s.heap.objs.size ≤ a) (new : ObjOk X.prog X.w (upd H a o) h' a o) :
  Inv X zd σ (upd H a o) { s with heap := h', toks := t' } := I.un (Un.laid k hp (I.hok.fresh hp)) (I.hok.laid k hp new)
theorem Inv.write {x e : Addr} {o : HO} {t' : Nat} (I : Inv X zd σ H s) (mu : Mut (H x)) (he : e = x ∨ H e = some (.own x)) (k : ∀ b u, b ≠ e → s.heap.get? b = some u → h'.get? b = some u) (heo : ∃ u, h'.get? e = some u)
  (new : ObjOk X.prog X.w (upd H x o) h' x o) : Inv X zd σ (upd H x o) { s with heap := h', toks := t' } := I.un (Un.write mu he k heo) (I.hok.write mu he k heo new)
theorem Inv.pins_of {ai : List (Addr × Obj)} (I : Inv X zd σ H s) (h : ∀ p ∈ ai, s.heap.get? p.1 = some p.2 ∧ H p.1 = none ∧ p.1 ≠ X.env.locals ∧ p.1 ∉ X.fs ∧ ∀ v, p.2.data ≠ .cell v) : Inv X ai σ H s :=
 ⟨I.ok, I.os, I.bare, I.base, I.loc, I.cell, I.free, I.freeC, fun p hp => (List.mem_append.mp hp).elim (fun z => I.pin p (List.mem_append_left _ z)) (h p), I.hok, I.len⟩
theorem an_3 {N : List Str} (hN : N.Nodup) {i j : Nat} {x : Str} (a : N[i]? = some x) (b : N[j]? = some x) : i = j := by
 obtain ⟨h1, e1⟩ := List.getElem?_eq_some_iff.mp a
 obtain ⟨h2, e2⟩ := List.getElem?_eq_some_iff.mp b
 exact (List.getElem_inj hN).mp (e1.trans e2.symm)
theorem au_6 {M : Model} {A : Around} {E : Value → Shared → Prop} {i : Nat} {x : Str} {v : V} {u : Value} {Q : Unit → Shared → Prop} (I : Inv X zd σ H s) (hN : X.N.Nodup) (hi : X.N[i]? = some x) (hx : Loc X.env.scope x) (r : RelV v u)
  (h : ∀ s', Inv X zd (σ.set i (some v)) H s' → (∃ a, Heap.SameBut a s.heap s'.heap ∧ (a = X.env.locals ∨ X.env.cells.lookup x = some a)) → Q () s') (hf : X.fn x = true ∨ X.env.scope.names.lookup x = some .local := by first | exact .inl rfl | exact .inr rfl | assumption) : wpAny M A (storeName X.env x u) Q E s := by
 obtain ⟨m, hn, hl⟩ := id I.loc
 have bo : (X.env.scope.kind == .class || (X.env.scope.kind == .module && X.env.locals != X.env.globals)) = false := by rw [I.ok.kind]; rfl
 have hiσ : i < σ.length := by rw [I.len]; exact (List.getElem?_eq_some_iff.mp hi).1
 have cne := I.cne
 have tracked : ∀ {a : Addr} {h' : Heap}, (∃ o, s.heap.get? a = some o ∧ H a = none) → Heap.SameBut a s.heap h' → HOk X.prog X.w H h' := fun {a h'} ha hs b ob e => by
  obtain ⟨_, _, ao⟩ := ha
  refine (I.hok b ob e).stay (fun c w' hc q => (hs.2 c ?_).trans q) (fun _ q => q) fun _ _ q => q
  rintro rfl
  rcases hc with rfl | hc
  ·rw [ao] at e; cases e
  ·rw [ao] at hc; cases hc
 rcases hx with hk | hk
 ·refine wpAny_storeName_local hk hn (fun h' hn' hs => ?_) bo
  obtain ⟨oL, _, _, hoL, _⟩ := id hn
  refine h _ ⟨I.ok, I.os, I.bare, ⟨fun b o e n hb hx => ?_, fun b o e n hb hx => ?_, I.base.free, fun b o e hx => ?_, I.base.tups, I.base.frzs, I.base.tbls⟩, ⟨_, hn', fun j y v' e1 e2 e3 => ?_⟩, fun y c e => ?_, I.free, I.freeC, fun p hp => ?_, tracked ⟨oL, hoL, I.free⟩ hs, by simpa using I.len⟩ ⟨_, hs, .inl rfl⟩
  ·exact (hs.2 b (Nat.ne_of_lt (Nat.lt_of_lt_of_le (Heap.lt_size e) I.ok.above))).trans (I.base.keep b o e n hb hx)
  ·obtain ⟨sl, e1⟩ := I.base.slot b o e n hb hx
   exact ⟨sl, (hs.2 b (Nat.ne_of_lt (Nat.lt_of_lt_of_le (Heap.lt_size e) I.ok.above))).trans e1⟩
  ·obtain ⟨o', e1⟩ := I.base.there b o e hx
   exact ⟨o', (hs.2 b (Nat.ne_of_lt (Nat.lt_of_lt_of_le (Heap.lt_size e) I.ok.above))).trans e1⟩
  ·by_cases hj : j = i
   ·subst hj
    rw [hi] at e1; cases e1
    rw [List.getElem?_set_self hiσ] at e2
    cases e2
    exact ⟨u, r, .inl ⟨hk, by simp⟩⟩
   ·rw [List.getElem?_set_ne (Ne.symm hj)] at e2
    obtain ⟨u', r', q⟩ := hl j y v' e1 e2 e3
    refine ⟨u', r', ?_⟩
    rcases q with ⟨k, e⟩ | ⟨k, c, e, z⟩
    ·refine .inl ⟨k, ?_⟩
     have : y ≠ x := fun e => hj (an_3 hN e1 (e ▸ hi))
     simp [this, e]
    ·exact .inr ⟨k, c, e, z.sameBut hs (cne y c e)⟩
  ·obtain ⟨w', z⟩ := I.cell y c e
   exact ⟨w', z.sameBut hs (cne y c e)⟩
  ·obtain ⟨e, n, ne, nf, d⟩ := I.pin p hp
   exact ⟨(hs.2 p.1 ne).trans e, n, ne, nf, d⟩
 ·have hfn : X.fn x = true := by
   rcases hf with z | z
   ·exact z
   ·rw [z] at hk; cases hk
  obtain ⟨c, hc⟩ := I.ok.has x (.inl hk)
  obtain ⟨w', z⟩ := I.cell x c hc
  refine wpAny_storeName_cell I.ok.kind hk hc z (fun h' hc' hs => ?_)
  obtain ⟨oc, hoc, dn⟩ := id z
  refine h { s with heap := h' } ⟨I.ok, I.os, I.bare, ⟨fun b o e n hb hx => ?_, fun b o e n hb hx => ?_, I.base.free, fun b o e hx => ?_, I.base.tups, I.base.frzs, I.base.tbls⟩, ⟨m, hn.sameBut hs (Ne.symm (cne x c hc)), fun j y v' e1 e2 e3 => ?_⟩, fun y c' e => ?_, I.free, I.freeC, fun p hp => ?_, tracked ⟨oc, hoc, I.freeC x c hc⟩ hs, by simpa using I.len⟩ ⟨c, hs, .inr hc⟩
  ·exact (hs.2 b (Nat.ne_of_lt (Nat.lt_of_lt_of_le (Heap.lt_size e) (I.ok.cab x c hfn hc)))).trans (I.base.keep b o e n hb hx)
  ·obtain ⟨sl, e1⟩ := I.base.slot b o e n hb hx
   exact ⟨sl, (hs.2 b (Nat.ne_of_lt (Nat.lt_of_lt_of_le (Heap.lt_size e) (I.ok.cab x c hfn hc)))).trans e1⟩
  ·obtain ⟨o', e1⟩ := I.base.there b o e hx
   exact ⟨o', (hs.2 b (Nat.ne_of_lt (Nat.lt_of_lt_of_le (Heap.lt_size e) (I.ok.cab x c hfn hc)))).trans e1⟩
  ·by_cases hj : j = i
   ·subst hj
    rw [hi] at e1; cases e1
    rw [List.getElem?_set_self hiσ] at e2
    cases e2
    exact ⟨u, r, .inr ⟨.inl hk, c, hc, hc'⟩⟩
   ·rw [List.getElem?_set_ne (Ne.symm hj)] at e2
    obtain ⟨u', r', q⟩ := hl j y v' e1 e2 e3
    refine ⟨u', r', ?_⟩
    rcases q with q | ⟨k, c', e, z'⟩
    ·exact .inl q
    ·refine .inr ⟨k, c', e, z'.sameBut hs ?_⟩
     rintro rfl
     exact hj (an_3 hN e1 (I.ok.inj _ _ _ e hc ▸ hi))
  ·by_cases hcc : c' = c
   ·subst hcc; exact ⟨_, hc'⟩
   ·obtain ⟨w2, z2⟩ := I.cell y c' e
    exact ⟨w2, z2.sameBut hs hcc⟩
  ·obtain ⟨e, n, ne, nf, d⟩ := I.pin p hp
   refine ⟨(hs.2 p.1 ?_).trans e, n, ne, nf, d⟩
   intro q
   rw [q, hoc] at e
   have q' : oc = p.2 := Option.some.inj e
   exact d w' (by rw [← q']; exact dn)
theorem an_4 {M : Model} {A : Around} {E : Value → Shared → Prop} {i : Nat} {x : Str} {v : V} {u : Value} {Q : Unit → Shared → Prop} (I : Inv X zd σ H s) (hN : X.N.Nodup) (hi : X.N[i]? = some x) (hx : Loc X.env.scope x) (r : RelV v u)
  (h : ∀ s', Inv X zd (σ.set i (some v)) H s' → Q () s') (hf : X.fn x = true ∨ X.env.scope.names.lookup x = some .local := by first | exact .inl rfl | exact .inr rfl | assumption) : wpAny M A (storeName X.env x u) Q E s :=
 au_6 I hN hi hx r (fun s' I' _ => h s' I') hf
theorem Inv.call' {s' : Shared} {ch : List Addr} (I : Inv X zd σ H s) (ho : s'.os = s.os) (u : Un (frs X.stack) ch H H' s.heap s'.heap) (hok : HOk X.prog X.w H' s'.heap) (hg : AllBare s'.gens)
  (hch : ∀ b ∈ ch, (b ∈ X.ex ∨ X.s₀.heap.objs.size ≤ b) ∧ b ≠ X.env.locals ∧ (∀ x c, X.env.cells.lookup x = some c → c ≠ b) ∧ ∀ p ∈ X.pn ++ zd, p.1 ≠ b) : Inv X zd σ H' s' := by
 obtain ⟨h', g', d', t', o'⟩ := s'
 have e : o' = s.os := ho
 subst e
 exact I.call (g' := g') (t' := t') (d' := d') u hok hg hch
end
abbrev XK := Value → Option Addr → Hp → Prop
abbrev St := List (Option V)
abbrev VK := V → Hp → Prop
abbrev TE := St → Hp → VK → Prop
abbrev TT := St → Hp → (Bool → Hp → Prop) → Prop
abbrev TA := St → Hp → (List V → Hp → Prop) → Prop
structure Ends where
 nx : St → Hp → Prop
 rt : VK
 bk : St → Hp → Prop := fun _ _ => False
 ct : St → Hp → Prop := fun _ _ => False
abbrev TS := Ends → St → Hp → Prop
def EP (X : Cx) (zd : List (Addr × Obj)) (σ : St) (Q : VK) (u : Value) (s' : Shared) : Prop := ∃ v H', Inv X zd σ H' s' ∧ RelV v u ∧ Q v H'
def TP (X : Cx) (zd : List (Addr × Obj)) (σ : St) (Q : Bool → Hp → Prop) (b : Bool) (s' : Shared) : Prop := ∃ H', Inv X zd σ H' s' ∧ Q b H'
def AP (X : Cx) (zd : List (Addr × Obj)) (σ : St) (Q : List V → Hp → Prop) (us : List Value) (s' : Shared) : Prop := ∃ vs H', Inv X zd σ H' s' ∧ Vals vs us ∧ Q vs H'
def SP (X : Cx) (zd : List (Addr × Obj)) (D : Ends) (f : Flow) (s' : Shared) : Prop :=
 match f with
 | .next => ∃ σ' H', Inv X zd σ' H' s' ∧ D.nx σ' H'
 | .brk => ∃ σ' H', Inv X zd σ' H' s' ∧ D.bk σ' H'
 | .cont => ∃ σ' H', Inv X zd σ' H' s' ∧ D.ct σ' H'
 | .ret u => ∃ v σ' H', Inv X zd σ' H' s' ∧ RelV v u ∧ D.rt v H'
def PE (X : Cx) (e : Expr) (t : TE) : Prop :=
 ∀ (zd : List (Addr × Obj)) (s : Shared) (σ : St) (H : Hp) (Q : VK), Inv X zd σ H s → t σ H Q → wpAny (model X.prog X.w) X.A (eval e X.env) (EP X zd σ Q) X.xe s
def PT (X : Cx) (e : Expr) (t : TT) : Prop :=
 ∀ (zd : List (Addr × Obj)) (s : Shared) (σ : St) (H : Hp) (Q : Bool → Hp → Prop), Inv X zd σ H s → t σ H Q → wpAny (model X.prog X.w) X.A (isTrue e X.env (eval e X.env)) (TP X zd σ Q) X.xe s
def PW (X : Cx) (e : Expr) (t : TT) : Prop :=
 ∀ (whole : Sem Value) (zd : List (Addr × Obj)) (s : Shared) (σ : St) (H : Hp) (Q : Bool → Hp → Prop), Inv X zd σ H s → t σ H Q → wpAny (model X.prog X.w) X.A (isTrue e X.env whole) (TP X zd σ Q) X.xe s
theorem PW.pt {X : Cx} {e : Expr} {t : TT} (h : PW X e t) : PT X e t := h _
def PA (X : Cx) (es : List Expr) (t : TA) : Prop :=
 ∀ (pos : Pos) (zd : List (Addr × Obj)) (s : Shared) (σ : St) (H : Hp) (Q : List V → Hp → Prop), Inv X zd σ H s → t σ H Q → wpAny (model X.prog X.w) X.A (spliced (backTo pos (starEach es X.env))) (AP X zd σ Q) X.xe s
def PS (X : Cx) (st : Stmt) (t : TS) : Prop :=
 ∀ (zd : List (Addr × Obj)) (s : Shared) (σ : St) (H : Hp) (D : Ends), Inv X zd σ H s → t D σ H → wpAny (model X.prog X.w) X.A (exec st X.env) (SP X zd D) X.xe s
def PSs (X : Cx) (st : List Stmt) (t : TS) : Prop :=
 ∀ (zd : List (Addr × Obj)) (s : Shared) (σ : St) (H : Hp) (D : Ends), Inv X zd σ H s → t D σ H → wpAny (model X.prog X.w) X.A (execs st X.env) (SP X zd D) X.xe s
theorem thn {α : Type} {t : Sem α} {Q Q' : α → Shared → Prop} {M : Model} {A : Around} {E : Value → Shared → Prop} {s : Shared} (h : wpAny M A t Q E s) (hQ : ∀ a s, Q a s → Q' a s) : wpAny M A t Q' E s := wpAny_mono h hQ fun _ _ x => x
section
variable {X : Cx}
def tVar (i : Nat) : TE := fun σ H Q => ∃ v, σ[i]? = some (some v) ∧ Q v H
def tC (v : V) : TE := fun _ H Q => Q v H
theorem i_9 {i : Nat} {x : Str} {pos : Pos} (hN : X.N[i]? = some x) (hv : Vis X.env.scope x) (hd : (x == ("__debug__" : Str)) = false := by decide) (hcd : (x == ("__classdict__" : Str)) = false := by decide) : PE X (.Name x pos) (tVar i) := by
 intro zd s σ H Q I h
 obtain ⟨v, e, h⟩ := h
 obtain ⟨m, hn, hl⟩ := I.loc
 obtain ⟨u, r, l⟩ := hl i x v hN e hv
 have fin : EP X zd σ Q u s := ⟨v, H, I, r, h⟩
 rcases l with ⟨hk, hm⟩ | ⟨hk, c, hc, hcell⟩
 ·exact wpAny_Name (wpAny_loadName_local I.ok.kind hk hn hm fin) hd
 ·rcases hk with hk | hk
  ·exact wpAny_Name (wpAny_loadName_cell I.ok.kind hk hc hcell fin) hd
  ·exact wpAny_Name (wpAny_loadName_free I.ok.kind hk hc hcell fin hcd) hd
theorem da_8 {i j pos} : PE X (.Constant (.int i) j pos) (tC (.int i)) := fun _ _ _ H _ I h => wpAny_Constant_int ⟨.int i, H, I.tok _, ⟨_, rfl⟩, h⟩
theorem dh_2 {b j pos} : PE X (.Constant (.bool b) j pos) (tC (.bl b)) := fun _ _ _ H _ I h => Constant_bool ⟨.bl b, H, I, rfl, h⟩
theorem cg_8 {j pos} : PE X (.Constant .none j pos) (tC .non) := fun _ _ _ H _ I h => Constant_none ⟨.non, H, I, rfl, h⟩
theorem da_9 {x j pos} : PE X (.Constant (.str x) j pos) (tC (.str x)) := fun _ _ _ H _ I h => Calls.Constant_str ⟨.str x, H, I.tok _, ⟨_, rfl⟩, h⟩
def Gl (X : Cx) (x : Str) : Prop := X.env.kindOf x = some .globalImplicit
theorem s_3 {E : Value → Shared → Prop} {zd : List (Addr × Obj)} {s : Shared} {σ : St} {H : Hp} {x : Str} {u : Value} {pos : Pos} {Q : Value → Shared → Prop} (I : Inv X zd σ H s) (hg : Gl X x) (hm : X.mg x = some u) (h : Q u s)
  (hd : (x == ("__debug__" : Str)) = false := by decide) : wpAny (model X.prog X.w) X.A (eval (.Name x pos) X.env) Q E s :=
 Calls.Name_function_global I.ok.kind hg (Calls.loadGlobal_global (by rw [I.ok.glob]; exact I.mod.glob.keeps I.bk) hm h) hd
theorem ab_4 {E : Value → Shared → Prop} {zd : List (Addr × Obj)} {s : Shared} {σ : St} {H : Hp} {x : Str} {u : Value} {pos : Pos} {Q : Value → Shared → Prop} (I : Inv X zd σ H s) (hg : Gl X x) (hm : X.mg x = none) (hv : bootBuiltins x = some u) (h : Q u s)
  (hn : x ≠ "__name__" := by decide) (hd : (x == ("__debug__" : Str)) = false := by decide) : wpAny (model X.prog X.w) X.A (eval (.Name x pos) X.env) Q E s := by
 obtain ⟨mb, h1, h2⟩ := I.mod.blt
 exact Calls.Name_function_global I.ok.kind hg (Calls.loadGlobal_builtin (by rw [I.ok.glob]; exact I.mod.glob.keeps I.bk) hm (by rw [I.ok.blt]; exact h1.keeps I.bk) ((h2 x hn).trans hv) h) hd
theorem al_9 {x : Str} {v : V} {u : Value} {pos : Pos} (hg : Gl X x) (hm : X.mg x = some u) (r : RelV v u) (hd : (x == ("__debug__" : Str)) = false := by decide) : PE X (.Name x pos) (tC v) :=
 fun _ _ _ H _ I h => s_3 I hg hm ⟨v, H, I, r, h⟩ hd
theorem bv_0 {x : Str} {v : V} {u : Value} {pos : Pos} (hg : Gl X x) (hm : X.mg x = none) (hv : bootBuiltins x = some u) (r : RelV v u) (hn : x ≠ "__name__" := by decide) (hd : (x == ("__debug__" : Str)) = false := by decide) : PE X (.Name x pos) (tC v) :=
 fun _ _ _ H _ I h => ab_4 I hg hm hv ⟨v, H, I, r, h⟩ hn hd
variable {a b : Expr} {ta tb : TE} {pos : Pos}
variable {tA tB' : TT} {o_4 : List Expr}
def tAnd (t u : TT) : TT := fun σ H Q => t σ H fun c H1 => if c = true then u σ H1 Q else Q false H1
def tOr (t u : TT) : TT := fun σ H Q => t σ H fun c H1 => if c = true then Q true H1 else u σ H1 Q
def tNot (t : TT) : TT := fun σ H Q => t σ H fun c H1 => Q (!c) H1
theorem cr_7 (ha : PT X a tA) : PW X (.BoolOp .And [a] pos) tA := by
 intro wh zd s σ H Q I h
 refine isTrue_and (thn (ha zd s σ H Q I h) fun c s1 e => ?_)
 cases c with
 | true => exact isTrue_and_nil e
 | false => exact e
theorem db_0 (ha : PT X a tA) : PW X (.BoolOp .Or [a] pos) tA := by
 intro wh zd s σ H Q I h
 refine isTrue_or (thn (ha zd s σ H Q I h) fun c s1 e => ?_)
 cases c with
 | false => exact isTrue_or_nil e
 | true => exact e
theorem db_1 (ha : PT X a tA) (hb : PW X (.BoolOp .And (b :: o_4) pos) tB') : PW X (.BoolOp .And (a :: b :: o_4) pos) (tAnd tA tB') := by
 intro wh zd s σ H Q I h
 refine isTrue_and (thn (ha zd s σ H _ I h) fun c s1 ⟨H1, I1, q1⟩ => ?_)
 cases c with
 | true => exact hb wh zd s1 σ H1 Q I1 q1
 | false => exact ⟨H1, I1, q1⟩
theorem dh_3 (ha : PT X a tA) (hb : PW X (.BoolOp .Or (b :: o_4) pos) tB') : PW X (.BoolOp .Or (a :: b :: o_4) pos) (tOr tA tB') := by
 intro wh zd s σ H Q I h
 refine isTrue_or (thn (ha zd s σ H _ I h) fun c s1 ⟨H1, I1, q1⟩ => ?_)
 cases c with
 | true => exact ⟨H1, I1, q1⟩
 | false => exact hb wh zd s1 σ H1 Q I1 q1
theorem db_2 (ha : PT X a tA) : PT X (.UnaryOp .Not a pos) (tNot tA) := by
 intro zd s σ H Q I h
 exact isTrue_not (ha zd s σ H (fun c H1 => Q (!c) H1) I h)
def dh_4 (ta tb : TE) : TE := fun σ H Q => ta σ H fun x H1 => ∃ c, x = .bl c ∧ if c = true then tb σ H1 Q else Q (.bl false) H1
def dh_5 (ta : TE) : TE := fun σ H Q => ta σ H fun x H1 => ∃ c, x = .bl c ∧ Q (.bl (!c)) H1
theorem db_3 {op} {t : TE} (h : PE X a t) : PE X (.BoolOp op [a] pos) t := fun zd s σ H Q I hw => BoolOp_one (h zd s σ H Q I hw)
theorem db_4 (ha : PE X a ta) (hb : PE X (.BoolOp .And (b :: o_4) pos) tb) : PE X (.BoolOp .And (a :: b :: o_4) pos) (dh_4 ta tb) := by
 intro zd s σ H Q I h
 refine BoolOp_and (thn (ha zd s σ H _ I h) fun v s1 ⟨x, H1, I1, r1, q1⟩ => ?_)
 obtain ⟨c, rfl, q1⟩ := q1
 cases r1
 refine wpAny_truthy_bool ?_
 cases c with
 | true => exact hb zd s1 σ H1 Q I1 q1
 | false => exact ⟨.bl false, H1, I1, rfl, q1⟩
theorem db_5 (ha : PE X a ta) : PE X (.UnaryOp .Not a pos) (dh_5 ta) := by
 intro zd s σ H Q I h
 refine UnaryOp_ (thn (ha zd s σ H _ I h) fun v s1 ⟨x, H1, I1, r1, q1⟩ => ?_)
 obtain ⟨c, rfl, q1⟩ := q1
 cases r1
 exact not_of (wpAny_truthy_bool ⟨.bl (!c), H1, I1, rfl, q1⟩)
def tIf (t : TT) (ta tb : TE) : TE := fun σ H Q => t σ H fun c H1 => if c = true then ta σ H1 Q else tb σ H1 Q
theorem cg_9 {c : Expr} (hc : PT X c tA) (ha : PE X a ta) (hb : PE X b tb) : PE X (.IfExp c a b pos) (tIf tA ta tb) := by
 intro zd s σ H Q I h
 refine wpAny_IfExp (thn (hc zd s σ H _ I h) fun d s1 ⟨H1, I1, q1⟩ => ?_)
 cases d with
 | true => exact ha zd s1 σ H1 Q I1 q1
 | false => exact hb zd s1 σ H1 Q I1 q1
end
def SqL (K : Frag) (H : Hp) (a : Addr) (xs : List V) : Prop :=
 Rd H a (.lst xs) ∨
  ∃ (o : Obj) (its : Array Value) (n : Nat), K.lookup a = some o ∧ o.cls = .type "list" ∧ o.dict = none ∧ o.data = .seq its n ∧ its.size ≤ sizeLine ∧ Vals xs its.toList
def SqT (K : Frag) (H : Hp) (a : Addr) (xs : List V) : Prop :=
 Rd H a (.tup xs) ∨
  ∃ (o : Obj) (its : Array Value) (n : Nat), K.lookup a = some o ∧ o.cls = .type "tuple" ∧ o.data = .seq its n ∧ its.size ≤ sizeLine ∧ Vals xs its.toList
def absV : Value → Option V
 | .none => some .non
 | .bool b => some (.bl b)
 | .int i _ => some (.int i)
 | .str x _ => some (.str x)
 | .bytes b _ => some (.byt b)
 | .float b _ => some (.flt b)
 | .ref a => some (.ref a)
 | .type n => some (.ty n)
 | _ => none
theorem RelV.abs {x : V} {u : Value} (r : RelV x u) : absV u = some x := by
 cases x with
 | non => cases r; rfl
 | bl _ => cases r; rfl
 | int _ => obtain ⟨t, rfl⟩ := r; rfl
 | str _ => obtain ⟨t, rfl⟩ := r; rfl
 | byt _ => obtain ⟨t, rfl⟩ := r; rfl
 | flt _ => obtain ⟨t, rfl⟩ := r; rfl
 | ref _ => cases r; rfl
 | ty _ => cases r; rfl
theorem RelV.inj {x y : V} {u : Value} (r : RelV x u) (q : RelV y u) : x = y := Option.some.inj (r.abs.symm.trans q.abs)
theorem Vals.inj : ∀ {xs ys : List V} {us : List Value}, Vals xs us → Vals ys us → xs = ys
 | _, _, _, .nil, .nil => rfl
 | _, _, _, .cons r t, .cons r' t' => by rw [r.inj r', Vals.inj t t']
section
variable {X : Cx} {zd : List (Addr × Obj)} {σ : St} {H : Hp} {s : Shared} {a : Addr} {xs ys : List V}
theorem SqL.of {K : Frag} (h : H a = some (.lst xs)) : SqL K H a xs := .inl (.inl h)
theorem SqT.of {K : Frag} (h : H a = some (.tup xs)) : SqT K H a xs := .inl (.inl h)
theorem Inv.list (I : Inv X zd σ H s) (h : SqL X.K H a xs) : ∃ its : List Value, Vals xs its ∧ PlainL s.heap a its.toArray ∧ xs.length ≤ sizeLine := by
 rcases h with h | ⟨o, its, n, hk, hc, hd, hs, hz, r⟩
 ·obtain ⟨z, its, n, r, e⟩ := h.ok I.hok
  exact ⟨its, r, ⟨_, n, e, rfl, rfl, rfl⟩, z⟩
 ·refine ⟨its.toList, r, ⟨o, n, I.kIn a o hk, hc, hd, by simpa using hs⟩, ?_⟩
  have e := r.length
  simp only [Array.length_toList] at e
  omega
theorem Inv.tuple (I : Inv X zd σ H s) (h : SqT X.K H a xs) : ∃ its : List Value, Vals xs its ∧ IsTup s.heap a its.toArray ∧ xs.length ≤ sizeLine := by
 rcases h with h | ⟨o, its, n, hk, hc, hs, hz, r⟩
 ·obtain ⟨z, its, r, p⟩ := h.ok I.hok
  exact ⟨its, r, p, z⟩
 ·refine ⟨its.toList, r, ⟨o, I.kIn a o hk, hc, n, by simpa using hs⟩, ?_⟩
  have e := r.length
  simp only [Array.length_toList] at e
  omega
theorem Inv.list_inj (I : Inv X zd σ H s) (h : SqL X.K H a xs) (h' : SqL X.K H a ys) : xs = ys := by
 obtain ⟨its, r, ⟨o, n, e, _, _, d⟩, _⟩ := I.list h
 obtain ⟨its', r', ⟨o', n', e', _, _, d'⟩, _⟩ := I.list h'
 rw [e] at e'; cases e'
 rw [d] at d'
 injection d' with d1 _
 have : its = its' := by simpa using congrArg Array.toList d1
 subst this
 exact r.inj r'
theorem Inv.tuple_inj (I : Inv X zd σ H s) (h : SqT X.K H a xs) (h' : SqT X.K H a ys) : xs = ys := by
 obtain ⟨its, r, ⟨o, e, _, n, d⟩, _⟩ := I.tuple h
 obtain ⟨its', r', ⟨o', e', _, n', d'⟩, _⟩ := I.tuple h'
 rw [e] at e'; cases e'
 rw [d] at d'
 injection d' with d1 _
 have : its = its' := by simpa using congrArg Array.toList d1
 subst this
 exact r.inj r'
end
abbrev Cx.wish (X : Cx) (E : Value → Shared → Prop) : Cx := { X with xe := E }
abbrev Cx.nox (X : Cx) : Cx := X.wish fun _ _ => False
theorem Cx.Ok.wish {X : Cx} (ok : X.Ok) (E : Value → Shared → Prop) : (X.wish E).Ok :=
 ⟨ok.mod, ok.kind, ok.glob, ok.blt, ok.above, ok.inj, ok.has, ok.cab, ok.hd, ok.frames, ok.stk, ok.exf, ok.bs, ok.bsz, ok.noex, ok.exfs, ok.funs, ok.frf⟩
theorem Cx.Ok.unwish {X : Cx} {E : Value → Shared → Prop} (ok : (X.wish E).Ok) : X.Ok :=
 ⟨ok.mod, ok.kind, ok.glob, ok.blt, ok.above, ok.inj, ok.has, ok.cab, ok.hd, ok.frames, ok.stk, ok.exf, ok.bs, ok.bsz, ok.noex, ok.exfs, ok.funs, ok.frf⟩
section
variable {X : Cx} {zd : List (Addr × Obj)} {σ : St} {H : Hp} {s : Shared} {E : Value → Shared → Prop}
theorem Inv.wish (I : Inv X zd σ H s) (E : Value → Shared → Prop) : Inv (X.wish E) zd σ H s := ⟨I.ok.wish E, I.os, I.bare, I.base, I.loc, I.cell, I.free, I.freeC, I.pin, I.hok, I.len⟩
theorem Inv.unwish (I : Inv (X.wish E) zd σ H s) : Inv X zd σ H s := ⟨I.ok.unwish, I.os, I.bare, I.base, I.loc, I.cell, I.free, I.freeC, I.pin, I.hok, I.len⟩
theorem SP.unwish {D : Ends} {f : Flow} {s' : Shared} (h : SP (X.wish E) zd D f s') : SP X zd D f s' := by
 cases f with
 | next => obtain ⟨σ', H', I, q⟩ := h; exact ⟨σ', H', I.unwish, q⟩
 | brk => obtain ⟨σ', H', I, q⟩ := h; exact ⟨σ', H', I.unwish, q⟩
 | cont => obtain ⟨σ', H', I, q⟩ := h; exact ⟨σ', H', I.unwish, q⟩
 | ret u => obtain ⟨v, σ', H', I, r, q⟩ := h; exact ⟨v, σ', H', I.unwish, r, q⟩
theorem PE.nox {e : Expr} {t : TE} (h : PE X.nox e t) : PE X e t := fun zd s σ H Q I hw =>
 wpAny_mono (h zd s σ H Q (I.wish _) hw) (fun _ _ ⟨v, H', I', r, q⟩ => ⟨v, H', I'.unwish, r, q⟩) fun _ _ z => False.elim z
end
section
variable {X : Cx} {st : Stmt} {o_4 : List Stmt} {t u : TS} {e : Expr} {te : TE} {pos : Pos}
def dh_6 : TS := fun D σ H => D.nx σ H
def tSeq (t u : TS) : TS := fun D σ H => t { D with nx := u D } σ H
theorem cr_8 : PSs X [] dh_6 := fun _ _ σ H _ I h => wpAny_execs_nil ⟨σ, H, I, h⟩
theorem ch_0 (h1 : PS X st t) (h2 : PSs X o_4 u) : PSs X (st :: o_4) (tSeq t u) := by
 intro zd s σ H D I h
 refine wpAny_execs_cons (thn (h1 zd s σ H { D with nx := u D } I h) fun f s1 q => ?_)
 cases f with
 | next =>
  obtain ⟨σ', H', I', q⟩ := q
  exact h2 zd s1 σ' H' D I' q
 | ret v => exact q
 | brk => exact q
 | cont => exact q
theorem az_8 (h1 : PS X st t) : PSs X [st] t := by
 intro zd s σ H D I h
 refine wpAny_execs_cons (thn (h1 zd s σ H D I h) fun f s1 q => ?_)
 cases f with
 | next => exact wpAny_execs_nil q
 | ret v => exact q
 | brk => exact q
 | cont => exact q
theorem Inv.quiet {zd : List (Addr × Obj)} {σ : St} {H : Hp} {s : Shared} (I : Inv X zd σ H s) : interactive X.env = false := by simp [interactive, I.ok.kind]
def dh_7 (te : TE) : TS := fun D σ H => te σ H fun _ H1 => D.nx σ H1
theorem ac_9 (he : PE X e te) (hs : swapsWith e none pos.line X.env = pure false := by rfl) : PS X (.Expr e pos) (dh_7 te) := by
 intro zd s σ H D I h
 exact wpAny_Expr_any (thn (he zd s σ H _ I h) fun v s1 ⟨x, H1, I1, r1, q1⟩ => ⟨σ, H1, I1, q1⟩) I.quiet hs
def tRet (te : TE) : TS := fun D σ H => te σ H D.rt
theorem bp_0 (he : PE X e te) : PS X (.Return (some e) pos) (tRet te) := by
 intro zd s σ H D I h
 exact wpAny_Return_some (thn (he zd s σ H _ I h) fun v s1 ⟨x, H1, I1, r1, q1⟩ => ⟨x, σ, H1, I1, r1, q1⟩)
def tIfS (c : TT) (t u : TS) : TS := fun D σ H => c σ H fun b H1 => if b = true then t D σ H1 else u D σ H1
theorem dh_8 {c : Expr} {a b : List Stmt} {tc : TT} (hc : PT X c tc) (ha : PSs X a t) (hb : PSs X b u) : PS X (.If c a b pos) (tIfS tc t u) := by
 intro zd s σ H D I h
 refine wpAny_If (thn (hc zd s σ H _ I h) fun d s1 ⟨H1, I1, q1⟩ => ?_)
 cases d with
 | true => exact ha zd s1 σ H1 D I1 q1
 | false => exact hb zd s1 σ H1 D I1 q1
end
abbrev TG := V → St → Hp → (St → Hp → Prop) → Prop
abbrev TGs := List V → St → Hp → (St → Hp → Prop) → Prop
def PG (X : Cx) (target : Expr) (t : TG) : Prop :=
 ∀ (zd : List (Addr × Obj)) (s : Shared) (σ : St) (H : Hp) (v : V) (u : Value) (Q : St → Hp → Prop), Inv X zd σ H s → RelV v u → t v σ H Q →
  wpAny (model X.prog X.w) X.A (assign target X.env u) (fun _ s' => ∃ σ' H', Inv X zd σ' H' s' ∧ Q σ' H') X.xe s
def PGs (X : Cx) (ts : List Expr) (t : TGs) : Prop :=
 ∀ (zd : List (Addr × Obj)) (s : Shared) (σ : St) (H : Hp) (vs : List V) (us : List Value) (Q : St → Hp → Prop), Inv X zd σ H s → Vals vs us → t vs σ H Q →
  wpAny (model X.prog X.w) X.A (assignInOrder ((assignEach ts X.env).map (·.2)) us) (fun _ s' => ∃ σ' H', Inv X zd σ' H' s' ∧ Q σ' H') X.xe s
abbrev TSet := V → V → V → Hp → (Hp → Prop) → Prop
def PSet (X : Cx) (t : TSet) : Prop :=
 ∀ (zd : List (Addr × Obj)) (s : Shared) (σ : St) (H : Hp) (o i v : V) (ov iv u : Value) (Q : Hp → Prop), Inv X zd σ H s → RelV o ov → RelV i iv → RelV v u → t o i v H Q →
  wpAny (model X.prog X.w) X.A (setItem ov iv u) (fun _ s' => ∃ H', Inv X zd σ H' s' ∧ Q H') X.xe s
section
variable {X : Cx} {pos : Pos}
def bv_1 (i : Nat) : TG := fun v σ H Q => Q (σ.set i (some v)) H
theorem am_0 {i : Nat} {x : Str} (hN : X.N.Nodup) (hi : X.N[i]? = some x) (hx : Loc X.env.scope x) (hf : X.fn x = true ∨ X.env.scope.names.lookup x = some .local := by first | exact .inl rfl | exact .inr rfl | assumption) : PG X (.Name x pos) (bv_1 i) := by
 intro zd s σ H v u Q I r h
 exact wpAny_assign_Name (an_4 I hN hi hx r (fun s' I' => ⟨_, H, I', h⟩) hf)
def gNil : TGs := fun vs σ H Q => vs = [] ∧ Q σ H
def di_0 (t : TG) (u : TGs) : TGs := fun vs σ H Q => ∃ v r, vs = v :: r ∧ t v σ H fun σ' H' => u r σ' H' Q
theorem cr_9 : PGs X [] gNil := by
 intro zd s σ H vs us Q I r h
 obtain ⟨e, h⟩ := h
 subst e
 cases r
 exact assignInOrder_nil ⟨σ, H, I, h⟩
theorem bg_7 {e : Expr} {es : List Expr} {t : TG} {u : TGs} (h1 : PG X e t) (h2 : PGs X es u)
  (hs : (assignEach (e :: es) X.env).map (·.2) = assign e X.env :: (assignEach es X.env).map (·.2) := by rfl) : PGs X (e :: es) (di_0 t u) := by
 intro zd s σ H vs us Q I r h
 obtain ⟨v, vr, e1, h⟩ := h
 subst e1
 cases r with
 | cons r rr =>
  rw [hs]
  refine assignInOrder_cons (thn (h1 zd s σ H _ _ _ I r h) fun _ s1 ⟨σ1, H1, I1, q1⟩ => ?_)
  exact h2 zd s1 σ1 H1 _ _ Q I1 rr q1
def gTup (K : Frag) (n : Nat) (t : TGs) : TG := fun v σ H Q => ∃ a xs, v = .ref a ∧ SqT K H a xs ∧ xs.length = n ∧ t xs σ H Q
theorem db_7 {es : List Expr} {k : Nat} {t : TGs} {n : Nat} (hc : X.calm = true) (h : PGs X es t)
  (hn : (assignEach es X.env).length = n := by rfl) (hst : (assignEach es X.env).findIdx? (·.1) = none := by rfl) : PG X (.Tuple es k pos) (gTup X.K n t) := by
 intro zd s σ H v u Q I r hw
 obtain ⟨a, xs, e1, hq, hl, hw⟩ := hw
 subst e1
 cases r
 obtain ⟨its, rv, ht, hz⟩ := I.tuple hq
 refine assign_Tuple_tuple (I.ok.hd hc) ht (by simp [hn, ← hl, rv.length]) hst fun h' hx => ?_
 have I1 : Inv X zd σ H { s with heap := h' } := I.kept (t' := s.toks) fun b o e => hx b o (Nat.ne_of_lt (Heap.lt_size e)) e
 exact h zd _ σ H xs _ Q I1 (by simpa using rv) hw
def gSub (to ti : TE) (t : TSet) : TG := fun v σ H Q => to σ H fun o H1 => ti σ H1 fun i H2 => t o i v H2 fun H3 => Q σ H3
theorem db_8 {o i : Expr} {to ti : TE} {t : TSet} (ho : PE X o to) (hi : PE X i ti) (hs : PSet X t)
  (ha : ∀ v, assign (.Subscript o i pos) X.env v = (do
   let ov ← holding [v] (eval o X.env)
   let iv ← holding [v, ov] (eval i X.env)
   standAt pos
   holding [v, ov, iv] (setItem ov iv v)
   release [v, ov, iv] []) := by intro _; rfl) : PG X (.Subscript o i pos) (gSub to ti t) := by
 intro zd s σ H v u Q I r h
 rw [ha]
 refine wpAny_bind (wpAny_holding (thn (ho zd s σ H _ I h) fun ov s1 ⟨x, H1, I1, r1, q1⟩ => ?_))
 refine wpAny_bind (wpAny_holding (thn (hi zd s1 σ H1 _ I1 q1) fun iv s2 ⟨y, H2, I2, r2, q2⟩ => ?_))
 refine wpAny_bind (wpAny_standAt (wpAny_bind (wpAny_holding (thn (hs zd s2 σ H2 x y v ov iv u _ I2 r1 r2 r q2) fun _ s3 ⟨H3, I3, q3⟩ => ?_))))
 exact wpAny_release ⟨σ, H3, I3, q3⟩
def tAsg (te : TE) (g : TG) : TS := fun D σ H => te σ H fun x H1 => g x σ H1 D.nx
theorem db_9 {tg e : Expr} {te : TE} {g : TG} (he : PE X e te) (hg : PG X tg g) (hs : swapsWithSole [tg] e pos.line X.env = pure false := by rfl) (hw : swappedStores [tg] e X.env = pure none := by rfl)
  (h1 : (assignEach [tg] X.env).map (·.2) = [assign tg X.env] := by rfl) : PS X (.Assign [tg] e pos) (tAsg te g) := by
 intro zd s σ H D I h
 refine wpAny_Assign_stores (thn (he zd s σ H _ I h) fun v s1 ⟨x, H1, I1, r1, q1⟩ => ?_) hs hw
 rw [h1]
 exact thn (hg zd s1 σ H1 x v _ I1 r1 q1) fun _ s2 q => q
theorem bp_1 {i : Nat} {x : Str} {e : Expr} {te : TE} {pos' : Pos} (hN : X.N.Nodup) (hi : X.N[i]? = some x) (hx : Loc X.env.scope x) (he : PE X e te) (hs : swapsWith e (some (.Name x pos')) pos.line X.env = pure false := by rfl) (hf : X.fn x = true ∨ X.env.scope.names.lookup x = some .local := by first | exact .inl rfl | exact .inr rfl | assumption) :
  PS X (.Assign [.Name x pos'] e pos) (tAsg te (bv_1 i)) := by
 intro zd s σ H D I h
 refine wpAny_Assign_Name (thn (he zd s σ H _ I h) fun v s1 ⟨y, H1, I1, r1, q1⟩ => ?_) hs
 exact an_4 I1 hN hi hx r1 (fun s2 I2 => ⟨_, H1, I2, q1⟩) hf
end
section
variable {X : Cx} {pos : Pos}
def dc_0 (c : TT) (tb : TS) : TS := fun D σ H => ∃ W : Nat → St → Hp → Prop, (∃ m, W m σ H) ∧ ∀ m σ H, W m σ H →
 c σ H fun b H1 => if b = true then ∃ N : St → Hp → Prop, (∀ σ' H', N σ' H' → ∃ m', m' < m ∧ W m' σ' H') ∧ tb { D with nx := N, ct := N, bk := D.nx } σ H1 else D.nx σ H1
theorem ch_1 {c : Expr} {body : List Stmt} {tc : TT} {tb : TS} (hp : PassesOwn (model X.prog X.w) X.A X.env X.xe) (hc : PT X c tc) (hb : PSs X body tb) : PS X (.While c body [] pos) (dc_0 tc tb) := by
 intro zd s σ H D I h
 obtain ⟨W, ⟨m0, w0⟩, turn⟩ := h
 refine wpAny_While (codeAny_whileLoop (fun n s' => ∃ σ' H', Inv X zd σ' H' s' ∧ W n σ' H') ?_ m0 ⟨σ, H, I, w0⟩)
 rintro n s1 ⟨σ1, H1, I1, w1⟩
 refine wpAny_passesOwn hp (thn (hc zd s1 σ1 H1 _ I1 (turn n σ1 H1 w1)) fun b s2 ⟨H2, I2, q2⟩ => ?_)
 cases b with
 | true =>
  obtain ⟨N, hN, q2⟩ := q2
  rw [if_pos rfl]
  refine wpAny_passesOwn hp (thn (hb zd s2 σ1 H2 _ I2 q2) fun f s3 q3 => ?_)
  cases f with
  | next =>
   obtain ⟨σ3, H3, I3, n3⟩ := q3
   obtain ⟨m', hm, w3⟩ := hN σ3 H3 n3
   exact ⟨m', hm, σ3, H3, I3, w3⟩
  | cont =>
   obtain ⟨σ3, H3, I3, n3⟩ := q3
   obtain ⟨m', hm, w3⟩ := hN σ3 H3 n3
   exact ⟨m', hm, σ3, H3, I3, w3⟩
  | brk => exact q3
  | ret v => exact q3
 | false =>
  rw [if_neg Bool.false_ne_true]
  exact wpAny_execs_nil ⟨σ1, H2, I2, q2⟩
end
structure It where
 go : Nat → Hp → Prop
 yld : Nat → Hp → V → Hp → Prop
 stop : Nat → Hp → Prop
def FpOk (X : Cx) (zd : List (Addr × Obj)) (H : Hp) (b : Addr) : Prop :=
 H b = none ∧ b ≠ X.env.locals ∧ b ∉ X.fs ∧ (b ∈ X.ex ∨ X.s₀.heap.objs.size ≤ b) ∧ (∀ x c, X.env.cells.lookup x = some c → c ≠ b) ∧ ∀ p ∈ X.pn ++ zd, p.1 ≠ b
theorem Inv.fpOk {X : Cx} {zd : List (Addr × Obj)} {σ : St} {H H' : Hp} {s : Shared} {b : Addr} (I : Inv X zd σ H s) (hb : s.heap.objs.size ≤ b) (hn : H' b = none) : FpOk X zd H' b := by
 refine ⟨hn, Nat.ne_of_gt (Nat.lt_of_lt_of_le I.lt hb), I.nofs hb, .inr (Nat.le_trans I.sz hb), fun x c e z => ?_, fun p hp z => ?_⟩
 ·obtain ⟨v, q⟩ := I.cell x c e
  exact absurd (Nat.lt_of_lt_of_le q.lt (by rw [z]; exact hb)) (Nat.lt_irrefl _)
 ·exact absurd (Nat.lt_of_lt_of_le (Heap.lt_size (I.pin p hp).1) (by rw [z]; exact hb)) (Nat.lt_irrefl _)
structure Turn (P : Program) (w : World) (K : Frag) (tg : Expr) (J : It) (fp : List Addr) (it : Addr) (tn : Nat → Heap → Prop) : Prop where
 mem : it ∈ fp
 obj : ∀ i h, tn i h → ∀ b ∈ fp, ∃ o, h.get? b = some o ∧ ∀ v, o.data ≠ .cell v
 keep : ∀ i h h', tn i h → (∀ b ∈ fp, ∀ o, h.get? b = some o → h'.get? b = some o) → tn i h'
 item : ∀ (X : Cx), X.prog = P → X.w = w → X.K = K → X.calm = true → ∀ (i : Nat) (zd : List (Addr × Obj)) (s : Shared) (σ : St) (H : Hp) (E : Value → Shared → Prop), Inv X zd σ H s → (∀ b ∈ fp, FpOk X zd H b) → tn i s.heap → J.go i H →
  wpAny (model P w) X.A (pyNext (.ref it)) (fun r s1 => ∃ u, r = some u ∧
   wpAny (model P w) X.A (letOwnedTupleGo tg (.ref it) u) (fun _ s2 => ∃ x H', Inv X zd σ H' s2 ∧ RelV x u ∧ J.yld i H x H' ∧ tn (i + 1) s2.heap ∧ ∀ b ∈ fp, H' b = none) E s1) E s
 done : ∀ (X : Cx), X.prog = P → X.w = w → X.K = K → X.calm = true → ∀ (i : Nat) (zd : List (Addr × Obj)) (s : Shared) (σ : St) (H : Hp) (E : Value → Shared → Prop), Inv X zd σ H s → (∀ b ∈ fp, FpOk X zd H b) → tn i s.heap → J.stop i H →
  wpAny (model P w) X.A (pyNext (.ref it)) (fun r s1 => r = none ∧ Inv X zd σ H s1) E s
 self : ∀ (A : Around) (i : Nat) (s : Shared) (Q : Value → Shared → Prop) (E : Value → Shared → Prop), tn i s.heap → Q (.ref it) s → wpAny (model P w) A (pyIter (.ref it)) Q E s
abbrev TI := St → Hp → (It → Hp → Prop) → Prop
def PIE (X : Cx) (zd : List (Addr × Obj)) (σ : St) (tg : Expr) (R : It → Hp → Prop) (itv : Value) (s2 : Shared) : Prop :=
 ∃ (it : Addr) (fp : List Addr) (tn : Nat → Heap → Prop) (J : It) (H' : Hp), itv = .ref it ∧ Inv X zd σ H' s2 ∧ Turn X.prog X.w X.K tg J fp it tn ∧ tn 0 s2.heap ∧ (∀ b ∈ fp, FpOk X zd H' b) ∧ R J H'
def PI (X : Cx) (tg iter : Expr) (wi : TI) : Prop :=
 ∀ (zd : List (Addr × Obj)) (s : Shared) (σ : St) (H : Hp) (R : It → Hp → Prop), Inv X zd σ H s → wi σ H R →
  wpAny (model X.prog X.w) X.A (eval iter X.env) (fun v s1 => wpAny (model X.prog X.w) X.A (pyIter v) (PIE X zd σ tg R) X.xe s1) X.xe s
theorem bg_8 {M : Model} {A : Around} {E : Value → Shared → Prop} {s : Shared} {tg : Expr} {it : Addr} {u : Value} {o : Obj} {n : String} {vs : Array Value} {Q : Unit → Shared → Prop} (ho : s.heap.get? it = some o) (hc : o.cls = .type n) (hd : o.data = .fields vs)
  (hn : ["enumerate", "zip", "dict_itemiterator", "dict_reverseitemiterator", "odict_iterator", "itertools.zip_longest", "itertools.pairwise"].contains n = false) (hQ : Q () s) : wpAny M A (letOwnedTupleGo tg (.ref it) u) Q E s := by
 unfold letOwnedTupleGo
 cases tg <;> first
  | exact wpAny_pure hQ
  | (cases u <;> first
    | exact wpAny_pure hQ
    | (refine wpAny_bind (wpAny_load ho ?_)
       rw [hc, hd]
       show wpAny M A (if (["enumerate", "zip", "dict_itemiterator", "dict_reverseitemiterator", "odict_iterator", "itertools.zip_longest", "itertools.pairwise"].contains n && vs[0]? == some (rawInt _)) = true then _ else _) Q E s
       rw [if_neg (by intro h; rw [hn, Bool.false_and] at h; cases h)]
       exact wpAny_pure hQ))
def Itl (K : Frag) (a : Addr) : It :=
 ⟨fun i H => ∃ xs x, SqL K H a xs ∧ xs[i]? = some x, fun i H x H' => H' = H ∧ ∀ xs, SqL K H a xs → xs[i]? = some x, fun i H => ∃ xs, SqL K H a xs ∧ xs.length ≤ i⟩
def Itt (K : Frag) (a : Addr) : It :=
 ⟨fun i H => ∃ xs x, SqT K H a xs ∧ xs[i]? = some x, fun i H x H' => H' = H ∧ ∀ xs, SqT K H a xs → xs[i]? = some x, fun i H => ∃ xs, SqT K H a xs ∧ xs.length ≤ i⟩
def Itr (lo : Int) (n : Nat) : It := ⟨fun i _ => i < n, fun i H x H' => H' = H ∧ x = .int (lo + i), fun i _ => n ≤ i⟩
theorem ca_9 {P : Program} {w : World} {K : Frag} {tg : Expr} (a it : Addr) : Turn P w K tg (Itl K a) [it] it (fun i h => h.IsListIter it a i) where
 mem := by simp
 obj := fun i h st b hb => by
  have e : b = it := by simpa using hb
  subst e
  obtain ⟨o, e, c, d⟩ := st
  exact ⟨o, e, fun v z => by rw [d] at z; cases z⟩
 keep := fun i h h' st k => st.at fun o e => k it (by simp) o e
 item := by
  intro X hP hw hK hc i zd s σ H E I hf st hg
  subst hP hw hK
  obtain ⟨xs, x, hq, hx⟩ := hg
  obtain ⟨its, rv, p, hz⟩ := I.list hq
  obtain ⟨u, hu, ru⟩ := rv.get hx
  obtain ⟨f0, f1, f2, f3, f4, f5⟩ := hf it (by simp)
  refine wpAny_pyNext_list_item st p.isList (x := u) (by simpa using hu) fun h' st' sb => ?_
  have I1 : Inv X zd σ H { s with heap := h' } := I.turned (t' := s.toks) (fun b o hb e => (sb.2 b hb).trans e) f0 f1 f3 f4 f5
  obtain ⟨o, e, c, d⟩ := id st'
  exact ⟨u, rfl, bg_8 (s := { s with heap := h' }) e c d (by decide) ⟨x, H, I1, ru, ⟨rfl, fun ys hy => by rw [I.list_inj hy hq]; exact hx⟩, st', fun b hb => (hf b hb).1⟩⟩
 done := by
  intro X hP hw hK hc i zd s σ H E I hf st hg
  subst hP hw hK
  obtain ⟨xs, hq, hx⟩ := hg
  obtain ⟨its, rv, p, hz⟩ := I.list hq
  obtain ⟨f0, f1, f2, f3, f4, f5⟩ := hf it (by simp)
  have hl := rv.length
  exact wpAny_pyNext_list_end (I.ok.hd hc) st p.isList (by simp; omega) fun h' eb => ⟨rfl, I.turned (t' := s.toks) (fun b o hb e => eb b o hb e) f0 f1 f3 f4 f5⟩
 self := fun _ _ _ _ _ st h => wpAny_pyIter_listiter st h
theorem bp_2 {P : Program} {w : World} {K : Frag} {tg : Expr} (a it : Addr) : Turn P w K tg (Itt K a) [it] it (fun i h => h.IsTupleIter it a i) where
 mem := by simp
 obj := fun i h st b hb => by
  have e : b = it := by simpa using hb
  subst e
  obtain ⟨o, e, c, d⟩ := st
  exact ⟨o, e, fun v z => by rw [d] at z; cases z⟩
 keep := fun i h h' st k => st.at fun o e => k it (by simp) o e
 item := by
  intro X hP hw hK hc i zd s σ H E I hf st hg
  subst hP hw hK
  obtain ⟨xs, x, hq, hx⟩ := hg
  obtain ⟨its, rv, p, hz⟩ := I.tuple hq
  obtain ⟨u, hu, ru⟩ := rv.get hx
  obtain ⟨f0, f1, f2, f3, f4, f5⟩ := hf it (by simp)
  refine wpAny_pyNext_tuple_item st (show s.heap.IsTuple a its.toArray from p) (x := u) (by simpa using hu) fun h' st' sb => ?_
  have I1 : Inv X zd σ H { s with heap := h' } := I.turned (t' := s.toks) (fun b o hb e => (sb.2 b hb).trans e) f0 f1 f3 f4 f5
  obtain ⟨o, e, c, d⟩ := id st'
  exact ⟨u, rfl, bg_8 (s := { s with heap := h' }) e c d (by decide) ⟨x, H, I1, ru, ⟨rfl, fun ys hy => by rw [I.tuple_inj hy hq]; exact hx⟩, st', fun b hb => (hf b hb).1⟩⟩
 done := by
  intro X hP hw hK hc i zd s σ H E I hf st hg
  subst hP hw hK
  obtain ⟨xs, hq, hx⟩ := hg
  obtain ⟨its, rv, p, hz⟩ := I.tuple hq
  obtain ⟨f0, f1, f2, f3, f4, f5⟩ := hf it (by simp)
  have hl := rv.length
  exact wpAny_pyNext_tuple_end (I.ok.hd hc) st (show s.heap.IsTuple a its.toArray from p) (by simp; omega) fun h' eb => ⟨rfl, I.turned (t' := s.toks) (fun b o hb e => eb b o hb e) f0 f1 f3 f4 f5⟩
 self := fun _ _ _ _ _ st h => wpAny_pyIter_tupleiter st h
theorem bp_3 {P : Program} {w : World} {K : Frag} {tg : Expr} (it : Addr) (lo : Int) (n : Nat) : Turn P w K tg (Itr lo n) [it] it (fun i h => IsRangeIter h it (lo + (i : Nat) * 1) ((n : Int) - (i : Nat)) 1) where
 mem := by simp
 obj := fun i h st b hb => by
  have e : b = it := by simpa using hb
  subst e
  exact ⟨_, st, fun v z => by
   have z' : Data.fields _ = Data.cell v := z
   cases z'⟩
 keep := fun i h h' st k => k it (by simp) _ st
 item := by
  intro X hP hw hK hc i zd s σ H E I hf st hg
  subst hP hw hK
  obtain ⟨f0, f1, f2, f3, f4, f5⟩ := hf it (by simp)
  have W := Walks.range (prog := X.prog) (w := X.w) (I.ok.hd hc) it lo 1 n
  refine W.item i s _ _ hg st fun v h' tk hv st' kk => ?_
  obtain ⟨t, rfl⟩ := hv
  have I1 : Inv X zd σ H { s with heap := h', toks := tk } := I.turned (fun b o hb e => kk b o (by simpa using hb) e) f0 f1 f3 f4 f5
  refine ⟨_, rfl, bg_8 (s := { s with heap := h', toks := tk }) (n := "range_iterator") st' rfl rfl (by decide) ⟨.int (lo + i), H, I1, ⟨t, ?_⟩, ⟨rfl, rfl⟩, st', fun b hb => (hf b hb).1⟩⟩
  rw [Int.mul_one]
 done := by
  intro X hP hw hK hc i zd s σ H E I hf st hg
  subst hP hw hK
  obtain ⟨f0, f1, f2, f3, f4, f5⟩ := hf it (by simp)
  exact wpAny_pyNext_range_end (I.ok.hd hc) st (by have : n ≤ i := hg; omega) fun h' eb => ⟨rfl, I.turned (t' := s.toks) (fun b o hb e => eb b o hb e) f0 f1 f3 f4 f5⟩
 self := fun _ _ _ _ _ st h => wpAny_pyIter_rangeiter st h
section
variable {X : Cx} {tg : Expr}
theorem bg_9 {zd : List (Addr × Obj)} {σ : St} {H : Hp} {s : Shared} {R : It → Hp → Prop} {E : Value → Shared → Prop} {lo hi : Int} {t u v : Tok} {tk : Nat} (I : Inv X zd σ H s) (h1 : -(2 ^ 62) ≤ lo) (h2 : lo < 2 ^ 62) (h3 : -(2 ^ 62) ≤ hi) (h4 : hi < 2 ^ 62)
  (q : R (Itr lo (hi - lo).toNat) H) : wpAny (model X.prog X.w) X.A (pyIter (.ref s.heap.objs.size)) (PIE X zd σ tg R) E { s with heap := s.heap.push { cls := .type "range", data := .fields #[.int lo t, .int hi u, .int 1 v] }, toks := tk } := by
 refine wpAny_pyIter_range (IsRange.new ..) (small_one h1 h2 h3 h4) ?_
 have I1 : Inv X zd σ H { s with heap := s.heap.push { cls := .type "range", data := .fields #[.int lo t, .int hi u, .int 1 v] }, toks := tk } := I.kept fun b o e => Heap.get?_push_of_some _ e
 refine ⟨(s.heap.push { cls := .type "range", data := .fields #[.int lo t, .int hi u, .int 1 v] }).objs.size, [(s.heap.push { cls := .type "range", data := .fields #[.int lo t, .int hi u, .int 1 v] }).objs.size], _, _, H, rfl,
  I1.kept (t' := tk) fun b o e => Heap.get?_push_of_some _ e, bp_3 _ lo (hi - lo).toNat, ?_, fun b hb => ?_, q⟩
 ·have e1 : lo + ((0 : Nat) : Int) * 1 = lo := by simp
  have e2 : (((hi - lo).toNat : Nat) : Int) - ((0 : Nat) : Int) = Builtin.Range.rangeSize lo hi 1 := by rw [rangeSize_one]; split <;> omega
  show IsRangeIter _ _ (lo + ((0 : Nat) : Int) * 1) ((((hi - lo).toNat : Nat) : Int) - ((0 : Nat) : Int)) 1
  rw [e1, e2]
  exact Heap.get?_push_size _ rfl
 ·have e : b = (s.heap.push { cls := .type "range", data := .fields #[.int lo t, .int hi u, .int 1 v] }).objs.size := by simpa using hb
  subst e
  exact I1.fpOk (Nat.le_refl _) (I1.hok.fresh (Nat.le_refl _))
def di_1 (ta : TA) : TI := fun σ H R => ta σ H fun vs H1 => ∃ j : Int, vs = [.int j] ∧ -(2 ^ 62) ≤ j ∧ j < 2 ^ 62 ∧ R (Itr 0 j.toNat) H1
def di_2 (ta : TA) : TI := fun σ H R => ta σ H fun vs H1 => ∃ i j : Int, vs = [.int i, .int j] ∧ (-(2 ^ 62) ≤ i ∧ i < 2 ^ 62 ∧ -(2 ^ 62) ≤ j ∧ j < 2 ^ 62) ∧ R (Itr i (j - i).toNat) H1
theorem cb_0 {a : Expr} {ta : TA} {p pos : Pos} (hg : Gl X "range") (hm : X.mg "range" = none) (ha : PA X [a] ta) (hs : starEach [a] X.env = [(false, eval a X.env)] := by rfl) : PI X tg (.Call (.Name "range" p) [a] [] pos) (di_1 ta) := by
 intro zd s σ H R I h
 refine Call_ (ab_4 I hg hm boot_range (PyProof.Rows.callWith_type1 (thn (ha pos zd s σ H _ I h) fun us s1 ⟨vs, H1, I1, r1, q1⟩ => ?_) hs rfl))
 obtain ⟨j, e, q1, q2, q⟩ := q1
 subst e
 cases r1 with
 | cons r rr =>
  cases rr
  obtain ⟨t, rfl⟩ := r
  exact call_range_1 (bg_9 I1 (by omega) (by omega) q1 q2 (by simpa using q))
theorem cb_1 {a b : Expr} {ta : TA} {p pos : Pos} (hg : Gl X "range") (hm : X.mg "range" = none) (ha : PA X [a, b] ta) (hs : starEach [a, b] X.env = [(false, eval a X.env), (false, eval b X.env)] := by rfl) (hs2 : starEach [b] X.env = [(false, eval b X.env)] := by rfl) :
  PI X tg (.Call (.Name "range" p) [a, b] [] pos) (di_2 ta) := by
 intro zd s σ H R I h
 refine Call_ (ab_4 I hg hm boot_range (PyProof.Rows.callWith_type1 (thn (ha pos zd s σ H _ I h) fun us s1 ⟨vs, H1, I1, r1, q1⟩ => ?_) (by rw [hs, hs2]) (by rw [hs2]; rfl)))
 obtain ⟨i, j, e, ⟨q1, q2, q3, q4⟩, q⟩ := q1
 subst e
 cases r1 with
 | cons r rr =>
  cases rr with
  | cons r' rr =>
   cases rr
   obtain ⟨t, rfl⟩ := r
   obtain ⟨t', rfl⟩ := r'
   exact call_range_2 (bg_9 I1 q1 q2 q3 q4 q)
def tFor (wi : TI) (g : TG) (tb : TS) : TS := fun D σ H => wi σ H fun J H1 => ∃ W : Nat → Nat → St → Hp → Prop, (∃ m, W 0 m σ H1) ∧ ∀ i m σ H, W i m σ H →
 (J.stop i H ∧ D.nx σ H) ∨ (J.go i H ∧ ∃ N : St → Hp → Prop, (∀ σ' H', N σ' H' → ∃ m', m' < m ∧ W (i + 1) m' σ' H') ∧ ∀ x H', J.yld i H x H' → g x σ H' fun σ2 H2 => tb { D with nx := N, ct := N, bk := D.nx } σ2 H2)
def an_5 (fp : List Addr) (h : Heap) : List (Addr × Obj) := fp.filterMap fun b => (h.get? b).map fun o => (b, o)
theorem v_1 {fp : List Addr} {h : Heap} {b : Addr} {o : Obj} (hb : b ∈ fp) (e : h.get? b = some o) : (b, o) ∈ an_5 fp h := List.mem_filterMap.mpr ⟨b, hb, by rw [e]; rfl⟩
theorem cb_2 {fp : List Addr} {h : Heap} {p : Addr × Obj} (hp : p ∈ an_5 fp h) : p.1 ∈ fp ∧ h.get? p.1 = some p.2 := by
 obtain ⟨b, hb, e⟩ := List.mem_filterMap.mp hp
 cases q : h.get? b with
 | none => rw [q] at e; cases e
 | some o =>
  rw [q] at e
  have e' : (b, o) = p := Option.some.inj e
  subst e'
  exact ⟨hb, q⟩
theorem Inv.pinned {zd : List (Addr × Obj)} {σ : St} {H : Hp} {s : Shared} {fp : List Addr} (I : Inv X zd σ H s) (hf : ∀ b ∈ fp, FpOk X zd H b) (ho : ∀ b ∈ fp, ∃ o, s.heap.get? b = some o ∧ ∀ v, o.data ≠ .cell v) : Inv X (zd ++ an_5 fp s.heap) σ H s :=
 I.pins_of fun p hp => (List.mem_append.mp hp).elim (fun z => I.pin p (List.mem_append_right _ z)) fun z => by
  obtain ⟨hb, e⟩ := cb_2 z
  obtain ⟨f0, f1, f2, _⟩ := hf p.1 hb
  obtain ⟨o, e', d⟩ := ho p.1 hb
  rw [e] at e'; cases e'
  exact ⟨e, f0, f1, f2, d⟩
theorem Inv.unpinned {zd pl : List (Addr × Obj)} {σ : St} {H : Hp} {s : Shared} (I : Inv X (zd ++ pl) σ H s) : Inv X zd σ H s := I.pins_of fun p hp => I.pin p (List.mem_append_right _ (List.mem_append_left _ hp))
theorem dc_1 {iter : Expr} {body : List Stmt} {wi : TI} {g : TG} {tb : TS} {pos : Pos} (hp : PassesOwn (model X.prog X.w) X.A X.env X.xe) (hc : X.calm = true) (hi : PI X tg iter wi) (hg : PG X tg g) (hb : PSs X body tb)
  (hs : ∀ x, foldedSetIterable iter X.env x = pure x := by intro _; rfl) : PS X (.For tg iter body [] pos) (tFor wi g tb) := by
 intro zd s σ H D I h
 refine wpAny_For (thn (hi zd s σ H _ I h) fun v s1 h1 => thn h1 fun itv s2 h2 => ?_) hs
 obtain ⟨it, fp, tn, J, H2, e, I2, T, st2, f2, W, ⟨m0, w0⟩, turn⟩ := h2
 subst e
 
 have bx : ∀ {H' : Hp}, (∀ b ∈ fp, H' b = none) → ∀ b ∈ fp, FpOk X zd H' b := fun hn b hb => ⟨hn b hb, (f2 b hb).2⟩
 refine codeAny_forLoop_any (fun n s' => ∃ i σ' H', Inv X zd σ' H' s' ∧ tn i s'.heap ∧ (∀ b ∈ fp, H' b = none) ∧ W i n σ' H') ?_ m0 ⟨0, σ, H2, I2, st2, fun b hb => (f2 b hb).1, w0⟩
 rintro n s3 ⟨i, σ3, H3, I3, st3, fr3, w3⟩
 rcases turn i n σ3 H3 w3 with ⟨stop, qn⟩ | ⟨go, N, hN, step⟩
 ·refine wpAny_passesOwn hp (thn (T.done X rfl rfl rfl hc i zd s3 σ3 H3 X.xe I3 (bx fr3) st3 stop) fun r s4 ⟨hr, I4⟩ => ?_)
  subst hr
  exact wpAny_execs_nil ⟨σ3, H3, I4, qn⟩
 ·refine wpAny_passesOwn hp (thn (T.item X rfl rfl rfl hc i zd s3 σ3 H3 X.xe I3 (bx fr3) st3 go) fun r s4 ⟨u, hr, h4⟩ => ?_)
  subst hr
  refine wpAny_passesOwn hp (thn h4 fun _ s5 ⟨x, H5, I5, r5, y5, st5, fr5⟩ => ?_)
  have I5' := I5.pinned (bx fr5) (T.obj _ _ st5)
  refine wpAny_passesOwn hp (thn (hg _ s5 σ3 H5 x u _ I5' r5 (step x H5 y5)) fun _ s6 ⟨σ6, H6, I6, q6⟩ => ?_)
  refine wpAny_passesOwn hp (thn (hb _ s6 σ6 H6 _ I6 q6) fun f s7 q7 => ?_)
  have again : ∀ {σ7 : St} {H7 : Hp}, Inv X (zd ++ an_5 fp s5.heap) σ7 H7 s7 → N σ7 H7 → ∃ m, m < n ∧ ∃ i σ' H', Inv X zd σ' H' s7 ∧ tn i s7.heap ∧ (∀ b ∈ fp, H' b = none) ∧ W i m σ' H' := fun {σ7 H7} I7 n7 => by
   obtain ⟨m', hm, w7⟩ := hN σ7 H7 n7
   refine ⟨m', hm, i + 1, σ7, H7, I7.unpinned, T.keep _ _ _ st5 fun b hb o e => (I7.pin (b, o) (List.mem_append_right _ (List.mem_append_right _ (v_1 hb e)))).1, fun b hb => ?_, w7⟩
   obtain ⟨o, e, d⟩ := T.obj _ _ st5 b hb
   exact (I7.pin (b, o) (List.mem_append_right _ (List.mem_append_right _ (v_1 hb e)))).2.1
  cases f with
  | next => obtain ⟨σ7, H7, I7, n7⟩ := q7; exact again I7 n7
  | cont => obtain ⟨σ7, H7, I7, n7⟩ := q7; exact again I7 n7
  | brk => obtain ⟨σ7, H7, I7, q7⟩ := q7; exact ⟨σ7, H7, I7.unpinned, q7⟩
  | ret v => obtain ⟨x7, σ7, H7, I7, r7, q7⟩ := q7; exact ⟨x7, σ7, H7, I7.unpinned, r7, q7⟩
end
abbrev R2 := V → V → Hp → VK → Prop
def OpR (X : Cx) (f : Value → Value → Sem Value) (r : R2) : Prop :=
 ∀ (zd : List (Addr × Obj)) (s : Shared) (σ : St) (H : Hp) (x y : V) (v u : Value) (Q : VK), Inv X zd σ H s → RelV x v → RelV y u → r x y H Q →
  wpAny (model X.prog X.w) X.A (f v u) (EP X zd σ Q) X.xe s
def t_7 (X : Cx) (f : Value) (r : List V → Hp → VK → Prop) : Prop :=
 ∀ (zd : List (Addr × Obj)) (s : Shared) (σ : St) (H : Hp) (xs : List V) (us : List Value) (Q : VK), Inv X zd σ H s → Vals xs us → r xs H Q →
  wpAny (model X.prog X.w) X.A (call f us) (EP X zd σ Q) X.xe s
def TruR (X : Cx) (r : V → Hp → (Bool → Hp → Prop) → Prop) : Prop :=
 ∀ (zd : List (Addr × Obj)) (s : Shared) (σ : St) (H : Hp) (x : V) (v : Value) (Q : Bool → Hp → Prop), Inv X zd σ H s → RelV x v → r x H Q →
  wpAny (model X.prog X.w) X.A (truthy v) (TP X zd σ Q) X.xe s
def tOp (r : R2) (ta tb : TE) : TE := fun σ H Q => ta σ H fun x H1 => tb σ H1 fun y H2 => r x y H2 Q
def rI (C : Int → Int → Prop) (g : Int → Int → V) : R2 := fun x y H Q => ∃ i j, x = .int i ∧ y = .int j ∧ C i j ∧ Q (g i j) H
def rI0 (g : Int → Int → V) : R2 := fun x y H Q => ∃ i j, x = .int i ∧ y = .int j ∧ Q (g i j) H
section
variable {X : Cx} {a b c : Expr} {ta tb tc : TE} {pos : Pos}
theorem binT (ha : PE X a ta) (hb : PE X b tb) {zd : List (Addr × Obj)} {s : Shared} {σ : St} {H : Hp} {R : V → V → Hp → Prop} (I : Inv X zd σ H s)
  (h : ta σ H fun x H1 => tb σ H1 fun y H2 => R x y H2) {Q : Value → Shared → Prop} {f : Value → Value → Sem Value}
  (hf : ∀ v u s2 x y H2, Inv X zd σ H2 s2 → RelV x v → RelV y u → R x y H2 → wpAny (model X.prog X.w) X.A (f v u) Q X.xe s2) :
  wpAny (model X.prog X.w) X.A (eval a X.env) (fun v s₁ => wpAny (model X.prog X.w) X.A (eval b X.env) (fun u s₂ => wpAny (model X.prog X.w) X.A (f v u) Q X.xe s₂) X.xe s₁) X.xe s := by
 refine thn (ha zd s σ H _ I h) fun v s1 ⟨x, H1, I1, r1, q1⟩ => ?_
 refine thn (hb zd s1 σ H1 _ I1 q1) fun u s2 ⟨y, H2, I2, r2, q2⟩ => ?_
 exact hf v u s2 x y H2 I2 r1 r2 q2
theorem cz_2 {op : Operator} {r : R2} (ho : OpR X (binaryOp op) r) (ha : PE X a ta) (hb : PE X b tb) : PE X (.BinOp a op b pos) (tOp r ta tb) := by
 intro zd s σ H Q I h
 exact wpAny_BinOp (binT ha hb I h fun v u s2 x y H2 I2 rx ry q => ho zd s2 σ H2 x y v u Q I2 rx ry q)
theorem opI {f : Value → Value → Sem Value} {C : Int → Int → Prop} {g : Int → Int → Int}
  (rule : ∀ (i j : Int) (t u : Tok) (s : Shared) (Q : Value → Shared → Prop) (E : Value → Shared → Prop), C i j → Q (.int (g i j) s.toks) { s with toks := s.toks + 1 } → wpAny (model X.prog X.w) X.A (f (.int i t) (.int j u)) Q E s) :
  OpR X f (rI C fun i j => .int (g i j)) := by
 intro zd s σ H x y v u Q I rx ry h
 obtain ⟨i, j, rfl, rfl, hc, q⟩ := h
 obtain ⟨t, rfl⟩ := rx
 obtain ⟨t', rfl⟩ := ry
 exact rule i j t t' s _ _ hc ⟨.int (g i j), H, I.tok _, ⟨_, rfl⟩, q⟩
theorem opI0 {f : Value → Value → Sem Value} {g : Int → Int → Int}
  (rule : ∀ (i j : Int) (t u : Tok) (s : Shared) (Q : Value → Shared → Prop) (E : Value → Shared → Prop), Q (.int (g i j) s.toks) { s with toks := s.toks + 1 } → wpAny (model X.prog X.w) X.A (f (.int i t) (.int j u)) Q E s) :
  OpR X f (rI0 fun i j => .int (g i j)) := by
 intro zd s σ H x y v u Q I rx ry h
 obtain ⟨i, j, rfl, rfl, q⟩ := h
 obtain ⟨t, rfl⟩ := rx
 obtain ⟨t', rfl⟩ := ry
 exact rule i j t t' s _ _ ⟨.int (g i j), H, I.tok _, ⟨_, rfl⟩, q⟩
theorem opB0 {f : Value → Value → Sem Value} {g : Int → Int → Bool}
  (rule : ∀ (i j : Int) (t u : Tok) (s : Shared) (Q : Value → Shared → Prop) (E : Value → Shared → Prop), Q (.bool (g i j)) s → wpAny (model X.prog X.w) X.A (f (.int i t) (.int j u)) Q E s) :
  OpR X f (rI0 fun i j => .bl (g i j)) := by
 intro zd s σ H x y v u Q I rx ry h
 obtain ⟨i, j, rfl, rfl, q⟩ := h
 obtain ⟨t, rfl⟩ := rx
 obtain ⟨t', rfl⟩ := ry
 exact rule i j t t' s _ _ ⟨.bl (g i j), H, I, rfl, q⟩
def CPow (i j : Int) : Prop := 0 ≤ j ∧ j ≤ 1000000 ∧ i.natAbs < 2 ^ 64
def CMul (i j : Int) : Prop := (-(2 ^ 64) < i ∧ i < 2 ^ 64) ∨ (-(2 ^ 64) < j ∧ j < 2 ^ 64)
theorem CMul.ok {i j : Int} (h : CMul i j) : IntMulOk i j := by
 rcases h with ⟨h1, h2⟩ | ⟨h1, h2⟩
 ·exact .of_left (intBits_le_64 h1 h2)
 ·exact .of_right (intBits_le_64 h1 h2)
theorem dc_3 : OpR X (binaryOp .Add) (rI0 fun i j => .int (i + j)) := opI0 fun _ _ _ _ _ _ _ q => add_int q
theorem dc_4 : OpR X (binaryOp .Mult) (rI CMul fun i j => .int (i * j)) := opI fun _ _ _ _ _ _ _ hc q => mul_int q hc.ok
theorem dc_5 : OpR X (binaryOp .Mod) (rI (fun _ j => 0 < j) fun i j => .int (i % j)) := opI fun i j _ _ _ _ _ hc q => by
 have h1 : (0 : Int) < j := hc
 exact mod_int' (by omega) (by rw [Int.fmod_eq_emod_of_nonneg i (by omega)]; exact q)
theorem dc_6 : OpR X (binaryOp .Pow) (rI CPow fun i j => .int (i ^ j.toNat)) := opI fun _ _ _ _ _ _ _ hc q => pow_int_small hc.1 hc.2.1 hc.2.2 q
end
def scal : V → V → Bool
 | .non, .non => true | .non, .int _ => true | .int _, .non => true | .non, .bl _ => true | .bl _, .non => true | .non, .str _ => true | .str _, .non => true
 | .int _, .int _ => true | .bl _, .bl _ => true | .str _, .str _ => true | .byt _, .byt _ => true
 | .int _, .str _ => true | .str _, .int _ => true | .bl _, .str _ => true | .str _, .bl _ => true
 | _, _ => false
def rEq : R2 := fun x y H Q => scal x y = true ∧ Q (.bl (decide (x = y))) H
def rNe : R2 := fun x y H Q => scal x y = true ∧ Q (.bl (!decide (x = y))) H
theorem bv_2 {i j : Int} : decide (V.int i = V.int j) = (i == j) := by
 rw [Bool.eq_iff_iff]
 simp
theorem ch_2 {i j : Bool} : decide (V.bl i = V.bl j) = (i == j) := by
 rw [Bool.eq_iff_iff]
 simp
theorem bv_3 {i j : Str} : decide (V.str i = V.str j) = (i == j) := by
 rw [Bool.eq_iff_iff]
 simp
theorem bv_4 {i j : Array UInt8} : decide (V.byt i = V.byt j) = (i.toList == j.toList) := by
 rw [Bool.eq_iff_iff]
 cases i
 cases j
 simp
section
variable {X : Cx} {a b c : Expr} {ta tb tc : TE} {pos : Pos}
theorem c_7 {zd : List (Addr × Obj)} {σ : St} {H : Hp} {s : Shared} {Q : VK} {k k' : Bool} (I : Inv X zd σ H s) (q : Q (.bl k) H) (e : k = k') : EP X zd σ Q (.bool k') s := by
 subst e
 exact ⟨.bl k, H, I, rfl, q⟩
theorem di_5 : OpR X (compareOp .Eq) rEq := by
 intro zd s σ H x y v u Q I rx ry h
 obtain ⟨hs, q⟩ := h
 cases x with
 | non =>
  cases rx
  cases y with
  | non => cases ry; exact PySem.EqNone.eq_none_none (c_7 I q (by simp))
  | bl j => cases ry; exact PySem.EqNone.eq_none_bool (c_7 I q (by simp))
  | int j => obtain ⟨t', rfl⟩ := ry; exact PySem.EqNone.eq_none_int (c_7 I q (by simp))
  | str j => obtain ⟨t', rfl⟩ := ry; exact PySem.EqNone.eq_none_str (c_7 I q (by simp))
  | _ => exact absurd (show false = true from hs) Bool.false_ne_true
 | bl i =>
  cases rx
  cases y with
  | non => cases ry; exact PySem.EqNone.eq_bool_none (c_7 I q (by simp))
  | bl j => cases ry; exact eq_bool (c_7 I q ch_2)
  | str j => obtain ⟨t', rfl⟩ := ry; exact PySem.EqMixed.eq_bool_str (c_7 I q (by simp))
  | _ => exact absurd (show false = true from hs) Bool.false_ne_true
 | int i =>
  obtain ⟨t, rfl⟩ := rx
  cases y with
  | non => cases ry; exact PySem.EqNone.eq_int_none (c_7 I q (by simp))
  | int j => obtain ⟨t', rfl⟩ := ry; exact eq_int (c_7 I q bv_2)
  | str j => obtain ⟨t', rfl⟩ := ry; exact PySem.EqMixed.eq_int_str (c_7 I q (by simp))
  | _ => exact absurd (show false = true from hs) Bool.false_ne_true
 | str i =>
  obtain ⟨t, rfl⟩ := rx
  cases y with
  | non => cases ry; exact PySem.EqNone.eq_str_none (c_7 I q (by simp))
  | bl j => cases ry; exact PySem.EqMixed.eq_str_bool (c_7 I q (by simp))
  | int j => obtain ⟨t', rfl⟩ := ry; exact PySem.EqMixed.eq_str_int (c_7 I q (by simp))
  | str j => obtain ⟨t', rfl⟩ := ry; exact eq_str (c_7 I q bv_3)
  | _ => exact absurd (show false = true from hs) Bool.false_ne_true
 | byt i =>
  obtain ⟨t, rfl⟩ := rx
  cases y with
  | byt j => obtain ⟨t', rfl⟩ := ry; exact eq_bytes (c_7 I q bv_4)
  | _ => exact absurd (show false = true from hs) Bool.false_ne_true
 | _ => cases y <;> exact absurd (show false = true from hs) Bool.false_ne_true
theorem di_6 : OpR X (compareOp .NotEq) rNe := by
 intro zd s σ H x y v u Q I rx ry h
 obtain ⟨hs, q⟩ := h
 cases x with
 | non =>
  cases rx
  cases y with
  | non => cases ry; exact PySem.EqNone.ne_none_none (c_7 I q (by simp))
  | bl j => cases ry; exact PySem.EqNone.ne_none_bool (c_7 I q (by simp))
  | int j => obtain ⟨t', rfl⟩ := ry; exact PySem.EqNone.ne_none_int (c_7 I q (by simp))
  | str j => obtain ⟨t', rfl⟩ := ry; exact PySem.EqNone.ne_none_str (c_7 I q (by simp))
  | _ => exact absurd (show false = true from hs) Bool.false_ne_true
 | bl i =>
  cases rx
  cases y with
  | non => cases ry; exact PySem.EqNone.ne_bool_none (c_7 I q (by simp))
  | bl j => cases ry; exact ne_bool (c_7 I q (congrArg not ch_2))
  | str j => obtain ⟨t', rfl⟩ := ry; exact PySem.EqMixed.ne_bool_str (c_7 I q (by simp))
  | _ => exact absurd (show false = true from hs) Bool.false_ne_true
 | int i =>
  obtain ⟨t, rfl⟩ := rx
  cases y with
  | non => cases ry; exact PySem.EqNone.ne_int_none (c_7 I q (by simp))
  | int j => obtain ⟨t', rfl⟩ := ry; exact ne_int (c_7 I q (congrArg not bv_2))
  | str j => obtain ⟨t', rfl⟩ := ry; exact PySem.EqMixed.ne_int_str (c_7 I q (by simp))
  | _ => exact absurd (show false = true from hs) Bool.false_ne_true
 | str i =>
  obtain ⟨t, rfl⟩ := rx
  cases y with
  | non => cases ry; exact PySem.EqNone.ne_str_none (c_7 I q (by simp))
  | bl j => cases ry; exact PySem.EqMixed.ne_str_bool (c_7 I q (by simp))
  | int j => obtain ⟨t', rfl⟩ := ry; exact PySem.EqMixed.ne_str_int (c_7 I q (by simp))
  | str j => obtain ⟨t', rfl⟩ := ry; exact ne_str (c_7 I q (congrArg not bv_3))
  | _ => exact absurd (show false = true from hs) Bool.false_ne_true
 | byt i =>
  obtain ⟨t, rfl⟩ := rx
  cases y with
  | byt j => obtain ⟨t', rfl⟩ := ry; exact ne_bytes (c_7 I q (congrArg not bv_4))
  | _ => exact absurd (show false = true from hs) Bool.false_ne_true
 | _ => cases y <;> exact absurd (show false = true from hs) Bool.false_ne_true
theorem di_7 : OpR X (compareOp .Lt) (rI0 fun i j => .bl (decide (i < j))) := opB0 fun _ _ _ _ _ _ _ q => lt_int q
theorem di_8 : OpR X (compareOp .LtE) (rI0 fun i j => .bl (decide (i ≤ j))) := opB0 fun _ _ _ _ _ _ _ q => le_int q
theorem di_9 : OpR X (compareOp .Gt) (rI0 fun i j => .bl (decide (j < i))) := opB0 fun _ _ _ _ _ _ _ q => gt_int q
theorem dj_0 : OpR X (compareOp .GtE) (rI0 fun i j => .bl (decide (j ≤ i))) := opB0 fun _ _ _ _ _ _ _ q => ge_int q
theorem cb_3 : OpR X (compareOp .In) (fun x y H Q => ∃ i j, x = .str i ∧ y = .str j ∧ Q (.bl (!(Builtin.Str.occurrences j i 0 j.length 1).isEmpty)) H) := by
 intro zd s σ H x y v u Q I rx ry h
 obtain ⟨i, j, rfl, rfl, q⟩ := h
 obtain ⟨t, rfl⟩ := rx
 obtain ⟨t', rfl⟩ := ry
 exact in_str (c_7 I q rfl)
theorem dc_7 : OpR X (compareOp .Is) (fun x y H Q => y = .non ∧ Q (.bl (decide (x = .non))) H) := by
 intro zd s σ H x y v u Q I rx ry h
 obtain ⟨rfl, q⟩ := h
 cases ry
 refine is_none_gen (c_7 I q ?_)
 cases x <;> first
  | (cases rx; rfl)
  | (obtain ⟨t, rfl⟩ := rx; rfl)
theorem d_6 (b : Expr) {op : CmpOp} (h : op ≠ .In := by decide) (h2 : op ≠ .NotIn := by decide) : behindInMarks op b = false := by
 have e1 : (op == CmpOp.In) = false := by cases op <;> first | rfl | exact absurd rfl h
 have e2 : (op == CmpOp.NotIn) = false := by cases op <;> first | rfl | exact absurd rfl h2
 cases b <;> simp [behindInMarks, e1, e2]
theorem cs_2 {op : CmpOp} {r : R2} (ho : OpR X (compareOp op) r) (ha : PE X a ta) (hb : PE X b tb) (hm : behindInMarks op b = false) : PE X (.Compare a [op] [b] pos) (tOp r ta tb) := by
 intro zd s σ H Q I h
 exact wpAny_Compare1 (binT ha hb I h fun v u s2 x y H2 I2 rx ry q => ho zd s2 σ H2 x y v u Q I2 rx ry q) hm
def dj_1 (t : TE) : TT := fun σ H Q => t σ H fun x H' => ∃ k, x = .bl k ∧ Q k H'
theorem cs_3 {op : CmpOp} {r : R2} (ho : OpR X (compareOp op) r) (ha : PE X a ta) (hb : PE X b tb) (hm : behindInMarks op b = false) : PT X (.Compare a [op] [b] pos) (dj_1 (tOp r ta tb)) := by
 intro zd s σ H Q I h
 refine wpAny_isTrue_Compare1 (thn (ha zd s σ H _ I h) fun v s1 ⟨x, H1, I1, r1, q1⟩ => thn (hb zd s1 σ H1 _ I1 q1) fun u s2 ⟨y, H2, I2, r2, q2⟩ =>
  thn (ho zd s2 σ H2 x y v u _ I2 r1 r2 q2) fun c s3 ⟨z, H3, I3, r3, k, e, q3⟩ => ?_) hm
 subst e
 cases r3
 exact wpAny_truthy_bool ⟨H3, I3, q3⟩
def ch_3 (r r' : R2) (ta tb tc : TE) : TE := fun σ H Q => ta σ H fun x H1 => tb σ H1 fun y H2 => r x y H2 fun z H3 => ∃ k, z = .bl k ∧
 (if k = true then tc σ H3 fun w' H4 => r' y w' H4 Q else Q (.bl false) H3)
theorem ch_4 {op op' : CmpOp} {r r' : R2} (ho : OpR X (compareOp op) r) (ho' : OpR X (compareOp op') r') (ha : PE X a ta) (hb : PE X b tb) (hc : PE X c tc)
  (hm : lastMarks [op, op'] [b, c] = false := by with_unfolding_all rfl) : PE X (.Compare a [op, op'] [b, c] pos) (ch_3 r r' ta tb tc) := by
 intro zd s σ H Q I h
 refine Compare_chain (thn (ha zd s σ H _ I h) fun v s1 ⟨x, H1, I1, r1, q1⟩ => chain_link (thn (hb zd s1 σ H1 _ I1 q1) fun u s2 ⟨y, H2, I2, r2, q2⟩ =>
  thn (ho zd s2 σ H2 x y v u _ I2 r1 r2 q2) fun d s3 ⟨z, H3, I3, r3, k, e, q3⟩ => ?_)) hm
 subst e
 cases r3
 refine wpAny_truthy_bool ?_
 cases k with
 | false => exact ite_ff ⟨.bl false, H3, I3, rfl, q3⟩
 | true => exact ite_tt (chain_last (thn (hc zd s3 σ H3 _ I3 q3) fun w' s4 ⟨z', H4, I4, r4, q4⟩ => ho' zd s4 σ H4 y z' u w' Q I4 r2 r4 q4))
def TruV (K : Frag) (x : V) (H : Hp) (k : Bool) : Prop :=
 match x with
 | .non => k = false
 | .bl b => k = b
 | .int i => k = (i != 0)
 | .str y => y.length ≤ sizeLine ∧ k = ((y.length : Int) != 0)
 | .byt y => y.size ≤ sizeLine ∧ k = ((y.size : Int) != 0)
 | .ref p => (∃ xs, SqL K H p xs ∧ k = !xs.isEmpty) ∨ (∃ xs, SqT K H p xs ∧ k = !xs.isEmpty) ∨ ∃ kvs, H p = some (.dK kvs) ∧ k = !kvs.isEmpty
 | _ => False
theorem bp_4 {κ : Type} {kvs : List (κ × V)} {vs : List (κ × Value)} (r : KV kvs vs) : (!vs.isEmpty) = !kvs.isEmpty := by
 cases r <;> rfl
theorem an_6 {xs : List V} {its : List Value} (r : Vals xs its) : (!its.toArray.isEmpty) = !xs.isEmpty := by
 cases r <;> simp
theorem ab_5 : (sizeLine : Nat) < 2 ^ 63 := by rw [sizeLine_eq]; decide
theorem dc_9 : TruR X (fun x H Q => ∃ k, TruV X.K x H k ∧ Q k H) := by
 intro zd s σ H x v Q I rx h
 obtain ⟨k, e, q⟩ := h
 have hl := ab_5
 have hs : sizeLine = 16777216 := sizeLine_eq
 cases x with
 | non =>
  cases rx
  have e' : k = false := e
  subst e'
  exact truthy_none ⟨H, I, q⟩
 | bl b =>
  cases rx
  have e' : k = b := e
  subst e'
  exact wpAny_truthy_bool ⟨H, I, q⟩
 | int i =>
  obtain ⟨t, rfl⟩ := rx
  have e' : k = (i != 0) := e
  subst e'
  exact PySem.P.truthy_int ⟨H, I, q⟩
 | str y =>
  obtain ⟨t, rfl⟩ := rx
  obtain ⟨hy, e'⟩ : y.length ≤ sizeLine ∧ k = ((y.length : Int) != 0) := e
  subst e'
  exact PySem.P.truthy_str (by omega) ⟨H, I.tok _, q⟩
 | byt y =>
  obtain ⟨t, rfl⟩ := rx
  obtain ⟨hy, e'⟩ : y.size ≤ sizeLine ∧ k = ((y.size : Int) != 0) := e
  subst e'
  exact truthy_bytes (by omega) ⟨H, I.tok _, q⟩
 | ref p =>
  cases rx
  have e' : (∃ xs, SqL X.K H p xs ∧ k = !xs.isEmpty) ∨ (∃ xs, SqT X.K H p xs ∧ k = !xs.isEmpty) ∨ ∃ kvs, H p = some (.dK kvs) ∧ k = !kvs.isEmpty := e
  rcases e' with ⟨xs, hx, e'⟩ | ⟨xs, hx, e'⟩ | ⟨kvs, hx, e'⟩
  ·subst e'
   obtain ⟨its, r, pl, hz⟩ := I.list hx
   have zm := r.length
   exact wpAny_truthy_list pl.isList (by simp only [List.size_toArray]; omega) ⟨H, I.tok _, by rw [an_6 r]; exact q⟩
  ·subst e'
   obtain ⟨its, r, pl, hz⟩ := I.tuple hx
   have zm := r.length
   exact truthy_tuple pl (by simp only [List.size_toArray]; omega) ⟨H, I.tok _, by rw [an_6 r]; exact q⟩
  ·subst e'
   obtain ⟨hz, hS, vs, r, m⟩ : kvs.length ≤ sizeLine ∧ (p == sysModules) = false ∧ ∃ vs, KV kvs vs ∧ s.heap.DictOf (e_6 X.prog X.w) p vs := I.hok p _ hx
   have zm : kvs.length = vs.length := Paired.length r
   exact wpAny_truthy_dict hS m (by omega) ⟨H, I.tok _, by rw [bp_4 r]; exact q⟩
 | _ => exact (show False from e).elim
theorem ch_5 (ha : PE X a ta) (he : ∀ whole, isTrue a X.env whole = (do let v ← whole; standAt a.pos; holding [v] (truthy v))) :
  PT X a (fun σ H Q => ta σ H fun x H' => ∃ k, TruV X.K x H' k ∧ Q k H') := by
 intro zd s σ H Q I h
 exact isTrue_plain (thn (ha zd s σ H _ I h) fun v s1 ⟨x, H1, I1, r1, q1⟩ => dc_9 zd s1 σ H1 x v Q I1 r1 q1) (he _)
theorem bp_5 : OpR X (binaryOp .Add) (fun x y H Q => ∃ i j, x = .str i ∧ y = .str j ∧ i.length + j.length ≤ sizeLine ∧ Q (.str (i ++ j)) H) := by
 intro zd s σ H x y v u Q I rx ry h
 obtain ⟨i, j, rfl, rfl, hz, q⟩ := h
 obtain ⟨t, rfl⟩ := rx
 obtain ⟨t', rfl⟩ := ry
 exact add_str (fun t' tk => ⟨.str (i ++ j), H, I.tok _, ⟨_, rfl⟩, q⟩) hz
theorem au_7 {x : V} {us : List Value} (r : Vals [x] us) : ∃ u, us = [u] ∧ RelV x u := by
 cases r with
 | cons r1 r2 => cases r2; exact ⟨_, rfl, r1⟩
theorem cz_3 {x y : V} {us : List Value} (r : Vals [x, y] us) : ∃ u w', us = [u, w'] ∧ RelV x u ∧ RelV y w' := by
 cases r with
 | cons r1 r2 =>
  cases r2 with
  | cons r3 r4 => cases r4; exact ⟨_, _, rfl, r1, r3⟩
theorem cb_4 (hc : X.calm = true) : t_7 X (.builtin "max") (fun xs H Q => ∃ i j, xs = [.int i, .int j] ∧ Q (.int (if j > i then j else i)) H) := by
 intro zd s σ H xs us Q I r h
 obtain ⟨i, j, rfl, q⟩ := h
 obtain ⟨u, w', rfl, ⟨t, rfl⟩, ⟨t', rfl⟩⟩ := cz_3 r
 refine max_two_ints (I.ok.hd hc) fun h' tk k => ⟨_, H, I.kept k, ?_, q⟩
 by_cases hj : j > i
 ·rw [if_pos hj, if_pos hj]; exact ⟨_, rfl⟩
 ·rw [if_neg hj, if_neg hj]; exact ⟨_, rfl⟩
theorem cb_5 (hc : X.calm = true) : t_7 X (.builtin "min") (fun xs H Q => ∃ i j, xs = [.int i, .int j] ∧ Q (.int (if j < i then j else i)) H) := by
 intro zd s σ H xs us Q I r h
 obtain ⟨i, j, rfl, q⟩ := h
 obtain ⟨u, w', rfl, ⟨t, rfl⟩, ⟨t', rfl⟩⟩ := cz_3 r
 refine min_two_ints (I.ok.hd hc) fun h' tk k => ⟨_, H, I.kept k, ?_, q⟩
 by_cases hj : j < i
 ·rw [if_pos hj, if_pos hj]; exact ⟨_, rfl⟩
 ·rw [if_neg hj, if_neg hj]; exact ⟨_, rfl⟩
theorem au_8 : t_7 X (.type "int") (fun xs H Q => (∃ i, xs = [.int i] ∧ Q (.int i) H) ∨ ∃ k, xs = [.bl k] ∧ Q (.int (if k then 1 else 0)) H) := by
 intro zd s σ H xs us Q I r h
 rcases h with ⟨i, rfl, q⟩ | ⟨k, rfl, q⟩
 ·obtain ⟨u, rfl, t, rfl⟩ := au_7 r
  exact call_int_int ⟨.int i, H, I, ⟨_, rfl⟩, q⟩
 ·obtain ⟨u, rfl, r1⟩ := au_7 r
  cases r1
  exact call_int_bool ⟨.int (if k then 1 else 0), H, I.tok _, ⟨_, rfl⟩, q⟩
end
structure ObjM (h : Heap) (x dx C : Addr) (mA : Str → Option Value) : Prop where
 obj : h.get? x = some (instObj C dx)
 ns : h.Ns1 dx mA
 ne : dx ≠ x
theorem cb_6 {h : Heap} {dx : Addr} {mA : Str → Option Value} (n : h.Ns1 dx mA) : ∃ od, h.get? dx = some od ∧ ∀ name, lookIn name od = some (mA name) := by
 obtain ⟨o, es, ep, ho, hd, hk, _, hm⟩ := n
 refine ⟨o, ho, fun name => ?_⟩
 have e := hm name
 unfold nsFind findBy at e
 rw [← Array.find?_toList] at e
 unfold lookIn
 rw [hd]
 dsimp only
 split
 ·rename_i y q
  rw [q] at e
  exact congrArg some e
 ·rename_i q
  rw [q] at e
  have a : es.toList.any (·.refKey) = false := by
   rw [List.any_eq_false]
   intro y hy
   obtain ⟨z, t, dm⟩ := hk y (Array.mem_toList_iff.mp hy)
   simp [DictEntry.refKey, dm]
  have a' : ¬ es.toList.any (·.refKey) = true := by rw [a]; exact Bool.false_ne_true
  rw [if_neg a']
  exact congrArg some e
theorem ObjM.look {h : Heap} {x dx C : Addr} {mA : Str → Option Value} (I : ObjM h x dx C mA) : ∃ od, InstAt h x (instObj C dx) C (some od) ∧ ∀ name, lookIn name od = some (mA name) :=
 let ⟨od, ho, hl⟩ := cb_6 I.ns
 ⟨od, ⟨I.obj, rfl, rfl, ho⟩, hl⟩
section
variable {prog : Program} {w : World} {A : Around} {E : Value → Shared → Prop} {s : Shared} {K : Frag} {x dx C f : Addr} {mA : Str → Option Value} {name : Str} {v : Value}
theorem cs_4 {expr : Bool} {Q : Value → Shared → Prop} (X : K.In s.heap) (I : ObjM s.heap x dx C mA) (hg : plainGet K C name = true) (hh : hasDictIn K C = true)
  (ha : findIn K (.ref C) name = some none) (hv : mA name = some v) (hv' : handedIn v = true) (h : Q v { s with toks := s.toks + 1 }) :
  wpAny (model prog w) A (getAttr (.ref x) name expr) Q E s := by
 obtain ⟨od, J, hl⟩ := I.look
 exact get_value X J (plainGet_of hg).1 (findObj_own hh ha rfl (by rw [hl, hv])) hv' h
theorem ch_6 {pl : Sem Bool} {Q : Value × List Value → Shared → Prop} (X : K.In s.heap) (I : ObjM s.heap x dx C mA) (hg : plainGet K C name = true)
  (hf : findIn K (.ref C) name = some (some (.ref f))) (ht : isFn K (.ref f) = true) (hv : mA name = none) (h : Q (.ref f, [.ref x]) s) :
  wpAny (model prog w) A (getMethod (.ref x) name pl) Q E s := by
 obtain ⟨od, J, hl⟩ := I.look
 exact method_fn X J (plainGet_of hg).1 (plainGet_of hg).2 hf (beq_iff_eq.mp ht) (by show (lookIn name od).map (·.isSome) = some false; rw [hl, hv]; rfl) h
theorem cs_5 {ns : List Str} {Q : Unit → Shared → Prop} (X : K.In s.heap) (I : ObjM s.heap x dx C mA)
  (hs : findIn K (.ref C) "__setattr__" = some (some (.builtin "object.__setattr__"))) (hp : plainOver K C = true) (ht : takerIn K C name = some none) (hh : hasDictIn K C = true)
  (hw : PySem.Within mA ns) (hsz : ns.length ≤ sizeLine)
  (h : ∀ h', ObjM h' x dx C (fun y => if y = name then some v else mA y) → Heap.SameBut dx s.heap h' → Q () { s with heap := h', toks := s.toks + 2 }) :
  wpAny (model prog w) A (setAttr (.ref x) name v) Q E s := by
 obtain ⟨od, J, hl⟩ := I.look
 refine set_plain X J hs (osa_open (s := { s with toks := s.toks + 1 }) (r := none) X J hp ht fun b => ?_)
 obtain ⟨cd, hc, hd'⟩ := any_some hh
 have hx : s.heap.get? x = some ⟨.ref C, some dx, .plain, #[]⟩ := I.obj
 refine wpAny_bind (wpAny_pure (wpAny_bind (wpAny_bind (wpAny_loadPart hx (wpAny_bind (Looks.here (s := { s with toks := s.toks + 1 }) (looks_clsIn X hc) ?_))))))
 rw [hd']
 refine wpAny_pure (a := some dx) (wpAny_bind (wpAny_pure (wpAny_bind ?_)))
 refine wpAny_nsSet1 (s := { s with toks := s.toks + 1 }) I.ns fun h' hn2 hs2 => ?_
 obtain ⟨oD, esD, epD, hoD, hdD, hcD⟩ := hn2.count (PySem.Within.cons name v hw)
 refine wpAny_bind (wpAny_lookBehind hoD (by rw [hdD]; exact pastItsLine_dict (Nat.le_trans hcD (by rw [List.length_cons]; omega))) ?_)
 exact wpAny_pure (h _ ⟨(hs2.2 _ (Ne.symm I.ne)).trans I.obj, hn2, I.ne⟩ hs2)
theorem ch_7 {R : Result → Shared → Prop} {vs : List Value} {kw : List (Str × Value)} (X : K.In s.heap) (hm : makesIn K C = true)
  (hi : findIn K (.ref C) "__init__" = some (some (.ref f))) (hf : typeIn K (.ref f) = some (.type "function"))
  (h : codeAny (model prog w) (A.under (.builtin "type.__call__" ⟨.ref C :: vs, kw⟩)) (.call (.ref f) ⟨.ref (s.heap.objs.size + 1) :: vs, kw⟩) (InitBack (s.heap.objs.size + 1) R)
   { s with heap := (s.heap.push emptyDict).push (instObj C s.heap.objs.size) }) :
  codeAny (model prog w) A (.call (.ref C) ⟨vs, kw⟩) R s := by
 obtain ⟨hh, g, d, t, os⟩ := s
 exact make_core (makes_of X hm) (looks_findIn X hi) (fun self => bind_fn X self hf) (.inl rfl) h
end
def v_2 (f : Str) (v : V) : List (Str × V) → List (Str × V)
 | [] => [(f, v)]
 | (g, x) :: r => if g = f then (g, v) :: r else (g, x) :: v_2 f v r
theorem ai_3 (f g : Str) (v : V) : ∀ fs : List (Str × V), (v_2 f v fs).lookup g = if g = f then some v else fs.lookup g
 | [] => by
  show List.lookup g [(f, v)] = _
  by_cases h : g = f
  ·have hb : (g == f) = true := beq_iff_eq.mpr h
   simp only [List.lookup, hb, if_pos h]
  ·have hb : (g == f) = false := beq_eq_false_iff_ne.mpr h
   simp only [List.lookup, hb, if_neg h]
 | (k, x) :: r => by
  have ih := ai_3 f g v r
  rw [show v_2 f v ((k, x) :: r) = (if k = f then (k, v) :: r else (k, x) :: v_2 f v r) from rfl]
  by_cases hk : k = f
  ·rw [if_pos hk]
   by_cases h : g = k
   ·have hb : (g == k) = true := beq_iff_eq.mpr h
    simp only [List.lookup, hb, if_pos (h.trans hk)]
   ·have hb : (g == k) = false := beq_eq_false_iff_ne.mpr h
    simp only [List.lookup, hb, if_neg (fun e : g = f => h (e.trans hk.symm))]
  ·rw [if_neg hk]
   by_cases h : g = k
   ·have hb : (g == k) = true := beq_iff_eq.mpr h
    simp only [List.lookup, hb, if_neg (fun e : g = f => hk (h.symm.trans e))]
   ·have hb : (g == k) = false := beq_eq_false_iff_ne.mpr h
    simp only [List.lookup, hb]
    exact ih
theorem af_6 (f : Str) (v : V) : ∀ fs : List (Str × V), f ∈ (v_2 f v fs).map (·.1) ∧ ∀ g, g ∈ fs.map (·.1) → g ∈ (v_2 f v fs).map (·.1)
 | [] => ⟨by simp [v_2], fun g h => by simp at h⟩
 | (k, x) :: r => by
  obtain ⟨i1, i2⟩ := af_6 f v r
  rw [show v_2 f v ((k, x) :: r) = (if k = f then (k, v) :: r else (k, x) :: v_2 f v r) from rfl]
  by_cases hk : k = f
  ·rw [if_pos hk]
   subst hk
   exact ⟨by simp, fun g h => by simpa using h⟩
  ·rw [if_neg hk]
   refine ⟨?_, fun g h => ?_⟩
   ·rw [List.map_cons]
    exact List.mem_cons_of_mem _ i1
   ·rw [List.map_cons] at h ⊢
    rcases List.mem_cons.mp h with e | e
    ·exact List.mem_cons.mpr (.inl e)
    ·exact List.mem_cons_of_mem _ (i2 g e)
theorem ai_4 (f : Str) (v : V) : ∀ fs : List (Str × V), (v_2 f v fs).length ≤ fs.length + 1
 | [] => by simp [v_2]
 | (k, x) :: r => by
  have ih := ai_4 f v r
  rw [show v_2 f v ((k, x) :: r) = (if k = f then (k, v) :: r else (k, x) :: v_2 f v r) from rfl]
  by_cases hk : k = f
  ·rw [if_pos hk, List.length_cons, List.length_cons]; omega
  ·rw [if_neg hk, List.length_cons, List.length_cons]; omega
theorem RelO.some_of {v : V} {o : Option Value} (r : RelO (some v) o) : ∃ u, o = some u ∧ RelV v u := by
 cases o with
 | none => exact (show False from r).elim
 | some u => exact ⟨u, rfl, r⟩
theorem RelO.none_of {o : Option Value} (r : RelO none o) : o = none := by
 cases o with
 | none => rfl
 | some u => exact (show False from r).elim
theorem cb_7 {v : V} {u : Value} (r : RelV v u) : handedIn u = true := by
 cases v with
 | non => cases (show u = Value.none from r); rfl
 | bl b => cases (show u = Value.bool b from r); rfl
 | int i => obtain ⟨t, e⟩ := (show ∃ t, u = Value.int i t from r); cases e; rfl
 | str x => obtain ⟨t, e⟩ := (show ∃ t, u = Value.str x t from r); cases e; rfl
 | byt b => obtain ⟨t, e⟩ := (show ∃ t, u = Value.bytes b t from r); cases e; rfl
 | flt b => obtain ⟨t, e⟩ := (show ∃ t, u = Value.float b t from r); cases e; rfl
 | ref a => cases (show u = Value.ref a from r); rfl
 | ty n => cases (show u = Value.type n from r); rfl
section
variable {P : Program} {w : World} {H H' : Hp} {h h' : Heap} {a C dx : Addr} {fs fs' : List (Str × V)}
theorem az_9 (hok : HOk P w H h) (e : H a = some (.ins C dx fs)) : ∃ mA, ObjM h a dx C mA ∧ (∀ f, RelO (fs.lookup f) (mA f)) ∧ PySem.Within mA (fs.map (·.1)) ∧ fs.length ≤ 1000 ∧ H dx = some (.own a) := by
 obtain ⟨d, z, ne, ob, mA, n, r, q⟩ := (show ObjOk P w H h a (.ins C dx fs) from hok a _ e)
 exact ⟨mA, ⟨ob, n, ne⟩, r, q, z, d⟩
end
structure Cls (K : Frag) (C : Addr) : Prop where
 pg : plainGet K C Str.empty = true
 hd : hasDictIn K C = true
 po : plainOver K C = true
 sa : findIn K (.ref C) "__setattr__" = some (some (.builtin "object.__setattr__"))
theorem Cls.get {K : Frag} {C : Addr} (c : Cls K C) (f : Str) : plainGet K C f = true := c.pg
def NoAttr (K : Frag) (C : Addr) (f : Str) : Prop := findIn K (.ref C) f = some none
theorem NoAttr.taker {K : Frag} {C : Addr} {f : Str} (n : NoAttr K C f) : takerIn K C f = some none := by
 unfold takerIn
 rw [show findIn K (.ref C) f = some none from n]
 rfl
structure Con (K : Frag) (C : Addr) (f : Str) (v : V) (u : Value) : Prop where
 at_ : findIn K (.ref C) f = some (some u)
 rel : RelV v u
 get : specialIn K u "__get__" = some none
 cp : PySem.W.copiedNames.contains f = false
structure Meth (K : Frag) (C : Addr) (m : Str) (f : Addr) : Prop where
 at_ : findIn K (.ref C) m = some (some (.ref f))
 fn : isFn K (.ref f) = true
 kp : keepIn K (.ref f) = true
section
variable {X : Cx} {zd : List (Addr × Obj)} {σ : St} {H : Hp} {s : Shared} {a C dx : Addr} {fs : List (Str × V)} {f : Str} {v : V} {A : Around} {E : Value → Shared → Prop}
theorem bp_6 {b : Bool} {Q : Value → Shared → Prop} (I : Inv X zd σ H s) (e : H a = some (.ins C dx fs)) (c : Cls X.K C) (n : NoAttr X.K C f) (l : fs.lookup f = some v)
  (h : ∀ u s', Inv X zd σ H s' → RelV v u → Q u s') : wpAny (model X.prog X.w) A (getAttr (.ref a) f b) Q E s := by
 obtain ⟨mA, O, r, _, _, _⟩ := az_9 I.hok e
 obtain ⟨u, hu, ru⟩ := RelO.some_of (v := v) (o := mA f) (by rw [← l]; exact r f)
 exact cs_4 I.kIn O (c.get f) c.hd n hu (cb_7 ru) (h u _ (I.tok _) ru)
theorem an_7 {m : Str} {g : Addr} {pl : Sem Bool} {Q : Value × List Value → Shared → Prop} (I : Inv X zd σ H s) (e : H a = some (.ins C dx fs)) (c : Cls X.K C) (k : Meth X.K C m g) (l : fs.lookup m = none)
  (h : Q (.ref g, [.ref a]) s) : wpAny (model X.prog X.w) A (getMethod (.ref a) m pl) Q E s := by
 obtain ⟨mA, O, r, _, _, _⟩ := az_9 I.hok e
 have hn : mA m = none := RelO.none_of (by rw [← l]; exact r m)
 exact ch_6 I.kIn O (c.get m) k.at_ k.fn hn h
theorem bp_7 {y : V} {u : Value} {Q : Unit → Shared → Prop} (I : Inv X zd σ H s) (e : H a = some (.ins C dx fs)) (c : Cls X.K C) (n : NoAttr X.K C f) (hl : fs.length < 1000) (ry : RelV y u)
  (h : ∀ s', Inv X zd σ (upd H a (.ins C dx (v_2 f y fs))) s' → Q () s') : wpAny (model X.prog X.w) A (setAttr (.ref a) f u) Q E s := by
 obtain ⟨mA, O, r, wi, _, ho⟩ := az_9 I.hok e
 have hz : (fs.map (·.1)).length ≤ sizeLine := by rw [List.length_map, sizeLine_eq]; omega
 refine cs_5 I.kIn O c.sa c.po n.taker c.hd wi hz fun h' O' sb => h _ ?_
 have hd : ∃ o, h'.get? dx = some o := let ⟨o, _, _, e', _⟩ := O'.ns; ⟨o, e'⟩
 refine I.write (x := a) (e := dx) (by rw [e]; exact True.intro) (.inr ho) (fun b q hb z => (sb.2 b hb).trans z) hd ?_
 refine ⟨by rw [a_8 O.ne]; exact ho, ?_, O.ne, O'.obj, _, O'.ns, fun g => ?_, fun g hg => ?_⟩
 ·have := ai_4 f y fs; omega
 ·show RelO ((v_2 f y fs).lookup g) (if g = f then some u else mA g)
  rw [ai_3]
  by_cases q : g = f
  ·rw [if_pos q, if_pos q]; exact ry
  ·rw [if_neg q, if_neg q]; exact r g
 ·by_cases q : g = f
  ·rw [q]; exact (af_6 f y fs).1
  ·refine (af_6 f y fs).2 g (wi g fun z => hg ?_)
   show (if g = f then some u else mA g) = none
   rw [if_neg q]; exact z
theorem Inv.made (I : Inv X zd σ H s) : Inv X zd σ (upd (upd H s.heap.objs.size (.own (s.heap.objs.size + 1))) (s.heap.objs.size + 1) (.ins C s.heap.objs.size []))
  { s with heap := (s.heap.push emptyDict).push (instObj C s.heap.objs.size) } := by
 have e1 : (s.heap.push emptyDict).get? s.heap.objs.size = some emptyDict := Heap.get?_push_size s.heap rfl
 have e2 : ((s.heap.push emptyDict).push (instObj C s.heap.objs.size)).get? (s.heap.objs.size + 1) = some (instObj C s.heap.objs.size) := by
  have := Heap.get?_push_size (s.heap.push emptyDict) (o := instObj C s.heap.objs.size) rfl
  rwa [Heap.size_push] at this
 have e3 : (s.heap.push emptyDict).Ns s.heap.objs.size (fun _ => none) := ⟨emptyDict, #[], _, e1, rfl, (fun e he => absurd he (by simp)), fun _ => rfl⟩
 have I1 := I.laid (a := s.heap.objs.size) (o := .own (s.heap.objs.size + 1)) (h' := s.heap.push emptyDict) (t' := s.toks) (fun b u q => Heap.get?_push_of_some _ q) (Nat.le_refl _) ⟨_, e1⟩
 refine I1.laid (a := s.heap.objs.size + 1) (o := .ins C s.heap.objs.size []) (t' := s.toks) (fun b u q => Heap.get?_push_of_some _ q) (Nat.le_of_eq (Heap.size_push _ _)) ?_
 have ne : s.heap.objs.size ≠ s.heap.objs.size + 1 := Nat.ne_of_lt (Nat.lt_succ_self _)
 refine ⟨by rw [a_8 ne, b_1], Nat.zero_le _, ne, e2, fun _ => none, (Heap.Ns1.of_empty e3).at fun o q => Heap.get?_push_of_some _ q, fun _ => True.intro, fun y hy => absurd rfl hy⟩
theorem cs_6 {prog : Program} {w : World} {env : Env} {e : Expr} {f : Str} {pos : Pos} {s : Shared} {Q : Value → Shared → Prop} (hb : attributeBase e f env (eval e env) = eval e env)
  (h : wpAny (model prog w) A (eval e env) (fun o s₁ => wpAny (model prog w) A (getAttr o f true) Q E s₁) E s) : wpAny (model prog w) A (eval (.Attribute e f pos) env) Q E s :=
 Attribute_any_ h (by rw [arm_eval_Attribute, hb])
end
def tFld (K : Frag) (ta : TE) (f : Str) : TE := fun σ H Q => ta σ H fun x H1 => ∃ a C dx fs v, x = .ref a ∧ H1 a = some (.ins C dx fs) ∧ Cls K C ∧ NoAttr K C f ∧ fs.lookup f = some v ∧ Q v H1
def sFld (K : Frag) (ta tv : TE) (f : Str) : TS := fun D σ H => tv σ H fun y H1 => ta σ H1 fun x H2 => ∃ a C dx fs, x = .ref a ∧ H2 a = some (.ins C dx fs) ∧ Cls K C ∧ NoAttr K C f ∧ fs.length < 1000 ∧
 D.nx σ (upd H2 a (.ins C dx (v_2 f y fs)))
section
variable {X : Cx} {o e value : Expr} {f : Str} {pos pos' zj : Pos} {ta tv : TE}
theorem dd_0 (he : PE X e ta) (hb : attributeBase e f X.env (eval e X.env) = eval e X.env) : PE X (.Attribute e f pos) (tFld X.K ta f) := by
 intro zd s σ H Q I h
 refine cs_6 hb (thn (he zd s σ H _ I h) fun u s1 ⟨x, H1, I1, rx, a, C, dx, fs, v, ex, ea, c, n, l, q⟩ => ?_)
 subst ex
 obtain rfl : u = Value.ref a := rx
 exact bp_6 I1 ea c n l fun u' s2 I2 ru => ⟨v, H1, I2, ru, q⟩
theorem dd_1 (ha : PE X o ta) (hv : PE X value tv) (hs : swapsWith value (some (.Attribute o f pos')) pos.line X.env = pure false) : PS X (.Assign [.Attribute o f pos'] value pos) (sFld X.K ta tv f) := by
 intro zd s σ H D I h
 refine plainObj_wpAny_Assign_Attribute (thn (hv zd s σ H _ I h) fun u s1 ⟨y, H1, I1, ry, q⟩ => thn (ha zd s1 σ H1 _ I1 q) fun ov s2 ⟨x, H2, I2, rx, a, C, dx, fs, ex, ea, c, n, l, q2⟩ => ?_) hs
 subst ex
 obtain rfl : ov = Value.ref a := rx
 exact bp_7 I2 ea c n l ry fun s3 I3 => ⟨σ, _, I3, q2⟩
end
section
variable {X : Cx} {zd : List (Addr × Obj)} {σ : St} {H : Hp} {s : Shared} {A : Around} {E : Value → Shared → Prop} {Q : Value → Shared → Prop} {c : Value} {b : Bool}
inductive TyOf (K : Frag) (H : Hp) : V → Value → Prop where
 | non : TyOf K H .non (.type "NoneType")
 | bl (x : Bool) : TyOf K H (.bl x) (.type "bool")
 | int (i : Int) : TyOf K H (.int i) (.type "int")
 | str (x : Str) : TyOf K H (.str x) (.type "str")
 | flt (x : UInt64) : TyOf K H (.flt x) (.type "float")
 | lst {a : Addr} {xs : List V} (e : H a = some (.lst xs)) : TyOf K H (.ref a) (.type "list")
 | frz {a : Addr} {o : Obj} {xs : List V} (e : H a = some (.frz o (.lst xs))) : TyOf K H (.ref a) (.type "list")
 | tup {a : Addr} {xs : List V} (e : H a = some (.tup xs)) : TyOf K H (.ref a) (.type "tuple")
 | dK {a : Addr} {kvs : List (Key × V)} (e : H a = some (.dK kvs)) : TyOf K H (.ref a) (.type "dict")
 | dT {a : Addr} {kvs : List (List Key × V)} (e : H a = some (.dT kvs)) : TyOf K H (.ref a) (.type "dict")
 | ins {a C dx : Addr} {fs : List (Str × V)} (e : H a = some (.ins C dx fs)) (cl : Cls K C) (ha : findIn K (.ref C) "__class__" = some (some (.builtin "object.__class__")))
   (hn : specialIn K (.builtin "object.__class__") "__get__" = some (some (.builtin "getset_descriptor.__get__"))) (htk : takesIn K (.builtin "object.__class__") = some true)
   (hm : mroIn K C (.type "object") = some true) : TyOf K H (.ref a) (.ref C)
end
structure Room (k : Nat) (A : Around) : Prop where
 hd : A.handled = none
 dp : A.depth + 3 * k + 5 < recursionLimit
 un : A.units + 16 * k + 200 < cLine
theorem Room.in1 {k : Nat} {A : Around} (r : Room (k + 1) A) : Room k A.in1 :=
 ⟨r.hd, by have := r.dp; show A.depth + 3 * k + 5 < _; omega, by have := r.un; show A.units + 1 + 16 * k + 200 < _; omega⟩
theorem bp_8 {A : Around} {C : Addr} {us : List Value} {kw : List (Str × Value)} : (A.under (.builtin "type.__call__" ⟨.ref C :: us, kw⟩)).depth = A.depth + 1 := by
 first | rfl | simp [Around.under, Code.weight, Code.isCreation, Code.isGuard, Code.isCaller, Code.frames, Code.isFrame, guardIds]
theorem bp_9 {A : Around} {C : Addr} {us : List Value} {kw : List (Str × Value)} : (A.under (.builtin "type.__call__" ⟨.ref C :: us, kw⟩)).units = A.units + 1 := by
 first | rfl | simp [Around.under, Code.cUnits, Code.frames, Code.isFrame]
theorem Room.depth {k : Nat} {A : Around} (r : Room k A) : A.depth < recursionLimit := by have := r.dp; omega
def tNil : TA := fun _ H Q => Q [] H
def dj_3 (ta : TE) (tr : TA) : TA := fun σ H Q => ta σ H fun x H1 => tr σ H1 fun xs H2 => Q (x :: xs) H2
section
variable {X : Cx} {e : Expr} {es : List Expr} {te : TE} {t : TA} {pos : Pos}
theorem n_9 : PA X [] tNil := fun _ _ _ _ H Q I h => Calls.spliced_nil ⟨[], H, I, .nil, h⟩
theorem e_4 (ha : PE X e te) (hr : PA X es t) (hs : starEach (e :: es) X.env = (false, eval e X.env) :: starEach es X.env := by rfl) : PA X (e :: es) (dj_3 te t) := by
 intro pos zd s σ H Q I h
 rw [hs]
 show wpAny _ _ (spliced ((false, eval e X.env) :: backTo pos (starEach es X.env))) _ _ s
 refine Calls.spliced_cons (thn (ha zd s σ H _ I h) fun u s1 ⟨x, H1, I1, r1, q1⟩ => ?_)
 exact thn (hr pos zd s1 σ H1 _ I1 q1) fun us s2 ⟨xs, H2, I2, r2, q2⟩ => ⟨x :: xs, H2, I2, .cons r1 r2, q2⟩
def tTup (t : TA) : TE := fun σ H Q => t σ H fun xs H1 => xs.length ≤ sizeLine ∧ ∀ p, H1 p = none → Q (.ref p) (upd H1 p (.tup xs))
def tLst (t : TA) : TE := fun σ H Q => t σ H fun xs H1 => xs.length ≤ sizeLine ∧ ∀ p, H1 p = none → Q (.ref p) (upd H1 p (.lst xs))
theorem bq_0 {x1} (h : PA X es t) : PE X (.Tuple es x1 pos) (tTup t) := by
 intro zd s σ H Q I hq
 refine wpAny_Tuple_spliced (thn (h pos zd s σ H _ I hq) fun us s1 ⟨xs, H1, I1, r, z, q⟩ => ⟨by rw [← r.length]; exact z, ?_⟩)
 have hf : H1 s1.heap.objs.size = none := I1.hok.fresh (Nat.le_refl _)
 refine ⟨.ref s1.heap.objs.size, upd H1 s1.heap.objs.size (.tup xs), I1.laid (t' := s1.toks) (fun b u e => Heap.get?_push_of_some _ e) (Nat.le_refl _) ?_, rfl, q _ hf⟩
 exact ⟨z, us, r, ⟨_, Heap.get?_push_size _ rfl, rfl, _, rfl⟩⟩
theorem ch_8 (h : PA X es t) : PE X (.List es pos) (tLst t) := by
 intro zd s σ H Q I hq
 refine wpAny_List_spliced (thn (h pos zd s σ H _ I hq) fun us s1 ⟨xs, H1, I1, r, z, q⟩ => ⟨by rw [← r.length]; exact z, ?_⟩)
 have hf : H1 s1.heap.objs.size = none := I1.hok.fresh (Nat.le_refl _)
 refine ⟨.ref s1.heap.objs.size, upd H1 s1.heap.objs.size (.lst xs), I1.laid (t' := s1.toks) (fun b u e => Heap.get?_push_of_some _ e) (Nat.le_refl _) ?_, rfl, q _ hf⟩
 exact ⟨z, us, 0, r, Heap.get?_push_size _ rfl⟩
end
abbrev Sp := List V → Hp → VK → XK → Prop
abbrev CXT := List Env → Hp → Shared → XK → Value → Shared → Prop
structure Env0 (P : Program) (w : World) (K : Frag) (mg : Str → Option Value) (base : Heap) (A : Around) (outer : List Env) (s : Shared) (H : Hp) : Prop where
 frames : A.frames = some outer
 mod : Mod K mg base
 bs : ∀ b o, base.get? b = some o → s.heap.get? b = some o ∧ H b = none
 bsz : base.objs.size ≤ s.heap.objs.size
 funs : s.heap.FunFrames base outer
 frf : ∀ b ∈ frs outer, H b = none
 hok : HOk P w H s.heap
 bare : AllBare s.gens
def CE (outer : List Env) (P : Program) (w : World) (H : Hp) (s : Shared) (Q : VK) (u : Value) (s' : Shared) : Prop :=
 ∃ v H', s'.os = s.os ∧ AllBare s'.gens ∧ Un (frs outer) [] H H' s.heap s'.heap ∧ HOk P w H' s'.heap ∧ RelV v u ∧ Q v H'
def CR (CX : CXT) (outer : List Env) (P : Program) (w : World) (H : Hp) (s : Shared) (Q : VK) (E : XK) (r : Result) (s' : Shared) : Prop :=
 match r with
 | .ok (.ret u) => CE outer P w H s Q u s'
 | .ok _ => False
 | .error e => CX outer H s E e s'
structure FnOk (P : Program) (w : World) (K : Frag) (mg : Str → Option Value) (base : Heap) (CX : CXT) (k : Nat) (f : Addr) (fd : FuncData) (ps : List Str) (sp : Sp) : Prop where
 len : ∀ vs H Q E, sp vs H Q E → vs.length = ps.length
 run : ∀ (A : Around) (outer : List Env) (s : Shared) (H : Hp) (args : Args) (us : List Value) (vs : List V) (Q : VK) (E : XK), Room k A → Env0 P w K mg base A outer s H → BindsTo s fd args (ps.zip us) → Vals vs us → sp vs H Q E →
  codeAny (model P w) A (.call (.ref f) args) (CR CX outer P w H s Q E) s
theorem Env0.make {P : Program} {w : World} {K : Frag} {mg : Str → Option Value} {base : Heap} {A : Around} {outer : List Env} {s : Shared} {H : Hp} (e : Env0 P w K mg base A outer s H) (C : Addr) (us : List Value) (kw : List (Str × Value)) :
  Env0 P w K mg base (A.under (.builtin "type.__call__" ⟨.ref C :: us, kw⟩)) outer s H := ⟨by first | exact e.frames | (simpa [Around.under, Code.envs, Code.isFrame, pushEnvs] using e.frames), e.mod, e.bs, e.bsz, e.funs, e.frf, e.hok, e.bare⟩
theorem Env0.in1 {P : Program} {w : World} {K : Frag} {mg : Str → Option Value} {base : Heap} {A : Around} {outer : List Env} {s : Shared} {H : Hp} (e : Env0 P w K mg base A outer s H) :
  Env0 P w K mg base A.in1 outer s H := ⟨e.frames, e.mod, e.bs, e.bsz, e.funs, e.frf, e.hok, e.bare⟩
section
variable {X : Cx} {zd : List (Addr × Obj)} {σ : St} {H : Hp} {s s' : Shared}
theorem Inv.env0 (I : Inv X zd σ H s) : Env0 X.prog X.w X.K X.mg X.base X.A X.stack s H :=
 ⟨I.ok.frames, I.ok.mod, I.bs, Nat.le_trans I.ok.bsz I.sz, I.stack, I.stkFree, I.hok, I.bare⟩
theorem Inv.after {Q : VK} {u : Value} (I : Inv X zd σ H s) (h : CE X.stack X.prog X.w H s Q u s') : EP X zd σ Q u s' := by
 obtain ⟨v, H', os, bare, un, hok, r, q⟩ := h
 obtain ⟨hh, g, d, t, os'⟩ := s'
 obtain rfl : os' = s.os := os
 exact ⟨v, H', I.call (h' := hh) (g' := g) (d' := d) (t' := t) (ch := []) un hok bare (fun b z => absurd z (by simp)), r, q⟩
end
def Binds (K : Frag) (fd : FuncData) (ps : List Str) (ds : List Value) : Prop :=
 ∀ (s : Shared) (us : List Value), K.In s.heap → (us ++ ds).length = ps.length → BindsTo s fd ⟨us, []⟩ (ps.zip (us ++ ds))
theorem Binds.all {K : Frag} {fd : FuncData} {ps : List Str} (h : ∀ us : List Value, us.length = ps.length → bindArgs fd ⟨us, []⟩ = pure (ps.zip us)) : Binds K fd ps [] := fun s us _ hl => by
 rw [List.append_nil] at hl ⊢
 exact .of_eq (h us hl)
section
variable {X : Cx} {CX : CXT} {k : Nat} {f C : Addr} {fd : FuncData} {ps : List Str} {sp : Sp} {dvs : List V} {ds : List Value} {E : XK} {x m : Str} {p pos zh : Pos} {e o : Expr} {es : List Expr} {ta : TE} {t : TA}
structure Mk (K : Frag) (C f : Addr) : Prop where
 makes : makesIn K C = true
 init : findIn K (.ref C) "__init__" = some (some (.ref f))
 fn : isFn K (.ref f) = true
 kp : keepIn K (.ref C) = true
end
section
variable {X : Cx} {CX : CXT} {k : Nat} {f C : Addr} {fd : FuncData} {ps ks : List Str} {sp : Sp} {E : XK} {x m : Str} {p pos zh gr : Pos} {e o : Expr} {es : List Expr} {kws : List Keyword} {te ta : TE} {t tk : TA} {nm : Option Str}
structure KBinds (K : Frag) (fd : FuncData) (ps ks : List Str) (g : List Value → List Value → List Value) (gV : List V → List V → List V) : Prop where
 to : ∀ (s : Shared) (us ws : List Value), K.In s.heap → (g us ws).length = ps.length → BindsTo s fd ⟨us, ks.zip ws⟩ (ps.zip (g us ws))
 rel : ∀ {vs : List V} {us : List Value} {zs : List V} {ws : List Value}, Vals vs us → Vals zs ws → Vals (gV vs zs) (g us ws)
variable {g : List Value → List Value → List Value} {gV : List V → List V → List V}
end
structure FnScope (N P : List Str) (sc : Scope) : Prop where
 kind : sc.kind = .function
 co : sc.isCoroutine = false
 gen : sc.isGenerator = false
 nd : N.Nodup
 pre : N.take P.length = P
 par : ∀ x ∈ P, sc.names.lookup x = some .local ∨ sc.names.lookup x = some .cell
 nofree : ∀ y ∈ sc.names, y.2 ≠ .free
theorem au_9 {kindOf : Str → Option NameKind} {x : Str} : ∀ {binds : List (Str × Value)} {m : Str → Option Value}, (∀ v, (x, v) ∉ binds) → bindL kindOf binds m x = m x
 | [], _, _ => rfl
 | (n, v) :: r, m, h => by
  unfold bindL
  rw [au_9 fun w hw => h w (List.mem_cons_of_mem _ hw)]
  split
  ·have : x ≠ n := by rintro rfl; exact h v List.mem_cons_self
   simp [this]
  ·rfl
theorem av_0 {kindOf : Str → Option NameKind} {x : Str} : ∀ {binds : List (Str × Value)} {m : Str → Option Value}, (∀ v, (x, v) ∉ binds) → bindC kindOf binds m x = m x
 | [], _, _ => rfl
 | (n, v) :: r, m, h => by
  unfold bindC
  rw [av_0 fun w hw => h w (List.mem_cons_of_mem _ hw)]
  split
  ·rfl
  ·have : x ≠ n := by rintro rfl; exact h v List.mem_cons_self
   simp [this]
theorem av_1 {kindOf : Str → Option NameKind} {x : Str} {v : Value} : ∀ {P : List Str} {vs : List Value} {i : Nat} {m : Str → Option Value}, P.Nodup → P[i]? = some x → vs[i]? = some v → kindOf x = some .local →
  bindL kindOf (P.zip vs) m x = some v
 | [], _, _, _, _, h, _, _ => by simp at h
 | _ :: _, [], _, _, _, _, h, _ => by simp at h
 | p :: P, w :: vs, 0, m, nd, h1, h2, hk => by
  simp at h1 h2; subst h1; subst h2
  show bindL kindOf ((p, w) :: P.zip vs) m p = _
  unfold bindL
  rw [au_9 fun v hv => (List.nodup_cons.mp nd).1 (List.of_mem_zip hv).1, if_pos hk]
  simp
 | p :: P, w :: vs, i + 1, m, nd, h1, h2, hk => by
  show bindL kindOf ((p, w) :: P.zip vs) m x = _
  unfold bindL
  exact av_1 (i := i) (List.nodup_cons.mp nd).2 (by simpa using h1) (by simpa using h2) hk
theorem av_2 {kindOf : Str → Option NameKind} {x : Str} {v : Value} : ∀ {P : List Str} {vs : List Value} {i : Nat} {m : Str → Option Value}, P.Nodup → P[i]? = some x → vs[i]? = some v → kindOf x ≠ some .local →
  bindC kindOf (P.zip vs) m x = some v
 | [], _, _, _, _, h, _, _ => by simp at h
 | _ :: _, [], _, _, _, _, h, _ => by simp at h
 | p :: P, w :: vs, 0, m, nd, h1, h2, hk => by
  simp at h1 h2; subst h1; subst h2
  show bindC kindOf ((p, w) :: P.zip vs) m p = _
  unfold bindC
  rw [av_0 fun v hv => (List.nodup_cons.mp nd).1 (List.of_mem_zip hv).1, if_neg hk]
  simp
 | p :: P, w :: vs, i + 1, m, nd, h1, h2, hk => by
  show bindC kindOf ((p, w) :: P.zip vs) m x = _
  unfold bindC
  exact av_2 (i := i) (List.nodup_cons.mp nd).2 (by simpa using h1) (by simpa using h2) hk
def l_0 (N : List Str) (vs : List V) : St := vs.map some ++ List.replicate (N.length - vs.length) none
def cxOf (CX : CXT) (P : Program) (w : World) (K : Frag) (mg : Str → Option Value) (base : Heap) (N : List Str) (qual : Str) (scope : Scope) (f : Addr) (cd : Value) (A : Around) (outer : List Env) (s : Shared) (H : Hp) (E : XK) : Cx where
 prog := P
 w := w
 K := K
 mg := mg
 base := base
 A := A.deeper (envOfC qual scope s.heap.objs.size f cd)
 N := N
 s₀ := s
 H₀ := H
 env := envOfC qual scope s.heap.objs.size f cd
 outer := outer
 stack := envOfC qual scope s.heap.objs.size f cd :: outer
 ex := []
 calm := true
 fn := fun _ => true
 pn := []
 xe := fun e s' => wpAny (model P w) (A.deeper (envOfC qual scope s.heap.objs.size f cd)) (leaving (envOfC qual scope s.heap.objs.size f cd) e) (fun _ s'' => CX outer H s E e s'') (fun e' s'' => CX outer H s E e' s'') s'
theorem bh_0 {sc : Scope} {n : Nat} {x : Str} (h : sc.names.lookup x = some .cell) : ∃ c, (cellsFrom n sc.names []).lookup x = some c := by
 have q := cellsFrom_some sc.names n [] (.inl h)
 exact Option.isSome_iff_exists.mp q
theorem cb_8 {CX : CXT} {P : Program} {w : World} {K : Frag} {mg : Str → Option Value} {base : Heap} {N ps : List Str} {qual : Str} {scope : Scope} {f : Addr} {cd : Value} {A : Around} {outer : List Env} {s s1 : Shared} {H : Hp} {E : XK} {us : List Value} {vs : List V}
  (S : FnScope N ps scope) (hd : A.handled = none) (e0 : Env0 P w K mg base A outer s H) (hl : vs.length = ps.length) (r : Vals vs us)
  (x : InCallC s s.heap.objs.size (bindL (envOfC qual scope s.heap.objs.size f cd).kindOf (ps.zip us) fun _ => none) (cellsFrom (s.heap.objs.size + 1) scope.names []) (bindC (envOfC qual scope s.heap.objs.size f cd).kindOf (ps.zip us) fun _ => none) s1) :
  Inv (cxOf CX P w K mg base N qual scope f cd A outer s H E) [] (l_0 N vs) H s1 := by
 have hpl : ps.length ≤ N.length := by have := congrArg List.length S.pre; rw [List.length_take] at this; omega
 obtain ⟨h1, tk, rfl, hk⟩ := x.done
 have noA : ∀ b : Addr, b ∉ (cxOf CX P w K mg base N qual scope f cd A outer s H E).ex := fun b z => absurd (show b ∈ ([] : List Addr) from z) (by simp)
 refine ⟨⟨e0.mod, S.kind, rfl, rfl, Nat.le_refl _, fun y z c h1 h2 => ?_, fun y hy => ?_, fun y c _ h => ?_, fun _ => hd, Around.frames_deeper e0.frames, .inr ⟨rfl, rfl⟩, fun b z => absurd z (noA b), e0.bs, e0.bsz, fun b _ _ => noA b, fun b z => absurd z (noA b), e0.funs, e0.frf⟩,
  rfl, e0.bare, Un.kept hk, ⟨_, x.toInCall.ns, fun i y v h1 h2 h3 => ?_⟩, fun y c h => ⟨_, x.cell y c h⟩, e0.hok.fresh (Nat.le_refl _), fun y c h => ?_, fun p hp => absurd (show p ∈ ([] : List (Addr × Obj)) from hp) (by simp), e0.hok.kept hk, ?_⟩
 ·exact name_of_addr x.apart (PySem.mem_of_lookup h1) (PySem.mem_of_lookup h2)
 ·have hy : scope.names.lookup y = some .cell ∨ scope.names.lookup y = some .free := hy
  rcases hy with hy | hy
  ·exact bh_0 hy
  ·exact absurd rfl (S.nofree _ (PySem.mem_of_lookup hy))
 ·exact Nat.le_of_lt (x.above y c (PySem.mem_of_lookup h))
 ·have hi : i < vs.length := by
   unfold l_0 at h2
   by_cases hi : i < vs.length
   ·exact hi
   ·rw [List.getElem?_append_right (by simpa using hi)] at h2
    rw [List.getElem?_replicate] at h2
    split at h2 <;> cases h2
  have ha : vs[i]? = some v := by
   unfold l_0 at h2
   rw [List.getElem?_append_left (by simpa using hi), List.getElem?_map] at h2
   cases e : vs[i]? with
   | none => rw [e] at h2; cases h2
   | some a => rw [e] at h2; cases h2; rfl
  obtain ⟨u, hu, rv⟩ := r.get ha
  have hp : ps[i]? = some y := by
   rw [← S.pre, List.getElem?_take_of_lt (by omega)]; exact h1
  have ndP : ps.Nodup := by rw [← S.pre]; exact S.nd.sublist (List.take_sublist _ _)
  refine ⟨u, rv, ?_⟩
  rcases S.par y (List.mem_of_getElem? hp) with k | k
  ·exact .inl ⟨k, av_1 ndP hp hu k⟩
  ·obtain ⟨c, e⟩ := bh_0 (n := s.heap.objs.size + 1) k
   refine .inr ⟨.inl k, c, e, ?_⟩
   have q := x.cell y c e
   rw [av_2 ndP hp hu (by show scope.names.lookup y ≠ _; rw [k]; decide)] at q
   exact q
 ·exact e0.hok.fresh (Nat.le_of_lt (x.above y c (PySem.mem_of_lookup h)))
 ·unfold l_0
  show _ = N.length
  rw [List.length_append, List.length_map, List.length_replicate]
  omega
section
variable {X : Cx} {x : Str} {p pos : Pos} {e : Expr} {es : List Expr} {t : TA} {id T : String} {r : List V → Hp → VK → Prop}
def tCB (r : List V → Hp → VK → Prop) (t : TA) : TE := fun σ H Q => t σ H fun vs H1 => r vs H1 Q
theorem w_5 (hc : t_7 X (.builtin id) r) (hg : Gl X x) (hm : X.mg x = none) (hv : bootBuiltins x = some (.builtin id)) (ha : PA X (e :: es) t) (hn : x ≠ "__name__" := by decide) (hdb : (x == ("__debug__" : Str)) = false := by decide)
  (he : starEach (e :: es) X.env = (false, eval e X.env) :: starEach es X.env := by rfl) (hpl : (backTo pos (starEach es X.env)).any (·.1) = false := by rfl) : PE X (.Call (.Name x p) (e :: es) [] pos) (tCB r t) := by
 intro zd s σ H Q I h
 refine wpAny_Call_Name_kw (ab_4 I hg hm hv ?_ hn hdb)
 exact PyProof.Rows.callWith_builtin1 (thn (ha pos zd s σ H _ I h) fun us s1 ⟨vs, H1, I1, r1, q1⟩ => hc zd s1 σ H1 vs us Q I1 r1 q1) he hpl
theorem cb_9 (hc : t_7 X (.type T) r) (hg : Gl X x) (hm : X.mg x = none) (hv : bootBuiltins x = some (.type T)) (ha : PA X (e :: es) t) (hn : x ≠ "__name__" := by decide) (hdb : (x == ("__debug__" : Str)) = false := by decide)
  (he : starEach (e :: es) X.env = (false, eval e X.env) :: starEach es X.env := by rfl) (hpl : (backTo pos (starEach es X.env)).any (·.1) = false := by rfl) : PE X (.Call (.Name x p) (e :: es) [] pos) (tCB r t) := by
 intro zd s σ H Q I h
 refine wpAny_Call_Name_kw (ab_4 I hg hm hv ?_ hn hdb)
 exact PyProof.Rows.callWith_type1 (thn (ha pos zd s σ H _ I h) fun us s1 ⟨vs, H1, I1, r1, q1⟩ => hc zd s1 σ H1 vs us Q I1 r1 q1) he hpl
end
end L2
namespace HT
open PySem PyProof.Rows
section
open PySem.SeqAt
open PySem.AutoSeq1 (wpAny_loadPart')
open PySem.MeetsSeq PySem.MeetsSeq2 PySem.MeetsSeq3
end
section
variable {prog : Program} {w : World} {A : Around} {E : Value → Shared → Prop} {s : Shared}
def sIx (n d : Nat) : Option Int → Nat
 | none => d
 | some v => if v < 0 then (v + (n : Int)).toNat else min v.toNat n
end
end HT
namespace L2
open PySem PySem.Spec PyProof.Rows
abbrev TO := St → Hp → (Option Int → Hp → Prop) → Prop
section
variable {X : Cx} {e : Expr} {te : TE} {lo hi : Option Expr} {tl th : TO} {pos p2 : Pos}
end
def ixN (n : Nat) (i : Int) : Option Nat := if 0 ≤ i then (if i < n then some i.toNat else none) else if -(n : Int) ≤ i then some (i + n).toNat else none
def atI {α : Type} (xs : List α) (i : Int) : Option α := (ixN xs.length i).bind fun j => xs[j]?
theorem bv_5 {n : Nat} {i : Int} {j : Nat} (h : ixN n i = some j) : seqIndex? i n = some j ∧ j < n ∧ -(n : Int) ≤ i ∧ i < n := by
 unfold ixN at h
 by_cases h0 : 0 ≤ i
 ·rw [if_pos h0] at h
  by_cases h1 : i < n
  ·rw [if_pos h1] at h
   have e : i.toNat = j := Option.some.inj h
   exact ⟨by rw [seqIndex_of h0 h1, e], by omega, by omega, h1⟩
  ·rw [if_neg h1] at h; cases h
 ·rw [if_neg h0] at h
  by_cases h1 : -(n : Int) ≤ i
  ·rw [if_pos h1] at h
   have e : (i + n).toNat = j := Option.some.inj h
   exact ⟨by rw [seqIndex_neg (by omega) h1, e], by omega, h1, by omega⟩
  ·rw [if_neg h1] at h; cases h
theorem ba_0 {α : Type} {xs : List α} {i : Int} {v : α} (h : atI xs i = some v) : ∃ j, seqIndex? i xs.length = some j ∧ xs[j]? = some v ∧ j < xs.length ∧ -(xs.length : Int) ≤ i ∧ i < xs.length := by
 unfold atI at h
 cases e : ixN xs.length i with
 | none => rw [e] at h; cases h
 | some j =>
  rw [e] at h
  obtain ⟨h1, h2, h3, h4⟩ := bv_5 e
  exact ⟨j, h1, h, h2, h3, h4⟩
def bv_6 (b : Expr) : Prop := ∀ o i, subscripted b false o i = operate [o, i] (getItem o i)
def IxR (X : Cx) (r : R2) : Prop :=
 ∀ (value slice : Expr) (zd : List (Addr × Obj)) (s : Shared) (σ : St) (H : Hp) (x y : V) (v u : Value) (Q : VK), Inv X zd σ H s → RelV x v → RelV y u → r x y H Q →
  subscripted slice false v u = operate [v, u] (getItem v u) → wpAny (model X.prog X.w) X.A (subscriptTail value slice v u) (EP X zd σ Q) X.xe s
def MtR (X : Cx) (id : String) (r : V → List V → Hp → VK → Prop) : Prop :=
 ∀ (zd : List (Addr × Obj)) (s : Shared) (σ : St) (H : Hp) (x : V) (xs : List V) (v : Value) (us : List Value) (Q : VK), Inv X zd σ H s → RelV x v → Vals xs us → r x xs H Q →
  wpAny (model X.prog X.w) X.A (call (.builtin id) (v :: us)) (EP X zd σ Q) X.xe s
section
variable {X : Cx} {a b : Expr} {ta tb : TE} {pos : Pos}
theorem dj_4 {r : R2} (hr : IxR X r) (ha : PE X a ta) (hb : PE X b tb) (hs : bv_6 b) : PE X (.Subscript a b pos) (tOp r ta tb) := by
 intro zd s σ H Q I h
 exact Subscript_ (binT ha hb I h fun v u s2 x y H2 I2 rx ry q => hr a b zd s2 σ H2 x y v u Q I2 rx ry q (hs _ _))
def rIxL (K : Frag) : R2 := fun x y H Q => ∃ p xs i v, x = .ref p ∧ y = .int i ∧ SqL K H p xs ∧ atI xs i = some v ∧ Q v H
def rIxT (K : Frag) : R2 := fun x y H Q => ∃ p xs i v, x = .ref p ∧ y = .int i ∧ SqT K H p xs ∧ atI xs i = some v ∧ Q v H
def rIxS : R2 := fun x y H Q => ∃ z i c, x = .str z ∧ y = .int i ∧ z.length ≤ sizeLine ∧ atI z.cps.toList i = some c ∧ Q (.str ⟨#[c]⟩) H
theorem cs_7 : IxR X (rIxL X.K) := by
 intro value slice zd s σ H x y v u Q I rx ry h hs
 obtain ⟨p, xs, i, z, rfl, rfl, hq, he, q⟩ := h
 cases rx
 obtain ⟨t, rfl⟩ := ry
 obtain ⟨its, r, pl, hz⟩ := I.list hq
 obtain ⟨j, h1, h2, h3, h4, h5⟩ := ba_0 he
 obtain ⟨w, ew, rw'⟩ := r.get h2
 have hl := r.length
 have hn := ab_5
 have fin : EP X zd σ Q w s := ⟨z, H, I, rw', q⟩
 by_cases h0 : 0 ≤ i
 ·have hj : i.toNat = j := by
   rw [seqIndex_of h0 h5] at h1
   exact Option.some.inj h1
  exact item_listR pl.isList h0 (by omega) (by rw [hj]; simpa using ew) fin hs
 ·have hj : (i + (its.toArray.size : Int)).toNat = j := by
   rw [seqIndex_neg (by omega) h4] at h1
   rw [List.size_toArray, ← hl]
   exact Option.some.inj h1
  exact subscriptTail_builtinR (x := w) pl.isList.typeIs slot_list_getitem.lookup
   (wpAny_getItem_list_neg (Q := fun r s' => r = w ∧ EP X zd σ Q r s') pl.isList (by omega) (by rw [List.size_toArray] <;> omega) (by omega) (by rw [hj]; simpa using ew) ⟨rfl, fin⟩) hs
theorem dd_2 : IxR X (rIxT X.K) := by
 intro value slice zd s σ H x y v u Q I rx ry h hs
 obtain ⟨p, xs, i, z, rfl, rfl, hq, he, q⟩ := h
 cases rx
 obtain ⟨t, rfl⟩ := ry
 obtain ⟨its, r, pl, hz⟩ := I.tuple hq
 obtain ⟨j, h1, h2, h3, h4, h5⟩ := ba_0 he
 obtain ⟨w, ew, rw'⟩ := r.get h2
 have hl := r.length
 have hn := ab_5
 have fin : EP X zd σ Q w s := ⟨z, H, I, rw', q⟩
 exact subscriptTail_builtinR (x := w) pl.typeIs slot_tuple_getitem.lookup
  (getItem_tuple (j := j) (Q := fun r s' => r = w ∧ EP X zd σ Q r s') pl (by omega) (by omega) (by rw [List.size_toArray, ← hl]; exact h1) (by simpa using ew) ⟨rfl, fin⟩) hs
theorem dd_3 : IxR X rIxS := by
 intro value slice zd s σ H x y v u Q I rx ry h hs
 obtain ⟨z, i, c, rfl, rfl, hz, he, q⟩ := h
 obtain ⟨t, rfl⟩ := rx
 obtain ⟨t', rfl⟩ := ry
 obtain ⟨j, h1, h2, h3, h4, h5⟩ := ba_0 he
 have hl : z.cps.toList.length = z.length := by simp [Str.length]
 rw [hl] at h1 h4 h5
 have hn := ab_5
 exact tail_any (typeIs_str s z t) slot_str_getitem.lookup (getItem_str (c := c) (by
  have e1 : decide (i < -(2 ^ 63 : Int)) = false := decide_eq_false (by omega)
  have e2 : decide (i ≥ 2 ^ 63) = false := decide_eq_false (by omega)
  rw [e1, e2, Bool.or_false]) (by rw [h1]; simpa using h2) ⟨.str ⟨#[c]⟩, H, I.tok _, ⟨_, rfl⟩, q⟩) hs
theorem bq_1 (its : List Value) (n j : Nat) (u : Value) : Obj.mapSeq (·.setIfInBounds j u) { cls := .type "list", data := .seq its.toArray n } = { cls := .type "list", data := .seq (its.set j u).toArray n } := by
 simp [Obj.mapSeq]
theorem Inv.lst {zd : List (Addr × Obj)} {σ : St} {H : Hp} {s : Shared} {p : Addr} {xs : List V} (I : Inv X zd σ H s) (h : H p = some (.lst xs)) :
  ∃ (its : List Value) (n : Nat), Vals xs its ∧ s.heap.get? p = some { cls := .type "list", data := .seq its.toArray n } ∧ xs.length ≤ sizeLine := by
 obtain ⟨z, its, n, r, e⟩ := I.hok p _ h
 exact ⟨its, n, r, e, z⟩
theorem Inv.lstUpd {zd : List (Addr × Obj)} {σ : St} {H : Hp} {s : Shared} {p : Addr} {xs ys : List V} {its its' : List Value} {n n' : Nat} {f : Obj → Obj} (I : Inv X zd σ H s) (h : H p = some (.lst xs))
  (ho : s.heap.get? p = some { cls := .type "list", data := .seq its.toArray n }) (hf : f { cls := .type "list", data := .seq its.toArray n } = { cls := .type "list", data := .seq its'.toArray n' }) (r : Vals ys its') (hz : ys.length ≤ sizeLine) (t : Nat) :
  Inv X zd σ (upd H p (.lst ys)) { s with heap := s.heap.update p f, toks := t } := by
 have e : (s.heap.update p f).get? p = some { cls := .type "list", data := .seq its'.toArray n' } := by
  rw [Heap.get?_update_self f ho (by rw [hf] <;> rfl), hf]
 refine I.write (x := p) (e := p) (by rw [h]; trivial) (.inl rfl) (fun b u hb q => (Heap.get?_update_other _ _ (Ne.symm hb)).trans q) ⟨_, e⟩ ?_
 exact ⟨hz, its', n', r, e⟩
def dj_5 : V → V → V → Hp → (Hp → Prop) → Prop := fun o i v H Q => ∃ p xs k j, o = .ref p ∧ i = .int k ∧ H p = some (.lst xs) ∧ ixN xs.length k = some j ∧ Q (upd H p (.lst (xs.set j v)))
theorem ch_9 : PSet X dj_5 := by
 intro zd s σ H o i v ov iv u Q I ro ri rv h
 obtain ⟨p, xs, k, j, rfl, rfl, hp, hj, q⟩ := h
 cases ro
 obtain ⟨t, rfl⟩ := ri
 obtain ⟨its, n, r, ho, hz⟩ := I.lst hp
 obtain ⟨h1, h2, h3, h4⟩ := bv_5 hj
 have hl := r.length
 have hn := ab_5
 have I' : Inv X zd σ (upd H p (.lst (xs.set j v))) { s with heap := s.heap.update p (Obj.mapSeq (·.setIfInBounds j u)) } :=
  I.lstUpd hp ho (bq_1 its n j u) (r.set rv j) (by rw [List.length_set]; exact hz) s.toks
 by_cases h0 : 0 ≤ k
 ·have hk : k.toNat = j := by
   rw [seqIndex_of h0 h4] at h1
   exact Option.some.inj h1
  exact ki_setAt ho h0 (by omega) (by rw [List.size_toArray, ← hl]; exact h4) (by rw [hk]; exact ⟨_, I', q⟩)
 ·have hk : (k + (its.toArray.size : Int)).toNat = j := by
   rw [seqIndex_neg (by omega) h3] at h1
   rw [List.size_toArray, ← hl]
   exact Option.some.inj h1
  exact ki_setBack ho (by omega) (by rw [List.size_toArray, ← hl]; exact h3) (by omega) (by rw [hk]; exact ⟨_, I', q⟩)
def aa_2 : V → Bool
 | .non => true
 | .bl _ => true
 | .int _ => true
 | .str _ => true
 | _ => false
def eqV : V → V → Bool
 | .non, .non => true
 | .bl a, .bl b => a == b
 | .bl a, .int b => (if a then 1 else 0) == b
 | .int a, .bl b => a == (if b then 1 else 0)
 | .int a, .int b => a == b
 | .str a, .str b => a == b
 | _, _ => false
theorem dd_4 {A : Around} {s : Shared} {y x : V} {u v : Value} (ry : RelV y u) (rx : RelV x v) (fy : aa_2 y = true) (fx : aa_2 x = true) : SeqAt.EqAt A s u v (eqV y x) := by
 cases y with
 | non =>
  cases ry
  cases x with
  | non => cases rx; exact SeqAt.EqAt.same _
  | bl b => cases rx; exact SeqAt.EqAt.none_bool b
  | int b => obtain ⟨t, rfl⟩ := rx; exact SeqAt.EqAt.none_int b t
  | str b => obtain ⟨t, rfl⟩ := rx; exact SeqAt.EqAt.none_str b t
  | _ => exact absurd (show false = true from fx) Bool.false_ne_true
 | bl a =>
  cases ry
  cases x with
  | non => cases rx; exact SeqAt.EqAt.bool_none a
  | bl b => cases rx; exact SeqAt.EqAt.bool_bool a b
  | int b => obtain ⟨t, rfl⟩ := rx; exact SeqAt.EqAt.bool_int a b t
  | str b => obtain ⟨t, rfl⟩ := rx; exact SeqAt.EqAt.bool_str a b t
  | _ => exact absurd (show false = true from fx) Bool.false_ne_true
 | int a =>
  obtain ⟨t', rfl⟩ := ry
  cases x with
  | non => cases rx; exact SeqAt.EqAt.int_none a t'
  | bl b => cases rx; exact SeqAt.EqAt.int_bool a t' b
  | int b => obtain ⟨t, rfl⟩ := rx; exact SeqAt.EqAt.int_int a t' b t
  | str b => obtain ⟨t, rfl⟩ := rx; exact SeqAt.EqAt.int_str a t' b t
  | _ => exact absurd (show false = true from fx) Bool.false_ne_true
 | str a =>
  obtain ⟨t', rfl⟩ := ry
  cases x with
  | non => cases rx; exact SeqAt.EqAt.str_none a t'
  | bl b => cases rx; exact SeqAt.EqAt.str_bool a t' b
  | int b => obtain ⟨t, rfl⟩ := rx; exact SeqAt.EqAt.str_int a t' b t
  | str b => obtain ⟨t, rfl⟩ := rx; exact SeqAt.EqAt.str_str a t' b t
  | _ => exact absurd (show false = true from fx) Bool.false_ne_true
 | _ => exact absurd (show false = true from fy) Bool.false_ne_true
def eqU (x : V) (u : Value) : Bool := match u with
 | .none => eqV .non x
 | .bool b => eqV (.bl b) x
 | .int i _ => eqV (.int i) x
 | .str z _ => eqV (.str z) x
 | _ => false
theorem ci_0 {x y : V} {u : Value} (r : RelV y u) (f : aa_2 y = true) : eqU x u = eqV y x := by
 cases y with
 | non => cases r; rfl
 | bl b => cases r; rfl
 | int i => obtain ⟨t, rfl⟩ := r; rfl
 | str z => obtain ⟨t, rfl⟩ := r; rfl
 | _ => exact absurd (show false = true from f) Bool.false_ne_true
theorem ad_1 {x : V} : ∀ {xs : List V} {us : List Value}, Vals xs us → xs.all aa_2 = true → us.any (eqU x) = xs.any fun y => eqV y x
 | _, _, .nil, _ => rfl
 | y :: xs, u :: us, .cons r t, f => by
  rw [List.all_cons, Bool.and_eq_true] at f
  rw [List.any_cons, List.any_cons, ci_0 r f.1, ad_1 t f.2]
theorem w_6 {A : Around} {s : Shared} {x : V} {v : Value} (rx : RelV x v) (fx : aa_2 x = true) : ∀ {xs : List V} {us : List Value}, Vals xs us → xs.all aa_2 = true → ∀ u ∈ us, SeqAt.EqAt A s u v (eqU x u)
 | _, _, .nil, _ => fun u hu => by cases hu
 | y :: xs, u :: us, .cons r t, f => fun u' hu => by
  rw [List.all_cons, Bool.and_eq_true] at f
  rcases List.mem_cons.mp hu with rfl | hu
  ·rw [ci_0 r f.1]; exact dd_4 r rx f.1 fx
  ·exact w_6 rx fx t f.2 u' hu
def inV (x : V) (xs : List V) : Bool := xs.any fun y => eqV y x
def rIn (K : Frag) (neg : Bool) : R2 := fun x y H Q => ∃ p xs, y = .ref p ∧ (SqL K H p xs ∨ SqT K H p xs) ∧ aa_2 x = true ∧ xs.all aa_2 = true ∧ Q (.bl (if neg then !inV x xs else inV x xs)) H
theorem cc_0 : OpR X (compareOp .In) (rIn X.K false) := by
 intro zd s σ H x y v u Q I rx ry h
 obtain ⟨p, xs, rfl, hq, fx, fs, q⟩ := h
 cases ry
 rcases hq with hq | hq
 ·obtain ⟨its, r, pl, hz⟩ := I.list hq
  refine SeqAt.in_listAt (eqU x) pl.isList (fun w hw => w_6 rx fx r fs w (by simpa using hw)) ⟨.bl _, H, I, rfl, ?_⟩
  rw [show its.toArray.any (eqU x) = its.any (eqU x) by simp, ad_1 r fs]
  exact q
 ·obtain ⟨its, r, pl, hz⟩ := I.tuple hq
  refine SeqAt.in_tupleAt (eqU x) pl (fun w hw => w_6 rx fx r fs w (by simpa using hw)) ⟨.bl _, H, I, rfl, ?_⟩
  rw [show its.toArray.any (eqU x) = its.any (eqU x) by simp, ad_1 r fs]
  exact q
theorem ba_1 : OpR X (compareOp .NotIn) (rIn X.K true) := by
 intro zd s σ H x y v u Q I rx ry h
 obtain ⟨p, xs, rfl, hq, fx, fs, q⟩ := h
 cases ry
 rcases hq with hq | hq
 ·obtain ⟨its, r, pl, hz⟩ := I.list hq
  refine SeqAt.notIn_listAt (eqU x) pl.isList (fun w hw => w_6 rx fx r fs w (by simpa using hw)) ⟨.bl _, H, I, rfl, ?_⟩
  rw [show its.toArray.any (eqU x) = its.any (eqU x) by simp, ad_1 r fs]
  exact q
 ·obtain ⟨its, r, pl, hz⟩ := I.tuple hq
  refine SeqAt.notIn_tupleAt (eqU x) pl (fun w hw => w_6 rx fx r fs w (by simpa using hw)) ⟨.bl _, H, I, rfl, ?_⟩
  rw [show its.toArray.any (eqU x) = its.any (eqU x) by simp, ad_1 r fs]
  exact q
theorem ba_2 : OpR X (compareOp .NotIn) (fun x y H Q => ∃ i j, x = .str i ∧ y = .str j ∧ Q (.bl (!(!(Builtin.Str.occurrences j i 0 j.length 1).isEmpty))) H) := by
 intro zd s σ H x y v u Q I rx ry h
 obtain ⟨i, j, rfl, rfl, q⟩ := h
 obtain ⟨t, rfl⟩ := rx
 obtain ⟨t', rfl⟩ := ry
 exact notIn_str ⟨.bl _, H, I, rfl, q⟩
theorem ad_2 : t_7 X (.builtin "len") (fun xs H Q => ∃ p ys, xs = [.ref p] ∧ (SqL X.K H p ys ∨ SqT X.K H p ys) ∧ Q (.int ys.length) H) := by
 intro zd s σ H xs us Q I r h
 obtain ⟨p, ys, rfl, hq, q⟩ := h
 obtain ⟨u, rfl, rx⟩ := au_7 r
 cases rx
 have hn := ab_5
 rcases hq with hq | hq
 ·obtain ⟨its, r', pl, hz⟩ := I.list hq
  have zm := r'.length
  exact Calls.call_len_list pl.isList (by simp only [List.size_toArray] <;> omega) ⟨.int ys.length, H, I.tok _, ⟨s.toks + 1, by rw [List.size_toArray, zm]⟩, q⟩
 ·obtain ⟨its, r', pl, hz⟩ := I.tuple hq
  have zm := r'.length
  exact len_tuple pl (by simp only [List.size_toArray] <;> omega) ⟨.int ys.length, H, I.tok _, ⟨s.toks + 1, by rw [List.size_toArray, zm]⟩, q⟩
theorem ba_3 : t_7 X (.builtin "len") (fun xs H Q => ∃ z, xs = [.str z] ∧ z.length ≤ sizeLine ∧ Q (.int z.length) H) := by
 intro zd s σ H xs us Q I r h
 obtain ⟨z, rfl, hz, q⟩ := h
 obtain ⟨u, rfl, t, rfl⟩ := au_7 r
 have hn := ab_5
 exact len_str (by omega) ⟨.int z.length, H, I.tok _, ⟨_, rfl⟩, q⟩
theorem ad_3 : t_7 X (.type "list") (fun xs H Q => ∃ p ys, xs = [.ref p] ∧ (SqL X.K H p ys ∨ SqT X.K H p ys) ∧ ∀ l, H l = none → Q (.ref l) (upd H l (.lst ys))) := by
 intro zd s σ H xs us Q I r h
 obtain ⟨p, ys, rfl, hq, q⟩ := h
 obtain ⟨u, rfl, rx⟩ := au_7 r
 cases rx
 have fin : ∀ (its : List Value), Vals ys its → ys.length ≤ sizeLine → ∀ (h' : Heap) (c' : Nat), (∀ b o', s.heap.get? b = some o' → h'.get? b = some o') →
   h'.get? s.heap.objs.size = some { cls := .type "list", dict := none, data := .seq its.toArray c', slots := #[] } → EP X zd σ Q (.ref s.heap.objs.size) { s with heap := h' } := fun its r' hz h' c' kp e =>
  ⟨.ref s.heap.objs.size, _, I.laid (t' := s.toks) kp (Nat.le_refl _) (show ObjOk X.prog X.w _ h' _ (.lst ys) from ⟨hz, its, c', r', e⟩), rfl, q _ (I.hok.fresh (Nat.le_refl _))⟩
 rcases hq with hq | hq
 ·obtain ⟨its, r', pl, hz⟩ := I.list hq
  have zm := r'.length
  obtain ⟨o, ho, hc, n, hd⟩ := pl.isList
  exact call_list_seq p (.inl rfl) ho hc hd (fun h' c' kp e => fin its r' hz h' c' kp e) (by simp only [List.size_toArray] <;> omega)
 ·obtain ⟨its, r', pl, hz⟩ := I.tuple hq
  have zm := r'.length
  obtain ⟨o, ho, hc, n, hd⟩ := pl
  exact call_list_seq p (.inr rfl) ho hc hd (fun h' c' kp e => fin its r' hz h' c' kp e) (by simp only [List.size_toArray] <;> omega)
theorem aa_3 : t_7 X (.type "tuple") (fun xs H Q => ∃ p ys, xs = [.ref p] ∧ ((SqL X.K H p ys ∧ ∀ l, H l = none → Q (.ref l) (upd H l (.tup ys))) ∨ (SqT X.K H p ys ∧ Q (.ref p) H))) := by
 intro zd s σ H xs us Q I r h
 obtain ⟨p, ys, rfl, h⟩ := h
 obtain ⟨u, rfl, rx⟩ := au_7 r
 cases rx
 rcases h with ⟨hq, q⟩ | ⟨hq, q⟩
 ·obtain ⟨its, r', pl, hz⟩ := I.list hq
  have zm := r'.length
  refine call_tuple_list pl.isList (fun h' kp => ?_) (by simp only [List.size_toArray] <;> omega)
  have I1 : Inv X zd σ H { s with heap := h' } := I.kept (t' := s.toks) kp
  have I2 : Inv X zd σ (upd H h'.objs.size (.tup ys)) { s with heap := h'.push { cls := .type "tuple", data := .seq its.toArray } } :=
   I1.laid (t' := s.toks) (fun b o e => Heap.get?_push_of_some _ e) (Nat.le_refl _) (show ObjOk X.prog X.w _ _ _ (.tup ys) from ⟨hz, its, r', IsTup.new _ _⟩)
  exact ⟨.ref h'.objs.size, _, I2, rfl, q _ (I1.hok.fresh (Nat.le_refl _))⟩
 ·obtain ⟨its, r', pl, hz⟩ := I.tuple hq
  exact call_tuple_same pl ⟨.ref p, H, I, rfl, q⟩
def tyV (K : Frag) (T : String) (x : V) (H : Hp) : Prop := match x with
 | .str _ => T = "str"
 | .int _ => T = "int"
 | .ref p => (T = "list" ∧ ∃ xs, SqL K H p xs) ∨ (T = "tuple" ∧ ∃ o, K.lookup p = some o ∧ o.cls = .type "tuple" ∧ o.dict = none) ∨
   (T = "dict" ∧ ((∃ kvs, H p = some (.dK kvs)) ∨ ∃ kvs, H p = some (.dT kvs))) ∨ (T = "set" ∧ ∃ S n, H p = some (.set S n))
 | _ => False
theorem ci_1 {zd : List (Addr × Obj)} {σ : St} {H : Hp} {s : Shared} {T : String} {x : V} {v : Value} (I : Inv X zd σ H s) (r : RelV x v) (ty : tyV X.K T x H) :
  s.TypeIs v T ∧ ∀ a, v = .ref a → ∃ ob, s.heap.get? a = some ob ∧ ob.dict = none := by
 cases x with
 | str z =>
  obtain ⟨t, rfl⟩ := r
  cases (show T = "str" from ty)
  exact ⟨typeIs_str s z t, fun _ e => nomatch e⟩
 | int i =>
  obtain ⟨t, rfl⟩ := r
  cases (show T = "int" from ty)
  exact ⟨typeIs_int s i t, fun _ e => nomatch e⟩
 | ref p =>
  cases r
  rcases ty with ⟨rfl, xs, hq⟩ | ⟨rfl, o, hk, hc, hd⟩ | ⟨rfl, hk⟩ | ⟨rfl, S, n, hk⟩
  ·obtain ⟨its, _, pl, _⟩ := I.list hq
   refine ⟨pl.isList.typeIs, fun a e => ?_⟩
   cases e
   obtain ⟨o, n, e, c, hd, _⟩ := pl
   exact ⟨o, e, hd⟩
  ·refine ⟨⟨o, I.kIn p o hk, hc⟩, fun a e => ?_⟩
   cases e
   exact ⟨o, I.kIn _ o hk, hd⟩
  ·have z : ∃ o, s.heap.get? p = some o ∧ o.ExactDict := by
    rcases hk with ⟨kvs, hk⟩ | ⟨kvs, hk⟩
    ·obtain ⟨_, _, _, _, o, _, _, e, ex, _⟩ := I.hok p _ hk
     exact ⟨o, e, ex⟩
    ·obtain ⟨_, _, _, _, o, _, _, e, ex, _⟩ := I.hok p _ hk
     exact ⟨o, e, ex⟩
   obtain ⟨o, e, ex⟩ := z
   refine ⟨⟨o, e, ex.1⟩, fun a e2 => ?_⟩
   cases e2
   exact ⟨o, e, ex.2.1⟩
  ·obtain ⟨o, _, _, _, e, ex, _⟩ := I.hok p _ hk
   refine ⟨⟨o, e, ex.1⟩, fun a e2 => ?_⟩
   cases e2
   exact ⟨o, e, ex.2.1⟩
 | _ => exact False.elim ty
def tBM0 (K : Frag) (T : String) (r : V → List V → Hp → VK → Prop) (to : TE) : TE := fun σ H Q => to σ H fun x H1 => tyV K T x H1 ∧ r x [] H1 Q
def tBM (K : Frag) (T : String) (r : V → List V → Hp → VK → Prop) (to : TE) (t : TA) : TE := fun σ H Q => to σ H fun x H1 => tyV K T x H1 ∧ t σ H1 fun xs H2 => r x xs H2 Q
variable {o e : Expr} {es : List Expr} {to : TE} {t : TA} {name : Str} {zh zf : Pos} {T id : String} {r : V → List V → Hp → VK → Prop}
theorem dd_5 (pa : PlainAttrs T) (slot : Slot T name id) (hty : typeOf (.builtin id) = pure (.type "method_descriptor")) (hm : MtR X id r) (ho : PE X o to)
  (ae : attributeBase o name X.env (eval o X.env) = eval o X.env := by rfl) (af : (zh.endLine == zf.line) = true := by rfl) : PE X (.Call (.Attribute o name zh) [] [] zf) (tBM0 X.K T r to) := by
 intro zd s σ H Q I h
 refine wpAny_Call_method0_late ae af (thn (ho zd s σ H _ I h) fun v s1 ⟨x, H1, I1, r1, ty, q1⟩ => ?_)
 obtain ⟨h1, h2⟩ := ci_1 I1 r1 ty
 exact ⟨T, id, pa, slot, hty, h1, h2, Calls.callWith_builtin rfl (PySem.evalArgs_none (hm zd s1 σ H1 x [] v [] Q I1 r1 .nil q1))⟩
theorem ci_2 (pa : PlainAttrs T) (slot : Slot T name id) (hty : typeOf (.builtin id) = pure (.type "method_descriptor")) (hm : MtR X id r) (ho : PE X o to) (ha : PA X (e :: es) t)
  (ae : attributeBase o name X.env (eval o X.env) = eval o X.env := by rfl)
  (au : ((backTo zf (starEach (e :: es) X.env)).all (fun x => !x.1) && (backToKw zf (keywordEach [] X.env)).all (fun x => x.1.isSome)
   && decide ((e :: es).length + ([] : List Keyword).length + (if ([] : List Keyword).isEmpty then 0 else 1) < 30)) = true := by rfl)
  (af : (zh.endLine == zf.line) = true := by rfl) (hs : starEach (e :: es) X.env = (false, eval e X.env) :: starEach es X.env := by rfl) (aa : (backTo zf (starEach es X.env)).any (·.1) = false := by rfl) :
  PE X (.Call (.Attribute o name zh) (e :: es) [] zf) (tBM X.K T r to t) := by
 intro zd s σ H Q I h
 refine wpAny_Call_method_late ae au af rfl (thn (ho zd s σ H _ I h) fun v s1 ⟨x, H1, I1, r1, ty, q1⟩ => ?_)
 obtain ⟨h1, h2⟩ := ci_1 I1 r1 ty
 refine ⟨T, id, pa, slot, hty, h1, h2, ?_⟩
 have hA := ha zf zd s1 σ H1 _ I1 q1
 rw [hs] at hA ⊢
 refine Calls.callWith_builtin (by show (false || (backTo zf (starEach es X.env)).any (·.1)) = false; rw [aa] <;> rfl) (Calls.evalArgs_plain ?_)
 exact thn hA fun us s2 ⟨vs, H2, I2, r2, q2⟩ => hm zd s2 σ H2 x vs v us Q I2 r1 r2 q2
end
def MtM (X : Cx) (id : String) (r : V → List V → Hp → VK → Prop) : Prop :=
 ∀ (zd : List (Addr × Obj)) (s : Shared) (σ : St) (H : Hp) (x : V) (xs : List V) (v : Value) (us : List Value) (Q : VK), Inv X zd σ H s → RelV x v → Vals xs us → r x xs H Q →
  wpAny (model X.prog X.w) X.A (call (.builtin id) (v :: us)) (EP X zd σ Q) X.xe s
theorem Vals.one : ∀ {x : V} {us : List Value}, Vals [x] us → ∃ u, us = [u] ∧ RelV x u
 | _, _, .cons r .nil => ⟨_, rfl, r⟩
theorem Vals.two : ∀ {x y : V} {us : List Value}, Vals [x, y] us → ∃ u v, us = [u, v] ∧ RelV x u ∧ RelV y v
 | _, _, _, .cons r (.cons q .nil) => ⟨_, _, rfl, r, q⟩
theorem Vals.zero : ∀ {us : List Value}, Vals [] us → us = []
 | _, .nil => rfl
theorem Vals.dropLast {xs : List V} {us : List Value} (h : Vals xs us) : Vals xs.dropLast us.dropLast := by
 induction h with
 | nil => exact .nil
 | cons r t ih =>
  cases t with
  | nil => exact .nil
  | cons q t' => exact .cons r ih
theorem Vals.eraseIdx : ∀ {xs : List V} {us : List Value} (i : Nat), Vals xs us → Vals (xs.eraseIdx i) (us.eraseIdx i)
 | _, _, _, .nil => .nil
 | _, _, 0, .cons _ t => t
 | _, _, i + 1, .cons r t => .cons r (Vals.eraseIdx i t)
theorem Vals.reverse {xs : List V} {us : List Value} (h : Vals xs us) : Vals xs.reverse us.reverse := by
 induction h with
 | nil => exact .nil
 | cons r t ih => rw [List.reverse_cons, List.reverse_cons]; exact Vals.append ih (.cons r .nil)
theorem Vals.rep {xs : List V} {us : List Value} (h : Vals xs us) : ∀ k : Nat, Vals (List.replicate k xs).flatten (List.replicate k us).flatten
 | 0 => .nil
 | k + 1 => by
  rw [List.replicate_succ, List.replicate_succ, List.flatten_cons, List.flatten_cons]
  exact Vals.append h (Vals.rep h k)
theorem bq_2 {α : Type} (l : List α) : l.eraseIdx (l.length - 1) = l.dropLast := by
 induction l with
 | nil => rfl
 | cons a r ih =>
  cases r with
  | nil => rfl
  | cons b r =>
   have e : (a :: b :: r).length - 1 = ((b :: r).length - 1) + 1 := by
    have h1 : (a :: b :: r).length = r.length + 2 := rfl
    have h2 : (b :: r).length = r.length + 1 := rfl
    omega
   rw [e, List.eraseIdx_cons_succ, ih]
   all_goals rfl
theorem av_3 (its : List Value) : ∀ (k : Nat) (zp : List Value),
  List.foldl (fun x1 x2 => x1 ++ x2) zp.toArray (List.replicate k its.toArray) = (zp ++ (List.replicate k its).flatten).toArray
 | 0, zp => by simp
 | k + 1, zp => by
  have e : zp.toArray ++ its.toArray = (zp ++ its).toArray := by simp
  have e2 : (zp ++ its) ++ (List.replicate k its).flatten = zp ++ (List.replicate (k + 1) its).flatten := by
   rw [List.replicate_succ, List.flatten_cons, List.append_assoc]
  rw [← e2, ← av_3 its k (zp ++ its), ← e, List.replicate_succ, List.foldl_cons]
section
variable {X : Cx} {zd : List (Addr × Obj)} {σ : St} {H : Hp} {s : Shared} {l b : Addr} {xs ys zs : List V}
theorem Inv.lset {its its' : List Value} {n : Nat} {f : Array Value → Array Value} {t' : Nat} (I : Inv X zd σ H s) (hH : H l = some (.lst xs))
  (e : s.heap.get? l = some { cls := .type "list", data := .seq its.toArray n }) (hf : f its.toArray = its'.toArray) (hv : Vals ys its') (hz : ys.length ≤ sizeLine) :
  Inv X zd σ (upd H l (.lst ys)) { s with heap := s.heap.update l (Obj.mapSeq f), toks := t' } := by
 have q := PySem.IsL.update e f
 rw [hf] at q
 refine I.write (x := l) (e := l) (by rw [hH]; exact trivial) (.inl rfl) (fun b' u hb hu => (Heap.get?_update_other s.heap (Obj.mapSeq f) (Ne.symm hb)).trans hu) ⟨_, q⟩ ?_
 exact ⟨hz, its', _, hv, q⟩
theorem Inv.lnew {its : List Value} {t' : Nat} (I : Inv X zd σ H s) (hv : Vals ys its) (hz : ys.length ≤ sizeLine) :
  Inv X zd σ (upd H s.heap.objs.size (.lst ys)) { s with heap := s.heap.push { cls := .type "list", data := .seq its.toArray }, toks := t' } :=
 I.laid (fun _ _ q => Heap.get?_push_of_some _ q) (Nat.le_refl _) ⟨hz, its, 0, hv, Heap.get?_push_size _ rfl⟩
theorem Inv.fresh (I : Inv X zd σ H s) : H s.heap.objs.size = none := I.hok.fresh (Nat.le_refl _)
theorem Inv.lstM (I : Inv X zd σ H s) (hH : H l = some (.lst xs)) : xs.length ≤ sizeLine ∧ ∃ (its : List Value) (n : Nat), Vals xs its ∧ xs.length = its.length ∧ s.heap.get? l = some { cls := .type "list", data := .seq its.toArray n } := by
 obtain ⟨z, its, n, r, e⟩ := I.hok l _ hH
 exact ⟨z, its, n, r, r.length, e⟩
theorem bh_1 {n : Nat} (h : n ≤ sizeLine) : Builtin.List.listTooLong n = false := by
 unfold Builtin.List.listTooLong
 exact decide_eq_false (by omega)
end
section
variable {X : Cx}
def bv_7 : V → List V → Hp → VK → Prop := fun x vs H Q => ∃ l xs y, x = .ref l ∧ vs = [y] ∧ H l = some (.lst xs) ∧ xs.length < sizeLine ∧ Q .non (upd H l (.lst (xs ++ [y])))
theorem av_4 : MtM X "list.append" bv_7 := by
 intro zd s σ H x vs v us Q I rx rv h
 obtain ⟨l, xs, y, rfl, rfl, hH, hz, q⟩ := h
 cases rx
 obtain ⟨u, rfl, ru⟩ := rv.one
 obtain ⟨z, its, n, r, hl, e⟩ := I.lstM hH
 refine call_meets F.slot_list_append ⟨_, e, rfl⟩ F.entry_list_append (F.args_list_append_2 _ _) (PySem.list_append l its.toArray n u (by rw [List.size_toArray]; omega)) ⟨e, ?_⟩
 refine ⟨.non, _, I.lset (its' := its ++ [u]) hH e (by simp) (r.append (.cons ru .nil)) ?_, rfl, q⟩
 rw [List.length_append, List.length_singleton]
 omega
def rPop : V → List V → Hp → VK → Prop := fun x vs H Q => ∃ l xs y, x = .ref l ∧ vs = [] ∧ H l = some (.lst xs) ∧ xs[xs.length - 1]? = some y ∧ Q y (upd H l (.lst xs.dropLast))
theorem dd_6 : MtM X "list.pop" rPop := by
 intro zd s σ H x vs v us Q I rx rv h
 obtain ⟨l, xs, y, rfl, rfl, hH, hy, q⟩ := h
 cases rx
 have hus := rv.zero
 subst hus
 obtain ⟨z, its, n, r, hl, e⟩ := I.lstM hH
 obtain ⟨u, hu, ru⟩ := r.get hy
 have hy' : its.toArray[its.toArray.size - 1]? = some u := by
  show its.toArray[its.length - 1]? = some u
  rw [← Array.getElem?_toList, ← hl]
  exact hu
 refine call_meets F.slot_list_pop ⟨_, e, rfl⟩ F.entry_list_pop (F.args_list_pop_1 _) (MeetsSeq.list_pop_last l its.toArray n u hy' (by rw [List.size_toArray]; omega)) ⟨e, ?_⟩
 refine ⟨y, _, I.lset (its' := its.dropLast) hH e ?_ r.dropLast ?_, ru, q⟩
 ·show its.toArray.eraseIdxIfInBounds (its.toArray.size - 1) = its.dropLast.toArray
  rw [List.size_toArray, List.eraseIdxIfInBounds_toArray, bq_2]
 ·rw [List.length_dropLast]
  omega
def rRep : R2 := fun x y H Q => ∃ l k xs, x = .ref l ∧ y = .int k ∧ H l = some (.lst xs) ∧ -(2 ^ 63) ≤ k ∧ k < 2 ^ 63 ∧ xs.length * k.toNat ≤ sizeLine ∧
 ∀ p, H p = none → Q (.ref p) (upd H p (.lst (List.replicate k.toNat xs).flatten))
theorem cs_8 {α : Type} (xs : List α) (k : Nat) : (List.replicate k xs).flatten.length = k * xs.length := by
 induction k with
 | zero => simp
 | succ k ih => rw [List.replicate_succ, List.flatten_cons, List.length_append, ih, Nat.succ_mul, Nat.add_comm]
theorem dd_7 : OpR X (binaryOp .Mult) rRep := by
 intro zd s σ H x y v u Q I rx ry h
 obtain ⟨l, k, xs, rfl, rfl, hH, h1, h2, hz, q⟩ := h
 cases rx
 obtain ⟨t, rfl⟩ := ry
 obtain ⟨z, its, n, r, hl, e⟩ := I.lstM hH
 have zm : its.toArray.size * k.toNat ≤ sizeLine := by rw [List.size_toArray, ← hl]; exact hz
 have dk : ¬ its.toArray.size * k.toNat > (2 ^ 63 - 1) / 8 := by
  have : (sizeLine : Nat) ≤ (2 ^ 63 - 1) / 8 := by decide
  omega
 have ff : ¬ (!Builtin.List.listFitsIndex k) = true := by
  rw [fitsIndex_both h1 h2]
  exact Bool.false_ne_true
 have av : ¬ Builtin.List.listTooLong (its.toArray.size * k.toNat) = true := by
  rw [bh_1 zm]
  exact Bool.false_ne_true
 have gm : List.foldl (fun x1 x2 => x1 ++ x2) #[] (List.replicate (if its.toArray.isEmpty = true then 0 else k.toNat) its.toArray) = (List.replicate k.toNat its).flatten.toArray := by
  have f0 : ∀ m : Nat, List.foldl (fun x1 x2 => x1 ++ x2) #[] (List.replicate m its.toArray) = (List.replicate m its).flatten.toArray := fun m => by
   have := av_3 its m []
   rw [List.nil_append] at this
   exact this
  rw [f0]
  cases its with
  | nil => simp
  | cons a r' => rw [if_neg (by simp)]
 refine wpAny_binaryOp_repeat_ref (T := "list") (U := "int") (by decide) ⟨_, e, rfl⟩ (fun s' => typeIs_int s' k t) noFill_list_mul F.fills_int_mul F.slot_int_rmul repeat_list F.slot_int_index.lookup
  (call_meets F.slot_int_rmul (typeIs_int s k t) F.entry_int_rmul (F.args_int_rmul_2 _ _) (int___rmul___int_list k t l its.toArray n)
   ⟨e, rfl, ⟨_, e, rfl⟩, call_meets F.slot_list_mul ⟨_, e, rfl⟩ F.entry_list_mul (F.args_list_mul_2 _ _) (AutoListH.list___mul___list_int_3 l its.toArray n k t ff dk av) ⟨e, ?_⟩⟩)
 rw [gm]
 exact ⟨.ref _, _, I.lnew (t' := s.toks) (r.rep k.toNat) (by rw [cs_8, Nat.mul_comm]; exact hz), rfl, q _ I.fresh⟩
end
section
variable {prog : Program} {w : World} {A : Around} {E : Value → Shared → Prop} {s : Shared}
end
section
variable {X : Cx}
end
end L2
namespace Att
open PySem PySem.W PySem.Calls PyProof.Rows
theorem al_3 {P : Params} {h : Heap} : ∀ (ns : List Int) (vs : List Value), WellAll P h vs (ns.map WData.int) → IntsAre vs ns := by
 intro ns
 induction ns with
 | nil =>
  intro vs w
  rw [List.map_nil] at w
  cases w
  exact .nil
 | cons n ns ih =>
  intro vs w
  rw [List.map_cons] at w
  cases w with
  | cons a b =>
   cases a
   exact .cons _ _ (ih _ b)
theorem cc_1 {l : OpenLaw} {n : Nat} (hn : l.most = some n) {P : Params} {h : Heap} {args : List WData} {vals : List Value}
  (ay : l.row.toRowW.claim.pre args = true) (hwl : WellAll P h vals args) :
  ∃ a vs ns, vals = [Value.ref a] ∧ args = [WData.list (ns.map WData.int)] ∧ h.get? a = some { cls := .type "list", data := .seq vs.toArray } ∧ IntsAre vs ns ∧ ns.length ≤ n := by
 have hsh : WShape.hasAll [] args [.list .int] = true := (pre_splitW ay).1
 have hc : l.pre.holds [] { args := args } = true := (pre_splitW ay).2
 obtain ⟨d, r, rfl, h1, h2⟩ := hasAllW_cons hsh
 obtain rfl := hasAllW_nil h2
 obtain ⟨xs, rfl, h3⟩ := hasW_list h1
 obtain ⟨ns, rfl⟩ := items_int h3
 have zm : ns.length ≤ n := by
  unfold OpenLaw.pre at hc
  have h4 : (WTm.not (.lt (.lit (.int (n : Int))) (.len (.arg 0)))).holds [] { args := [.list (ns.map .int)] } = true := by
   have h4 := (holds_andW hc).1
   rw [hn] at h4
   exact h4
  have h5 := condW_of h4 (w_not (w_lt w_lit (w_len_list (w_arg rfl))))
  rw [List.length_map] at h5
  refine Nat.le_of_not_lt fun q => ?_
  have q' : (n : Int) < ((ns.length : Nat) : Int) := by omega
  first
   | (rw [decide_eq_true q'] at h5; exact absurd h5 (by decide))
   | (simp at h5; omega)
 cases hwl with
 | cons w1 w2 =>
  cases w2
  cases w1 with
  | list ho hall => exact ⟨_, _, ns, rfl, rfl, ho, al_3 ns _ hall, zm⟩
theorem cc_2 (l : OpenLaw) (args : List WData) : l.row.toRowW.claim.post args (.bool true) args = true :=
 postW_of (r := l.row.toRowW) (X := (true == true))
  (show WShape.has [] (.bool true) .bool = true by first | rfl | decide | simp [WShape.has, WShape.arms, WShape.armsAll])
  (show (WTm.eq .res (.lit (.bool true))).value [] { args := args, res := some (.bool true), after := args } = some (.bool (true == true)) from w_eq_bool (w_res rfl) w_lit) rfl
theorem attach_call {l : OpenLaw} {n : Nat} {q : Program} {loose : List Str} {XP : (Str → Option Value) → Heap → Prop} {YP : World → Heap → Prop} {d : DefRec}
  (hn : l.most = some n) (hdf : d.params.defaults = [])
  (call : ∀ (w : World) (s₀ s₁ : Shared) (mg mb : Str → Option Value) (fa : Addr) (o : Obj) (pm cd doc : Value) (a : Addr) (vs : List Value) (ns : List Int),
   Ground q loose [] XP w s₀ mg mb s₁.heap → YP w s₁.heap →
   s₁.heap.get? fa = some o → o.data = .func (docDef d.name d.params d.body d.scope pm cd doc) → s₁.heap.CodeRec cd d.name → mg d.name = some (.ref fa) →
   s₁.heap.get? a = some { cls := .type "list", data := .seq vs.toArray } → IntsAre vs ns → ns.length ≤ n → s₁.gens = #[] →
   codeAny (model l.prog w) callerA (.call (.ref fa) ⟨[.ref a], []⟩) (fun r s' => r = .ok (.ret (.bool true)) ∧ OldK s₁.heap s'.heap ∧ s'.os = s₁.os ∧ AllBare s'.gens) s₁) :
  WalkO q loose XP YP l.row.toRowW d [] (fun f vs => PySem.call f vs) := by
 intro w s₀ s₁ mg mb G Y fa o pm cd doc dV kV ho hd hcd hD hmg hg args vals as ay hlay hrd hwl hlo
 obtain rfl : dV = .none := Dflts.none hD hdf
 obtain rfl : kV = .none := Dflts.noKw hD
 obtain ⟨a, vs, ns, rfl, rfl, ba, hints, zm⟩ := cc_1 hn ay hwl
 refine enter_call (codeAny_mono (call w s₀ s₁ mg mb fa o pm cd doc a vs ns G Y ho (fd_plain hd) hcd hmg ba hints zm hg) fun r s' hq => ?_)
 obtain ⟨rfl, h2, h3, h4⟩ := hq
 exact ⟨.inl ⟨.bool true, .bool true, [], rfl, fun _ => rfl, .bool true, cc_2 l _, fun _ => ⟨List.Pairwise.nil, fun _ hm => (nomatch hm)⟩⟩, h2, h3, h4⟩
section
variable {prog : Program} {w : World} {A : Around} {E : Value → Shared → Prop} {s : Shared} {K : Frag}
end
end Att
namespace L2
open PySem PySem.Spec PyProof.Rows
theorem av_5 : ∀ {vs : List Value} {ns : List Int}, IntsAre vs ns → Vals (ns.map V.int) vs
 | _, _, .nil => .nil
 | _, _, .cons n t h => .cons ⟨t, rfl⟩ (av_5 h)
def Only (H : Hp) : Prop := ∀ b, H b = none ∨ ∃ o xs, H b = some (.frz o (.lst xs))
theorem ci_3 {P : Program} {w : World} {K : Frag} {mg mb : Str → Option Value} {CX : CXT} {k : Nat} {fa a : Addr} {fd : FuncData} {x : Str} {sp : Sp} {s₁ : Shared} {vs : List Value} {ns : List Int}
  (KX : K.In s₁.heap) (hns : s₁.heap.Ns mainGlobals mg) (hb : s₁.heap.Ns builtinsNs mb) (hbb : ∀ x : Str, x ≠ "__name__" → mb x = bootBuiltins x) (dv : s₁.heap.NoLimit) (hg : s₁.gens = #[])
  (ha : s₁.heap.get? a = some { cls := .type "list", data := .seq vs.toArray }) (hi : IntsAre vs ns) (hl : ns.length ≤ sizeLine) (hr : Room k callerA)
  (F : ∀ base : Heap, K.In base → base.Ns mainGlobals mg → FnOk P w K mg base CX k fa fd [x] sp) (cb : ∀ (s : Shared) (u : Value), BindsTo s fd ⟨[u], []⟩ [(x, u)])
  (hsp : ∀ H : Hp, Only H → SqL K H a (ns.map V.int) → sp [.ref a] H (fun v _ => v = .bl true) fun _ _ _ => False)
  (hCX : ∀ H e s', CX [] H s₁ (fun _ _ _ => False) e s' → False) :
  codeAny (model P w) callerA (.call (.ref fa) ⟨[.ref a], []⟩) (fun r s' => r = .ok (.ret (.bool true)) ∧ OldK s₁.heap s'.heap ∧ s'.os = s₁.os ∧ AllBare s'.gens) s₁ := by
 have rv := av_5 hi
 have fm := hi.length
 
 have core : ∀ H : Hp, Only H → SqL K H a (ns.map V.int) → HOk P w H s₁.heap → (∀ b, H b ≠ none → b = a) → (H a ≠ none → K.lookup a = none) →
   codeAny (model P w) callerA (.call (.ref fa) ⟨[.ref a], []⟩) (fun r s' => r = .ok (.ret (.bool true)) ∧ OldK s₁.heap s'.heap ∧ s'.os = s₁.os ∧ AllBare s'.gens) s₁ := by
  intro H hO hS hok hA hK
  have ak : ∀ {b : Addr} {o : Obj}, s₁.heap.get? b = some o → H b = none → (hidT s₁.heap H).get? b = some o := fun e n => cg_7 e n
  have noA : ∀ {b : Addr} {o : Obj} {es : Array DictEntry} {ep : Nat}, s₁.heap.get? b = some o → o.data = .dict es ep → H b = none := fun {b o es ep} e d => by
   cases q : H b with
   | none => rfl
   | some u =>
    have e' : b = a := hA b (by rw [q]; simp)
    subst e'
    rw [ha] at e; cases e
    have d' : Data.seq vs.toArray _ = Data.dict es ep := d
    cases d'
  have nsK : ∀ {b : Addr} {m : Str → Option Value}, s₁.heap.Ns b m → (hidT s₁.heap H).Ns b m := fun {b m} ⟨o, es, ep, e, d, r⟩ => ⟨o, es, ep, ak e (noA e d), d, r⟩
  have hKb : K.In (hidT s₁.heap H) := fun b o e => ak (KX b o e) (by
   cases q : H b with
   | none => rfl
   | some u =>
    have e' : b = a := hA b (by rw [q]; simp)
    subst e'
    rw [hK (by rw [q]; simp)] at e; cases e)
  have hM : Mod K mg (hidT s₁.heap H) := ⟨hKb, nsK hns, ⟨mb, nsK hb, hbb⟩, let ⟨mc, h1, h2⟩ := dv; ⟨mc, nsK h1, h2⟩⟩
  have e0 : Env0 P w K mg (hidT s₁.heap H) callerA [] s₁ H := ⟨rfl, hM, fun b o e => cr_6 e, Nat.le_of_eq (ca_8 _ _), trivial, fun b hb => absurd (show b ∈ ([] : List Addr) from hb) (by simp), hok, .of_eq hg⟩
  refine codeAny_mono ((F _ hKb (nsK hns)).run callerA [] s₁ H ⟨[.ref a], []⟩ [.ref a] [.ref a] _ _ hr e0 (cb s₁ (.ref a)) (.cons rfl .nil) (hsp H hO hS)) fun r s' h => ?_
  cases r with
  | error e => exact (hCX H e s' h).elim
  | ok fl =>
   cases fl with
   | next => exact False.elim h
   | brk => exact False.elim h
   | cont => exact False.elim h
   | ret u =>
    obtain ⟨v, H', os, bare, un, ej, r', q⟩ := h
    have q' : v = .bl true := q
    subst q'
    obtain rfl : u = Value.bool true := r'
    refine ⟨rfl, OldK.of_keep fun b o e => ?_, os, bare⟩
    cases q : H b with
    | none => exact un.keep b o e q (by intro z; exact absurd (show b ∈ ([] : List Addr) from z) (by simp)) (by simp)
    | some u =>
     rcases hO b with z | ⟨ob, xs, z⟩
     ·rw [q] at z; cases z
     ·have z2 := un.frzs b ob _ z
      obtain ⟨e1, _⟩ := hok b _ z
      obtain ⟨e2, _⟩ := ej b _ z2
      rw [e] at e1; cases e1
      exact e2
 cases hk : K.lookup a with
 | some o =>
  
  have e := KX a o hk
  rw [ha] at e
  cases e
  refine core (fun _ => none) (fun _ => .inl rfl) (.inr ⟨_, vs.toArray, _, hk, rfl, rfl, rfl, by rw [List.size_toArray, fm]; exact hl, by simpa using rv⟩) (fun b u z => by have z' : (none : Option HO) = some u := z; cases z') (fun b z => absurd rfl z) fun z => absurd rfl z
 | none =>
  refine core (fun b => if b = a then some (.frz { cls := .type "list", data := .seq vs.toArray } (.lst (ns.map V.int))) else none) (fun b => ?_) (.inl (.inr ⟨{ cls := .type "list", data := .seq vs.toArray }, if_pos rfl⟩)) (fun b u z => ?_) (fun b z => ?_) fun _ => hk
  ·by_cases hb : b = a
   ·exact .inr ⟨_, _, if_pos hb⟩
   ·exact .inl (if_neg hb)
  ·by_cases hb : b = a
   ·have z' := (if_pos hb).symm.trans z
    cases z'
    subst hb
    exact ⟨ha, by rw [List.length_map]; exact hl, vs, _, rv, ha⟩
   ·have z' := (if_neg hb).symm.trans z
    cases z'
  ·by_cases hb : b = a
   ·exact hb
   ·exact absurd (if_neg hb) z
theorem cs_9 {l : PySem.W.OpenLaw} {n k : Nat} {q : Program} {loose : List Str} {XP : (Str → Option Value) → Heap → Prop} {YP : World → Heap → Prop} {d : DefRec} {K : Params → Frag} {CX : World → CXT} {sp : World → Sp} {x : Str}
  (hn : l.most = some n) (hn2 : n ≤ sizeLine) (hdf : d.params.defaults = []) (hr : Room k callerA)
  (hY : ∀ (w : World) (h : Heap), YP w h → (K w.params).In h)
  (F : ∀ (w : World) (mg : Str → Option Value) (fa : Addr) (h : Heap), (K w.params).In h → h.Ns mainGlobals mg → mg d.name = some (.ref fa) →
   ∃ fd : FuncData, (∀ (s : Shared) (u : Value), BindsTo s fd ⟨[u], []⟩ [(x, u)]) ∧
    ∀ base : Heap, (K w.params).In base → base.Ns mainGlobals mg → FnOk l.prog w (K w.params) mg base (CX w) k fa fd [x] (sp w))
  (hsp : ∀ (w : World) (H : Hp) (a : Addr) (ns : List Int), ns.length ≤ n → Only H → SqL (K w.params) H a (ns.map V.int) → sp w [.ref a] H (fun v _ => v = .bl true) fun _ _ _ => False)
  (hCX : ∀ (w : World) (H : Hp) (s : Shared) (e : Value) (s' : Shared), CX w [] H s (fun _ _ _ => False) e s' → False) :
  PySem.W.WalkO q loose XP YP l.row.toRowW d [] (fun f vs => PySem.call f vs) := by
 refine Att.attach_call hn hdf fun w s₀ s₁ mg mb fa o pm cd doc a vs ns G Y ho hd hcd hmg ba hints zm hg => ?_
 have KX := hY w _ Y
 obtain ⟨fd, hb, hF⟩ := F w mg fa _ KX G.T.g hmg
 exact ci_3 KX G.T.g G.T.b G.T.builtins G.T.nolimit hg ba hints (Nat.le_trans zm hn2) hr hF hb (fun H hO hS => hsp w H a ns zm hO hS) fun H e s' => hCX w H s₁ e s'
def g_2 (s : Stmt) : Arguments := match s with
 | .FunctionDef _ a _ _ _ _ _ _ _ _ => a
 | _ => { posonlyargs := [], args := [], vararg := none, kwonlyargs := [], kw_defaults := [], kwarg := none, defaults := [] }
def d_3 (s : Stmt) : List Stmt := match s with
 | .FunctionDef _ _ b _ _ _ _ _ _ _ => b
 | _ => []
def b_2 (s : Stmt) : Scope := match s with
 | .FunctionDef _ _ _ _ _ _ sc _ _ _ => sc
 | _ => { kind := .function, names := [], isGenerator := false, isCoroutine := false }
abbrev CX0 : CXT := fun _ _ _ _ _ _ => False
abbrev E0 : XK := fun _ _ _ => False
structure Fun (K : Frag) (x qual : Str) (st : Stmt) (f : Addr) (fd : FuncData) : Prop where
 ex : ∃ (oc : Value) (od : Option Addr) (kV doc pm : Value) (an : Option Addr) (zq ct : Value) (osl : Array (Option Value)),
  fd = fnOf x qual (g_2 st) (d_3 st) (b_2 st) .none kV doc pm an zq ct ∧ K.lookup f = some ⟨oc, od, .func fd, osl⟩ ∧ codeIn K zq qual = true
 kp : keepIn K (.ref f) = true
section
variable {P : Program} {w : World} {K : Frag} {mg : Str → Option Value} {base : Heap}
theorem Fun.binds {x qual : Str} {st : Stmt} {f : Addr} {fd : FuncData} {ps : List Str} (F : Fun K x qual st f fd)
  (h : ∀ (kV doc pm : Value) (an : Option Addr) (zq ct : Value) (us : List Value), us.length = ps.length → bindArgs (fnOf x qual (g_2 st) (d_3 st) (b_2 st) .none kV doc pm an zq ct) ⟨us, []⟩ = pure (ps.zip us)) : Binds K fd ps [] := by
 obtain ⟨oc, od, kV, doc, pm, an, zq, ct, osl, rfl, lk, hcd⟩ := F.ex
 exact .all (h kV doc pm an zq ct)
theorem ba_4 {x qual : Str} {st : Stmt} {f : Addr} {oc : Value} {od an : Option Addr} {osl : Array (Option Value)} {kV doc pm zq ct : Value} (l : K.lookup f = some ⟨oc, od, .func (fnOf x qual (g_2 st) (d_3 st) (b_2 st) .none kV doc pm an zq ct), osl⟩)
  (c : codeIn K zq qual = true) (k : keepIn K (.ref f) = true) : Fun K x qual st f (fnOf x qual (g_2 st) (d_3 st) (b_2 st) .none kV doc pm an zq ct) := ⟨⟨oc, od, kV, doc, pm, an, zq, ct, osl, rfl, l, c⟩, k⟩
end
section
variable {X : Cx}
end
def Same (H H' : Hp) : Prop := ∀ b o, H b = some o → H' b = some o
theorem Same.refl (H : Hp) : Same H H := fun _ _ h => h
theorem Same.trans {H H1 H2 : Hp} (a : Same H H1) (b : Same H1 H2) : Same H H2 := fun c o h => b c o (a c o h)
theorem Same.free {H H' : Hp} (e : Same H H') {l : Addr} (h : H' l = Option.none) : H l = Option.none := by
 cases q : H l with
 | none => rfl
 | some o =>
  rw [e l o q] at h
  cases h
theorem Same.seq {K : Frag} {H H' : Hp} {a : Addr} {xs : List V} (e : Same H H') (h : SqL K H a xs) : SqL K H' a xs := by
 rcases h with (h | ⟨o, h⟩) | h
 ·exact .inl (.inl (e _ _ h))
 ·exact .inl (.inr ⟨o, e _ _ h⟩)
 ·exact .inr h
end L2
namespace L3
open PySem PySem.Spec PyProof.Rows L2
variable {K : Frag} {fd : FuncData} {mg : Str → Option Value} {P : Program} {vs : List V} {us : List Value} {base : Heap} {H : Hp} {X : Cx} {pos : Pos} {v : V}
abbrev Sg := L2.St
inductive D where
 | non | bl (b : Bool) | int (i : Int) | str (x : Str) | lst (ds : List D) | tup (ds : List D) | dic (kvs : List (Key × D))
 | exn (c : Str) (ns : List Str) (vs : List D) | obj (c : Str) (ns : List Str) (vs : List D)
structure Xn where
 c : Str
 ns : List Str
 vs : List D
inductive R (α : Type) where
 | ok (a : α) | ex (x : Xn) | no
namespace R
def bind {α β : Type} (r : R α) (k : α → R β) : R β := match r with
 | .ok a => k a
 | .ex x => .ex x
 | .no => .no
@[simp] theorem bind_ok {α β : Type} (a : α) (k : α → R β) : (R.ok a).bind k = k a := rfl
@[simp] theorem bind_ex {α β : Type} (x : Xn) (k : α → R β) : (R.ex x).bind k = .ex x := rfl
@[simp] theorem bind_no {α β : Type} (k : α → R β) : (R.no).bind k = .no := rfl
end R
inductive Tn where
 | sh (d : D) | lst (ts : List Tn) | tup (ts : List Tn) | dic (zn : List (Key × Tn)) | obj (c : Str) (ns : List Str) (ts : List Tn)
mutual
def Tn.d : Tn → D
 | .sh d => d
 | .lst ts => .lst (Tn.ds ts)
 | .tup ts => .tup (Tn.ds ts)
 | .dic zn => .dic (Tn.ks zn)
 | .obj c ns ts => .obj c ns (Tn.ds ts)
def Tn.ds : List Tn → List D
 | [] => []
 | t :: ts => t.d :: Tn.ds ts
def Tn.ks : List (Key × Tn) → List (Key × D)
 | [] => []
 | (k, t) :: ts => (k, t.d) :: Tn.ks ts
end
def Tn.of : D → Tn
 | .lst ds => .lst (ds.map .sh)
 | .dic kvs => .dic (kvs.map fun p => (p.1, .sh p.2))
 | .obj c ns vs => .obj c ns (vs.map .sh)
 | d => .sh d
theorem Tn.ds_sh : ∀ ds : List D, Tn.ds (ds.map .sh) = ds
 | [] => rfl
 | d :: ds => by
  show (Tn.sh d).d :: Tn.ds (ds.map .sh) = _
  rw [Tn.ds_sh ds]; rfl
theorem Tn.ks_sh : ∀ kvs : List (Key × D), Tn.ks (kvs.map fun p => (p.1, Tn.sh p.2)) = kvs
 | [] => rfl
 | (k, d) :: kvs => by
  show (k, (Tn.sh d).d) :: Tn.ks (kvs.map fun p => (p.1, Tn.sh p.2)) = _
  rw [Tn.ks_sh kvs]; rfl
theorem Tn.ks_fst : ∀ zn : List (Key × Tn), (Tn.ks zn).map (·.1) = zn.map (·.1)
 | [] => rfl
 | (k, t) :: zn => by show k :: (Tn.ks zn).map (·.1) = _; rw [Tn.ks_fst zn]; rfl
theorem Tn.ks_snd : ∀ zn : List (Key × Tn), (Tn.ks zn).map (·.2) = Tn.ds (zn.map (·.2))
 | [] => rfl
 | (k, t) :: zn => by show t.d :: (Tn.ks zn).map (·.2) = _; rw [Tn.ks_snd zn]; rfl
theorem Tn.of_d (d : D) : (Tn.of d).d = d := by
 cases d with
 | lst ds => show D.lst (Tn.ds (ds.map .sh)) = _; rw [Tn.ds_sh]
 | dic kvs => show D.dic (Tn.ks (kvs.map fun p => (p.1, .sh p.2))) = _; rw [Tn.ks_sh]
 | obj c ns vs => show D.obj c ns (Tn.ds (vs.map .sh)) = _; rw [Tn.ds_sh]
 | _ => rfl
inductive W where
 | sh (d : D) | ow (d : D) | tr (t : Tn)
def W.d : W → D
 | .sh d => d
 | .ow d => d
 | .tr t => t.d
@[simp] theorem W.d_sh (d : D) : (W.sh d).d = d := rfl
@[simp] theorem W.d_ow (d : D) : (W.ow d).d = d := rfl
@[simp] theorem W.d_tr (t : Tn) : (W.tr t).d = t.d := rfl
def ClsAt (K : Frag) (c : Str) (C : Addr) : Prop := nsIn K mainGlobals c = some (some (.ref C))
def XO (a C : Addr) (dx : Option Addr) : HO := .ext fun h => ∃ us sl, h.get? a = some ⟨.ref C, dx, .fields us, sl⟩
mutual
inductive Has (K : Frag) (G : Hp) : V → D → Prop where
 | non : Has K G .non .non
 | bl (b : Bool) : Has K G (.bl b) (.bl b)
 | int (i : Int) : Has K G (.int i) (.int i)
 | str (x : Str) : Has K G (.str x) (.str x)
 | lst {a : Addr} {vs : List V} {ds : List D} (h : SqL K G a vs) (r : HasL K G vs ds) : Has K G (.ref a) (.lst ds)
 | tup {a : Addr} {vs : List V} {ds : List D} (h : SqT K G a vs) (r : HasL K G vs ds) : Has K G (.ref a) (.tup ds)
 | exn0 {a C : Addr} {c : Str} (hc : ClsAt K c C) (h : G a = some (XO a C none)) : Has K G (.ref a) (.exn c [] [])
 | exn1 {a C d : Addr} {c : Str} {ns : List Str} {us : List V} {vs : List D} (hc : ClsAt K c C) (h : G a = some (XO a C (some d))) (hd : G d = some (.xd (ns.zip us))) (hl : ns.length = us.length) (r : HasL K G us vs) : Has K G (.ref a) (.exn c ns vs)
 | dic {a : Addr} {kvs : List (Key × V)} {kds : List (Key × D)} (h : Rd G a (.dK kvs)) (hk : kvs.map (·.1) = kds.map (·.1)) (r : HasL K G (kvs.map (·.2)) (kds.map (·.2))) : Has K G (.ref a) (.dic kds)
 | obj {a C dx : Addr} {c : Str} {ns : List Str} {us : List V} {vs : List D} (hc : ClsAt K c C) (h : G a = some (.ins C dx (ns.zip us))) (hl : ns.length = us.length) (r : HasL K G us vs) : Has K G (.ref a) (.obj c ns vs)
inductive HasL (K : Frag) (G : Hp) : List V → List D → Prop where
 | nil : HasL K G [] []
 | cons {v : V} {d : D} {vs : List V} {ds : List D} (h : Has K G v d) (r : HasL K G vs ds) : HasL K G (v :: vs) (d :: ds)
end
abbrev AS := Addr → Prop
mutual
inductive Ow (K : Frag) (G H : Hp) : V → Tn → AS → Prop where
 | sh {v : V} {d : D} {S : AS} (h : Has K G v d) : Ow K G H v (.sh d) S
 | lst {a : Addr} {vs : List V} {ts : List Tn} {S S1 : AS} (h : H a = some (.lst vs)) (ha : S a) (sub : ∀ b, S1 b → S b ∧ b ≠ a) (r : OwL K G H vs ts S1) : Ow K G H (.ref a) (.lst ts) S
 | tup {a : Addr} {vs : List V} {ts : List Tn} {S S1 : AS} (h : H a = some (.tup vs)) (ha : S a) (sub : ∀ b, S1 b → S b ∧ b ≠ a) (r : OwL K G H vs ts S1) : Ow K G H (.ref a) (.tup ts) S
 | dic {a : Addr} {kvs : List (Key × V)} {zn : List (Key × Tn)} {S S1 : AS} (h : H a = some (.dK kvs)) (hk : kvs.map (·.1) = zn.map (·.1)) (ha : S a) (sub : ∀ b, S1 b → S b ∧ b ≠ a) (r : OwL K G H (kvs.map (·.2)) (zn.map (·.2)) S1) : Ow K G H (.ref a) (.dic zn) S
 | obj {a C dx : Addr} {c : Str} {ns : List Str} {us : List V} {ts : List Tn} {S S1 : AS} (hc : ClsAt K c C) (h : H a = some (.ins C dx (ns.zip us))) (hl : ns.length = us.length) (ha : S a) (sub : ∀ b, S1 b → S b ∧ b ≠ a) (r : OwL K G H us ts S1) : Ow K G H (.ref a) (.obj c ns ts) S
inductive OwL (K : Frag) (G H : Hp) : List V → List Tn → AS → Prop where
 | nil {S : AS} : OwL K G H [] [] S
 | cons {v : V} {t : Tn} {vs : List V} {ts : List Tn} {S S1 S2 : AS} (h : Ow K G H v t S1) (r : OwL K G H vs ts S2) (dj : ∀ b, S1 b → S2 b → False) (s1 : ∀ b, S1 b → S b) (s2 : ∀ b, S2 b → S b) : OwL K G H (v :: vs) (t :: ts) S
end
theorem Same.rdD {H H' : Hp} {a : Addr} {u : HO} (e : Same H H') (h : Rd H a u) : Rd H' a u := by
 rcases h with h | ⟨o, h⟩
 ·exact .inl (e _ _ h)
 ·exact .inr ⟨o, e _ _ h⟩
theorem Same.tupS {H H' : Hp} {a : Addr} {xs : List V} (e : Same H H') (h : SqT K H a xs) : SqT K H' a xs := by
 rcases h with (h | ⟨o, h⟩) | h
 ·exact .inl (.inl (e _ _ h))
 ·exact .inl (.inr ⟨o, e _ _ h⟩)
 ·exact .inr h
mutual
theorem Has.mono {G G' : Hp} (e : Same G G') : ∀ {v : V} {d : D}, Has K G v d → Has K G' v d
 | _, _, .non => .non
 | _, _, .bl b => .bl b
 | _, _, .int i => .int i
 | _, _, .str x => .str x
 | _, _, .lst h r => .lst (e.seq h) (HasL.mono e r)
 | _, _, .tup h r => .tup (Same.tupS e h) (HasL.mono e r)
 | _, _, .exn0 hc h => .exn0 hc (e _ _ h)
 | _, _, .exn1 hc h hd hl r => .exn1 hc (e _ _ h) (e _ _ hd) hl (HasL.mono e r)
 | _, _, .dic h hk r => .dic (Same.rdD e h) hk (HasL.mono e r)
 | _, _, .obj hc h hl r => .obj hc (e _ _ h) hl (HasL.mono e r)
theorem HasL.mono {G G' : Hp} (e : Same G G') : ∀ {vs : List V} {ds : List D}, HasL K G vs ds → HasL K G' vs ds
 | _, _, .nil => .nil
 | _, _, .cons h r => .cons (Has.mono e h) (HasL.mono e r)
end
theorem HasL.length {G : Hp} : ∀ {vs : List V} {ds : List D}, HasL K G vs ds → vs.length = ds.length
 | _, _, .nil => rfl
 | _, _, .cons _ r => by rw [List.length_cons, List.length_cons, r.length]
theorem HasL.append {G : Hp} : ∀ {vs ws : List V} {ds es : List D}, HasL K G vs ds → HasL K G ws es → HasL K G (vs ++ ws) (ds ++ es)
 | _, _, _, _, .nil, s => s
 | _, _, _, _, .cons h r, s => .cons h (r.append s)
theorem HasL.get {G : Hp} : ∀ {vs : List V} {ds : List D} {i : Nat} {d : D}, HasL K G vs ds → ds[i]? = some d → ∃ v, vs[i]? = some v ∧ Has K G v d
 | _, _, _, _, .nil, e => by simp at e
 | _, _, 0, _, .cons h _, e => by simp at e; subst e; exact ⟨_, rfl, h⟩
 | _, _, i + 1, d, .cons _ r, e => by
  obtain ⟨u, h1, h2⟩ := HasL.get (i := i) (d := d) r (by simpa using e)
  exact ⟨u, by simpa using h1, h2⟩
theorem HasL.take {G : Hp} : ∀ {vs : List V} {ds : List D} (n : Nat), HasL K G vs ds → HasL K G (vs.take n) (ds.take n)
 | _, _, 0, _ => .nil
 | _, _, _ + 1, .nil => .nil
 | _, _, n + 1, .cons h r => .cons h (HasL.take n r)
theorem HasL.set {G : Hp} {d : D} (h : Has K G v d) : ∀ {vs : List V} {ds : List D} (i : Nat), HasL K G vs ds → HasL K G (vs.set i v) (ds.set i d)
 | _, _, _, .nil => .nil
 | _, _, 0, .cons _ r => .cons h r
 | _, _, i + 1, .cons q r => .cons q (HasL.set h i r)
mutual
theorem Ow.mono {G G' H H' : Hp} (e : Same G G') : ∀ {v : V} {d : Tn} {S S' : AS}, Ow K G H v d S → (∀ b o, S b → H b = some o → H' b = some o) → (∀ b, S b → S' b) → Ow K G' H' v d S'
 | _, _, _, _, .sh h, _, _ => .sh (h.mono e)
 | _, _, _, _, .lst h ha sub r, f, i => .lst (f _ _ ha h) (i _ ha) (fun b hb => ⟨i b (sub b hb).1, (sub b hb).2⟩) (OwL.mono e r (fun b o hb q => f b o (sub b hb).1 q) fun _ q => q)
 | _, _, _, _, .tup h ha sub r, f, i => .tup (f _ _ ha h) (i _ ha) (fun b hb => ⟨i b (sub b hb).1, (sub b hb).2⟩) (OwL.mono e r (fun b o hb q => f b o (sub b hb).1 q) fun _ q => q)
 | _, _, _, _, .dic h hk ha sub r, f, i => .dic (f _ _ ha h) hk (i _ ha) (fun b hb => ⟨i b (sub b hb).1, (sub b hb).2⟩) (OwL.mono e r (fun b o hb q => f b o (sub b hb).1 q) fun _ q => q)
 | _, _, _, _, .obj hc h hl ha sub r, f, i => .obj hc (f _ _ ha h) hl (i _ ha) (fun b hb => ⟨i b (sub b hb).1, (sub b hb).2⟩) (OwL.mono e r (fun b o hb q => f b o (sub b hb).1 q) fun _ q => q)
theorem OwL.mono {G G' H H' : Hp} (e : Same G G') : ∀ {vs : List V} {ds : List Tn} {S S' : AS}, OwL K G H vs ds S → (∀ b o, S b → H b = some o → H' b = some o) → (∀ b, S b → S' b) → OwL K G' H' vs ds S'
 | _, _, _, _, .nil, _, _ => .nil
 | _, _, _, _, .cons h r dj s1 s2, f, i => .cons (Ow.mono e h (fun b o hb q => f b o (s1 b hb) q) fun _ q => q) (OwL.mono e r (fun b o hb q => f b o (s2 b hb) q) fun _ q => q) dj (fun b q => i b (s1 b q)) fun b q => i b (s2 b q)
end
mutual
theorem Ow.has {G G' H : Hp} (e : Same G G') : ∀ {v : V} {d : Tn} {S : AS}, Ow K G H v d S → (∀ b o, S b → H b = some o → G' b = some o) → Has K G' v d.d
 | _, _, _, .sh h, _ => h.mono e
 | _, _, _, .lst h ha sub r, f => .lst (SqL.of (f _ _ ha h)) (OwL.has e r fun b o hb q => f b o (sub b hb).1 q)
 | _, _, _, .tup h ha sub r, f => .tup (SqT.of (f _ _ ha h)) (OwL.has e r fun b o hb q => f b o (sub b hb).1 q)
 | _, _, _, .dic h hk ha sub r, f => .dic (.inl (f _ _ ha h)) (by rw [Tn.ks_fst]; exact hk) (by rw [Tn.ks_snd]; exact OwL.has e r fun b o hb q => f b o (sub b hb).1 q)
 | _, _, _, .obj hc h hl ha sub r, f => .obj hc (f _ _ ha h) hl (OwL.has e r fun b o hb q => f b o (sub b hb).1 q)
theorem OwL.has {G G' H : Hp} (e : Same G G') : ∀ {vs : List V} {ds : List Tn} {S : AS}, OwL K G H vs ds S → (∀ b o, S b → H b = some o → G' b = some o) → HasL K G' vs (Tn.ds ds)
 | _, _, _, .nil, _ => .nil
 | _, _, _, .cons h r dj s1 s2, f => .cons (Ow.has e h fun b o hb q => f b o (s1 b hb) q) (OwL.has e r fun b o hb q => f b o (s2 b hb) q)
end
theorem OwL.of {G H : Hp} : ∀ {vs : List V} {ds : List D} {S : AS}, HasL K G vs ds → OwL K G H vs (ds.map .sh) S
 | _, _, _, .nil => .nil
 | _, _, _, .cons h r => .cons (S1 := fun _ => False) (S2 := fun _ => False) (.sh h) (OwL.of r) (fun _ z _ => z) (fun _ z => z.elim) fun _ z => z.elim
theorem OwL.off {G H : Hp} : ∀ {vs : List V} {ds : List D} {S : AS}, OwL K G H vs (ds.map .sh) S → HasL K G vs ds
 | _, [], _, h => by cases h; exact .nil
 | _, d :: ds, _, h => by
  cases h with
  | cons h r dj s1 s2 =>
   cases h with
   | sh h => exact .cons h (OwL.off r)
theorem Ow.list {G H : Hp} {a : Addr} {ds : List D} {S : AS} (h : H a = some (.lst vs)) (ha : S a) (r : HasL K G vs ds) : Ow K G H (.ref a) (Tn.of (.lst ds)) S :=
 .lst (S1 := fun _ => False) h ha (fun _ z => z.elim) (.of r)
theorem Ow.list_of {G H : Hp} {ds : List D} {S : AS} (t : Ow K G H v (Tn.of (.lst ds)) S) : ∃ a vs, v = .ref a ∧ S a ∧ H a = some (.lst vs) ∧ HasL K G vs ds := by
 cases t with
 | lst h ha sub r => exact ⟨_, _, rfl, ha, h, r.off⟩
theorem ci_4 (kds : List (Key × D)) : (kds.map fun p => (p.1, Tn.sh p.2)).map (·.2) = (kds.map (·.2)).map Tn.sh := by
 rw [List.map_map, List.map_map]; rfl
theorem bv_8 (kds : List (Key × D)) : (kds.map fun p => (p.1, Tn.sh p.2)).map (·.1) = kds.map (·.1) := by
 rw [List.map_map]; rfl
theorem Ow.dict {G H : Hp} {a : Addr} {kvs : List (Key × V)} {kds : List (Key × D)} {S : AS} (h : H a = some (.dK kvs)) (hk : kvs.map (·.1) = kds.map (·.1)) (ha : S a) (r : HasL K G (kvs.map (·.2)) (kds.map (·.2))) : Ow K G H (.ref a) (Tn.of (.dic kds)) S :=
 .dic (S1 := fun _ => False) h (by rw [bv_8]; exact hk) ha (fun _ z => z.elim) (by rw [ci_4]; exact .of r)
theorem Ow.dict_of {G H : Hp} {kds : List (Key × D)} {S : AS} (t : Ow K G H v (Tn.of (.dic kds)) S) : ∃ a kvs, v = .ref a ∧ S a ∧ H a = some (.dK kvs) ∧ kvs.map (·.1) = kds.map (·.1) ∧ HasL K G (kvs.map (·.2)) (kds.map (·.2)) := by
 generalize e : Tn.of (.dic kds) = t' at t
 cases t with
 | dic h hk ha sub r =>
  injection e with e
  subst e
  rw [ci_4] at r
  rw [bv_8] at hk
  exact ⟨_, _, rfl, ha, h, hk, r.off⟩
 | _ => cases e
structure Step (G H G' H' : Hp) : Prop where
 hh : Same H H'
 gh : Same G' H'
 gg : Same G G'
 nw : ∀ b, G b = none → H b ≠ none → G' b = none
theorem Step.refl {G H : Hp} (h : Same G H) : Step G H G H := ⟨Same.refl _, h, Same.refl _, fun _ e _ => e⟩
theorem Step.trans {G H G1 H1 G2 H2 : Hp} (a : Step G H G1 H1) (b : Step G1 H1 G2 H2) : Step G H G2 H2 :=
 ⟨a.hh.trans b.hh, b.gh, a.gg.trans b.gg, fun c e n => b.nw c (a.nw c e n) fun z => n (a.hh.free z)⟩
theorem i_1 {p : Addr} (h : H p = none) (o : HO) : Same H (upd H p o) := fun b u q => by rw [a_8 (b_9 q h)]; exact q
theorem ci_5 {G H : Hp} (h : Same G H) (p : Addr) (o : HO) : Same (upd G p o) (upd H p o) := fun b u q => by
 by_cases e : b = p
 ·subst e; rw [b_1] at q ⊢; exact q
 ·rw [a_8 e] at q ⊢; exact h b u q
theorem Step.new {G H : Hp} (h : Same G H) {p : Addr} (e : H p = none) (o : HO) : Step G H (L2.upd G p o) (L2.upd H p o) :=
 ⟨i_1 e o, ci_5 h p o, i_1 (h.free e) o, fun b n z => by
  by_cases q : b = p
  ·subst q; exact absurd e z
  ·rw [a_8 q]; exact n⟩
theorem Step.own {G H : Hp} (h : Same G H) {p : Addr} (e : H p = none) (o : HO) : Step G H G (L2.upd H p o) :=
 ⟨i_1 e o, h.trans (i_1 e o), Same.refl _, fun _ n _ => n⟩
open Classical in
def m_2 (G H : Hp) (S : AS) : Hp := fun b => if S b then H b else G b
def WP (K : Frag) (G H : Hp) (w : W) (Q : VK) : Prop := match w with
 | .sh d => ∀ v G' H', Step G H G' H' → Has K G' v d → Q v H'
 | .ow d => ∀ v S G' H', Step G H G' H' → (∀ a, S a → H a = none ∧ G' a = none ∧ H' a ≠ none) → Ow K G' H' v (Tn.of d) S → Q v H'
 | .tr t => ∀ v S G' H', Step G H G' H' → (∀ a, S a → H a = none ∧ G' a = none ∧ H' a ≠ none) → Ow K G' H' v t S → Q v H'
structure EXT where
 p : Xn → Hp → Hp → Prop
 mono : ∀ x G H G' H', Step G H G' H' → p x G H → p x G' H'
def EX0 : EXT := ⟨fun _ _ _ => False, fun _ _ _ _ _ _ h => h⟩
abbrev EXS := Sg → EXT
def m_9 : EXS := fun _ => EX0
def Out (K : Frag) (EX : EXT) (G H : Hp) (r : R W) (Q : VK) : Prop := match r with
 | .ok w => WP K G H w Q
 | .ex x => EX.p x G H
 | .no => False
section
variable {K : Frag} {EX : EXT} {G H G' H' : Hp} {Q Q' : VK} {w : W}
theorem WP.mono (s : Step G H G' H') (h : WP K G H w Q) : WP K G' H' w Q := by
 cases w with
 | sh d => exact fun v G2 H2 s2 r => h v G2 H2 (s.trans s2) r
 | ow d => exact fun v S G2 H2 s2 fr t => h v S G2 H2 (s.trans s2) (fun a ha => ⟨s.hh.free (fr a ha).1, (fr a ha).2⟩) t
 | tr d => exact fun v S G2 H2 s2 fr t => h v S G2 H2 (s.trans s2) (fun a ha => ⟨s.hh.free (fr a ha).1, (fr a ha).2⟩) t
theorem Out.mono {r : R W} (s : Step G H G' H') (h : Out K EX G H r Q) : Out K EX G' H' r Q := by
 cases r with
 | ok w => exact WP.mono s h
 | ex x => exact EX.mono _ _ _ _ _ s h
 | no => exact h
theorem WP.join {t : Tn} {S : AS} (h : ∀ v G' H', Step G H G' H' → Has K G' v t.d → Q v H') (s : Step G H G' H') (fr : ∀ a, S a → H a = none ∧ G' a = none ∧ H' a ≠ none) (t : Ow K G' H' v t S) : Q v H' := by
 have sg : Same G' (m_2 G' H' S) := fun b o q => by
  unfold m_2
  split
  ·rename_i hb; rw [(fr b hb).2.1] at q; cases q
  ·exact q
 refine h v (m_2 G' H' S) H' ⟨s.hh, fun b o q => ?_, s.gg.trans sg, fun b n z => ?_⟩ (t.has sg fun b o hb q => ?_)
 ·unfold m_2 at q
  split at q
  ·exact q
  ·exact s.gh b o q
 ·unfold m_2
  split
  ·rename_i hb; exact absurd (fr b hb).1 z
  ·exact s.nw b n z
 ·unfold m_2
  rw [if_pos hb]
  exact q
theorem WP.intro (h : ∀ v G' H', Step G H G' H' → Has K G' v w.d → Q v H') : WP K G H w Q := by
 cases w with
 | sh d => exact h
 | ow d => exact fun v S G' H' s fr t => WP.join (t := Tn.of d) (by rw [Tn.of_d]; exact h) s fr t
 | tr d => exact fun v S G' H' s fr t => WP.join h s fr t
theorem WP.sh (h : WP K G H (.sh w.d) Q) : WP K G H w Q := WP.intro h
theorem WP.use {d : D} (h : WP K G H (.sh d) Q) (s : Same G H) (r : Has K G v d) : Q v H := h v G H (Step.refl s) r
end
inductive ExcAt (K : Frag) (G : Hp) : Value → Option Addr → Xn → Prop where
 | bare {C : Addr} {c : Str} (hc : ClsAt K c C) : ExcAt K G (.ref C) none ⟨c, [], []⟩
 | with_ {C d : Addr} {c : Str} {ns : List Str} {us : List V} {vs : List D} (hc : ClsAt K c C) (hd : G d = some (.xd (ns.zip us))) (hl : ns.length = us.length) (r : HasL K G us vs) : ExcAt K G (.ref C) (some d) ⟨c, ns, vs⟩
def EXof (K : Frag) (E : XK) : EXT := ⟨fun x G H => ∀ cls dx G' H', Step G H G' H' → ExcAt K G' cls dx x → E cls dx H', fun _ _ _ _ _ s h cls dx G2 H2 s2 => h cls dx G2 H2 (s.trans s2)⟩
def EXE (K : Frag) (EX : EXT) : XK := fun cls dx H => ∃ x G, Same G H ∧ ExcAt K G cls dx x ∧ EX.p x G H
theorem EXE.of {E : XK} {cls : Value} {dx : Option Addr} (h : EXE K (EXof K E) cls dx H) : E cls dx H := by
 obtain ⟨x, G, s, e, q⟩ := h
 exact q cls dx G H (Step.refl s) e
theorem EXof.in {EX : EXT} {G H : Hp} {x : Xn} (q : EX.p x G H) : (EXof K (EXE K EX)).p x G H := fun _ _ G' H' st e => ⟨x, G', st.gh, e, EX.mono _ _ _ _ _ st q⟩
abbrev DE := List (Option D)
abbrev FE := DE → R W
abbrev FT := DE → R Bool
abbrev FA := DE → R (List D)
structure HasS (K : Frag) (G : Hp) (σ : Sg) (δ : DE) : Prop where
 len : σ.length = δ.length
 get : ∀ (i : Nat) (d : D), δ[i]? = some (some d) → ∃ v, σ[i]? = some (some v) ∧ Has K G v d
theorem HasS.mono {G G' : Hp} {σ : Sg} {δ : DE} (e : Same G G') (h : HasS K G σ δ) : HasS K G' σ δ := ⟨h.len, fun i d q => by
 obtain ⟨v, e1, r⟩ := h.get i d q
 exact ⟨v, e1, r.mono e⟩⟩
def tD (K : Frag) (EX : EXS) (f : FE) : TE := fun σ H Q => ∃ G δ, Same G H ∧ HasS K G σ δ ∧ Out K (EX σ) G H (f δ) Q
def tDt (K : Frag) (EX : EXS) (f : FT) : TT := fun σ H Q => ∃ G δ, Same G H ∧ HasS K G σ δ ∧ match f δ with
 | .ok b => ∀ G' H', Step G H G' H' → Q b H'
 | .ex x => (EX σ).p x G H
 | .no => False
def tDa (K : Frag) (EX : EXS) (f : FA) : TA := fun σ H Q => ∃ G δ, Same G H ∧ HasS K G σ δ ∧ match f δ with
 | .ok ds => ∀ vs G' H', Step G H G' H' → HasL K G' vs ds → Q vs H'
 | .ex x => (EX σ).p x G H
 | .no => False
abbrev ED (X : Cx) (EX : EXS) (e : Expr) (f : FE) : Prop := PE X e (tD X.K EX f)
abbrev TD (X : Cx) (EX : EXS) (e : Expr) (f : FT) : Prop := PT X e (tDt X.K EX f)
abbrev AD (X : Cx) (EX : EXS) (es : List Expr) (f : FA) : Prop := PA X es (tDa X.K EX f)
theorem PE.imp {e : Expr} {t t' : TE} (h : PE X e t) (i : ∀ σ H Q, t' σ H Q → t σ H Q) : PE X e t' := fun zd s σ H Q I q => h zd s σ H Q I (i σ H Q q)
theorem PT.imp {e : Expr} {t t' : TT} (h : PT X e t) (i : ∀ σ H Q, t' σ H Q → t σ H Q) : PT X e t' := fun zd s σ H Q I q => h zd s σ H Q I (i σ H Q q)
theorem PW.imp {e : Expr} {t t' : TT} (h : PW X e t) (i : ∀ σ H Q, t' σ H Q → t σ H Q) : PW X e t' := fun wh zd s σ H Q I q => h wh zd s σ H Q I (i σ H Q q)
theorem PA.imp {e : List Expr} {t t' : TA} (h : PA X e t) (i : ∀ σ H Q, t' σ H Q → t σ H Q) : PA X e t' := fun pos zd s σ H Q I q => h pos zd s σ H Q I (i σ H Q q)
theorem PS.imp {e : Stmt} {t t' : TS} (h : PS X e t) (i : ∀ D σ H, t' D σ H → t D σ H) : PS X e t' := fun zd s σ H D I q => h zd s σ H D I (i D σ H q)
theorem PSs.imp {e : List Stmt} {t t' : TS} (h : PSs X e t) (i : ∀ D σ H, t' D σ H → t D σ H) : PSs X e t' := fun zd s σ H D I q => h zd s σ H D I (i D σ H q)
section
variable {K : Frag} {EX : EXS} {G H : Hp} {σ : Sg} {δ : DE} {Q : VK}
theorem tD.seq {f : FE} {k : W → R W} {P : VK} (g : Same G H) (s : HasS K G σ δ) (h : Out K (EX σ) G H ((f δ).bind k) Q)
  (i : ∀ w v G' H', f δ = .ok w → Step G H G' H' → Has K G' v w.d → Out K (EX σ) G' H' (k w) Q → P v H') : tD K EX f σ H P := by
 refine ⟨G, δ, g, s, ?_⟩
 cases e : f δ with
 | ok w =>
  rw [e] at h
  exact WP.intro fun v G' H' st r => i w v G' H' e st r (Out.mono st h)
 | ex x => rw [e] at h; exact h
 | no => rw [e] at h; exact h
theorem tDt.seq {f : FT} {k : Bool → R W} {P : Bool → Hp → Prop} (g : Same G H) (s : HasS K G σ δ) (h : Out K (EX σ) G H ((f δ).bind k) Q)
  (i : ∀ b G' H', f δ = .ok b → Step G H G' H' → Out K (EX σ) G' H' (k b) Q → P b H') : tDt K EX f σ H P := by
 refine ⟨G, δ, g, s, ?_⟩
 cases e : f δ with
 | ok w =>
  rw [e] at h
  exact fun G' H' st => i w G' H' e st (Out.mono st h)
 | ex x => rw [e] at h; exact h
 | no => rw [e] at h; exact h
theorem tDa.seq {f : FA} {k : List D → R W} {P : List V → Hp → Prop} (g : Same G H) (s : HasS K G σ δ) (h : Out K (EX σ) G H ((f δ).bind k) Q)
  (i : ∀ ds vs G' H', f δ = .ok ds → Step G H G' H' → HasL K G' vs ds → Out K (EX σ) G' H' (k ds) Q → P vs H') : tDa K EX f σ H P := by
 refine ⟨G, δ, g, s, ?_⟩
 cases e : f δ with
 | ok w =>
  rw [e] at h
  exact fun vs G' H' st r => i w vs G' H' e st r (Out.mono st h)
 | ex x => rw [e] at h; exact h
 | no => rw [e] at h; exact h
end
theorem y_9 {EX : EXT} {G H : Hp} {Q : VK} {ds : List D} (o : Out K EX G H (.ok (.ow (.lst ds))) Q) (g : Same G H) (r : HasL K G vs ds) : ∀ p, H p = none → Q (.ref p) (upd H p (.lst vs)) :=
 fun p hp => o (.ref p) (fun b => b = p) G _ (Step.own g hp _) (fun a e => by subst e; exact ⟨hp, g.free hp, by rw [b_1]; simp⟩) (.list b_1 rfl r)
end L3
namespace L3
open PySem PySem.Spec PyProof.Rows L2
variable {K : Frag} {fd : FuncData} {mg : Str → Option Value} {P : Program} {vs : List V} {us : List Value} {base : Heap} {H : Hp} {X : Cx} {pos : Pos} {v : V}
structure Tr (h : Heap) (a C : Addr) (dx : Option Addr) (fl : Value) (T : Addr) : Prop where
 ob : ∃ o us, h.get? a = some o ∧ o.cls = .ref C ∧ o.dict = dx ∧ o.data = .fields us ∧ us[1]? = some (.ref T)
 ne : T ≠ a
 tb : ∃ o us, h.get? T = some o ∧ o.data = .fields us ∧ us[3]? = some fl
structure KeepX (xs fr : List Addr) (h h' : Heap) : Prop where
 same : ∀ b o, b ∉ xs → b ∉ fr → h.get? b = some o → h'.get? b = some o
 slot : ∀ b o, b ∉ xs → h.get? b = some o → ∃ sl, h'.get? b = some { o with slots := sl }
theorem KeepX.trans {xs ys fr : List Addr} {h1 h2 h3 : Heap} (a : KeepX xs fr h1 h2) (b : KeepX ys fr h2 h3) : KeepX (xs ++ ys) fr h1 h3 :=
 ⟨fun c o n m e => b.same c o (fun z => n (List.mem_append_right _ z)) m (a.same c o (fun z => n (List.mem_append_left _ z)) m e), fun c o n e => by
  obtain ⟨sl, e1⟩ := a.slot c o (fun z => n (List.mem_append_left _ z)) e
  obtain ⟨sl', e2⟩ := b.slot c _ (fun z => n (List.mem_append_right _ z)) e1
  exact ⟨sl', e2⟩⟩
theorem KeepX.of_same {xs fr : List Addr} {h h' : Heap} (k : ∀ b o, b ∉ xs → h.get? b = some o → h'.get? b = some o) : KeepX xs fr h h' :=
 ⟨fun b o n _ e => k b o n e, fun b o n e => ⟨o.slots, k b o n e⟩⟩
theorem ci_6 (o : Obj) (f : Array Value → Array Value) : (o.mapFields f).dict = o.dict := by
 obtain ⟨c, d, dt, sl⟩ := o
 cases dt <;> rfl
section
variable {M : Model} {A : Around} {E : Value → Shared → Prop} {s : Shared} {env : Env} {outer : List Env} {base : Heap} {L a C : Addr} {dx : Option Addr} {Q : Unit → Shared → Prop}
theorem bv_9 {o : Obj} {us : Array Value} {head : Value} {b : Bool} (hfr : A.frames = some (env :: outer)) (hl : s.heap.FunFrames base (env :: outer)) (hf : env.frame = some L)
  (he : s.heap.get? a = some o) (hc : o.cls = .ref C) (hx : o.dict = dx) (hd : o.data = .fields us) (hz : 1 < us.size)
  (h : ∀ h' T, s.heap.objs.size ≤ T → KeepX [a] (frs (env :: outer)) s.heap h' → Tr h' a C dx (rawInt L) T → Q () { s with heap := h' }) :
  wpAny M A (do let fv ← frameOf env; let pl ← entryPlaceOf L b; let en ← EntryCells.newEntry head fv .none (rawInt L) .none pl; setField (.ref a) 1 en) Q E s := by
 have nfr : a ∉ frs (env :: outer) := fun hm => by
  obtain ⟨_, u, hu, hn⟩ := hl.mem hm
  rw [he] at hu
  cases hu
  exact hn us hd
 refine wpAny_bind (wpAny_frameOf_fun hfr hl hf fun h1 so => ?_)
 refine wpAny_bind (wpAny_entryPlaceOf fun pl hpl => ?_)
 unfold EntryCells.newEntry newFields
 refine wpAny_bind (wpAny_newObj_type ?_ (hpl.sizeOk5 _ _ _ _ _))
 have e1 : h1.get? a = some o := (so.2.1 a nfr).trans he
 generalize hT : ({ cls := .type "traceback", dict := none, data := .fields ([head, .ref L, .none, rawInt L, .none] ++ (if pl.isEmpty then List.replicate 6 Value.none else pl)).toArray } : Obj) = oT
 have eT : oT.data = .fields ([head, .ref L, .none, rawInt L, .none] ++ (if pl.isEmpty then List.replicate 6 Value.none else pl)).toArray := by rw [← hT]
 have e2 : (h1.push oT).get? a = some o := Heap.get?_push_of_some oT e1
 refine wpAny_setField e2 hd hz ?_
 have sz : h1.objs.size = s.heap.objs.size := so.1
 have ltA : a < s.heap.objs.size := Heap.lt_size he
 have neT : h1.objs.size ≠ a := fun z => absurd ltA (by rw [← z, sz]; exact Nat.lt_irrefl _)
 have d3 := Obj.data_mapFields hd (·.setIfInBounds 1 (Value.ref h1.objs.size))
 refine h _ h1.objs.size (by rw [sz]; exact Nat.le_refl _) ⟨fun b u n m e => ?_, fun b u n e => ?_⟩ ⟨⟨_, _, Heap.get?_update_self _ e2 (Obj.isFreed_of_fields d3), (Obj.cls_mapFields _ _).trans hc, (ci_6 _ _).trans hx, d3, ?_⟩, neT, ⟨oT, _, ?_, eT, ?_⟩⟩
 ·have nb : a ≠ b := fun z => n (by simp [z])
  rw [Heap.get?_update_other _ _ nb]
  exact Heap.get?_push_of_some oT ((so.2.1 b m).trans e)
 ·have nb : a ≠ b := fun z => n (by simp [z])
  obtain ⟨sl, es⟩ := so.2.2 b u e
  exact ⟨sl, by rw [Heap.get?_update_other _ _ nb]; exact Heap.get?_push_of_some oT es⟩
 ·simp [hz]
 ·rw [Heap.get?_update_other _ _ (Ne.symm neT)]
  exact Heap.get?_push_size h1 (Obj.isFreed_of_fields eT)
 ·first | (simp; done) | (rcases hpl with rfl | ⟨_, _, _, _, _, _, _, rfl⟩ <;> simp)
theorem bq_3 {o : Obj} {us : Array Value} (hfr : A.frames = some (env :: outer)) (hl : s.heap.FunFrames base (env :: outer)) (hf : env.frame = some L)
  (he : s.heap.get? a = some o) (hc : o.cls = .ref C) (hx : o.dict = dx) (hd : o.data = .fields us) (h1 : us[1]? = some .none)
  (h : ∀ h' T, s.heap.objs.size ≤ T → KeepX [a] (frs (env :: outer)) s.heap h' → Tr h' a C dx (rawInt L) T → Q () { s with heap := h' }) : wpAny M A (noteFrame (.ref a) env) Q E s := by
 unfold noteFrame
 simp only [hf]
 refine wpAny_bind (wpAny_field he hd h1 ?_)
 rw [if_neg (by decide)]
 exact bv_9 hfr hl hf he hc hx hd (Array.getElem?_eq_some_iff.mp h1).1 h
theorem av_6 {T0 : Addr} (hfr : A.frames = some (env :: outer)) (hl : s.heap.FunFrames base (env :: outer)) (hf : env.frame = some L) (t : Tr s.heap a C dx .none T0)
  (h : ∀ h' T, s.heap.objs.size ≤ T → KeepX [a, T0] (frs (env :: outer)) s.heap h' → Tr h' a C dx (rawInt L) T → Q () { s with heap := h' }) : wpAny M A (noteFrame (.ref a) env) Q E s := by
 obtain ⟨⟨o, us, he, hc, hx, hd, h1⟩, ne, ⟨oT, ws, hT, hdT, h3⟩⟩ := t
 unfold noteFrame
 simp only [hf]
 refine wpAny_bind (wpAny_field he hd h1 ?_)
 rw [if_pos (show (Value.ref T0 != Value.none) = true from by simp)]
 refine wpAny_bind (wpAny_field hT hdT h3 ?_)
 rw [if_neg (show ¬ ((Value.none == rawInt L) = true) from by simp [rawInt])]
 refine wpAny_bind (wpAny_setField hT hdT (Array.getElem?_eq_some_iff.mp h3).1 ?_)
 have oth : ∀ b, b ≠ T0 → (s.heap.update T0 (Obj.mapFields (·.setIfInBounds 3 Value.none))).get? b = s.heap.get? b := fun b hb => Heap.get?_update_other _ _ (Ne.symm hb)
 have fz : ∀ b u, s.heap.get? b = some u → (∀ zs, u.data ≠ .fields zs) → b ≠ T0 := fun b u hb hn q => by
  subst q
  rw [hT] at hb
  cases hb
  exact hn ws hdT
 refine bv_9 (s := { s with heap := s.heap.update T0 (Obj.mapFields (·.setIfInBounds 3 Value.none)) }) hfr (hl.of_keeps fun b u hb hn => ⟨u, (oth b (fz b u hb hn)).trans hb, rfl⟩) hf ((oth a (Ne.symm ne)).trans he) hc hx hd (Array.getElem?_eq_some_iff.mp h1).1 fun h' T n k tr => h h' T ?_ ?_ tr
 ·have zz : (s.heap.update T0 (Obj.mapFields (·.setIfInBounds 3 Value.none))).objs.size = s.heap.objs.size := Heap.size_update _ _ _
  rw [← zz]
  exact n
 ·have na : ∀ b, b ∉ [a, T0] → b ∉ [a] := fun b nb z => nb (by rw [List.mem_singleton.mp z]; exact List.mem_cons_self)
  have nT : ∀ b, b ∉ [a, T0] → b ≠ T0 := fun b nb z => nb (by rw [z]; simp)
  exact ⟨fun b u nb m e => k.same b u (na b nb) m ((oth b (nT b nb)).trans e), fun b u nb e => k.slot b u (na b nb) ((oth b (nT b nb)).trans e)⟩
theorem s_4 {T : Addr} {fl : Value} (t : Tr s.heap a C dx fl T) (h : ∀ h', (∀ b o, b ∉ [T] → s.heap.get? b = some o → h'.get? b = some o) → Tr h' a C dx .none T → Q () { s with heap := h' }) : wpAny M A (setFlight (.ref a) none) Q E s := by
 obtain ⟨⟨o, us, he, hc, hx, hd, h1⟩, ne, ⟨oT, ws, hT, hdT, h3⟩⟩ := t
 have sz3 : 3 < ws.size := (Array.getElem?_eq_some_iff.mp h3).1
 unfold setFlight
 refine wpAny_bind (wpAny_field he hd h1 ?_)
 rw [if_pos (show (Value.ref T != Value.none) = true from by simp)]
 refine wpAny_setField hT hdT sz3 (h _ (fun b u n e => ?_) ⟨⟨o, us, ?_, hc, hx, hd, h1⟩, ne, ⟨_, _, Heap.get?_update_self _ hT (Obj.isFreed_of_fields (Obj.data_mapFields hdT _)), Obj.data_mapFields hdT _, ?_⟩⟩)
 ·rw [Heap.get?_update_other _ _ (fun z => n (by simp [z]))]; exact e
 ·rw [Heap.get?_update_other _ _ ne]; exact he
 ·simp [sz3]
end
def CXr (P : Program) (w : World) : CXT := fun outer H s E e s' => ∃ a C dx T H', e = .ref a ∧ s'.os = s.os ∧ AllBare s'.gens ∧ Un (frs outer) [] H H' s.heap s'.heap ∧ HOk P w H' s'.heap ∧
 Tr s'.heap a C dx .none T ∧ H' a = none ∧ H' T = none ∧ s.heap.objs.size ≤ a ∧ s.heap.objs.size ≤ T ∧ E (.ref C) dx H'
section
variable {X : Cx} {zd : List (Addr × Obj)} {σ : Sg} {H H' : Hp} {s s' : Shared}
theorem Inv.settle {ch : List Addr} {h2 : Heap} (I : Inv X zd σ H s) (I' : Inv X zd σ H' s') (n : ∀ b ∈ ch, s.heap.objs.size ≤ b ∧ H' b = none) (k : KeepX ch (frs X.stack) s'.heap h2) : Inv X zd σ H' { s' with heap := h2 } := by
 have trk : ∀ b u, H' b = some u → b ∉ ch ∧ b ∉ frs X.stack := fun b u e => ⟨fun z => (by rw [(n b z).2] at e; cases e), fun z => (by rw [I'.stkFree b z] at e; cases e)⟩
 refine I'.step (g' := s'.gens) (d' := s'.drawn) (t' := s'.toks) (ch := ch) (fun b hb => ?_) (fun b o h1 h2 h3 e _ => k.same b o h3 (fun z => ?_) e) (fun b o _ _ h3 e _ => k.slot b o h3 e) (fun _ _ _ _ z => z) (fun b o h3 e => ?_) (fun _ _ z => z) (fun _ _ _ z => z) (fun b ps z => ⟨#[], by rw [z]; simp⟩) (fun m hm => ?_) (fun b u e => ?_) I'.bare
 ·have lb := (n b hb).1
  refine ⟨.inr (Nat.le_trans I.sz lb), fun z => ?_, fun x c e z => ?_, fun p hp z => ?_⟩
  ·exact absurd (Nat.lt_of_lt_of_le I.lt lb) (by rw [z]; exact Nat.lt_irrefl _)
  ·obtain ⟨v, hv⟩ := I.cell x c e
   exact absurd (Nat.lt_of_lt_of_le hv.lt lb) (by rw [z]; exact Nat.lt_irrefl _)
  ·exact absurd (Nat.lt_of_lt_of_le (Heap.lt_size (I.pin p hp).1) lb) (by rw [z]; exact Nat.lt_irrefl _)
 ·rcases List.mem_cons.mp (I'.stkSub b z) with z | z
  ·exact h1 z
  ·exact h2 z
 ·obtain ⟨sl, q⟩ := k.slot b o h3 e
  exact ⟨_, q⟩
 ·obtain ⟨o, es, ep, ho, r⟩ := hm
  have nl : X.env.locals ∉ ch := fun z => absurd (Nat.lt_of_lt_of_le I.lt (n _ z).1) (Nat.lt_irrefl _)
  obtain ⟨sl, q⟩ := k.slot _ o nl ho
  exact ⟨_, es, ep, q, r⟩
 ·refine (I'.hok b u e).stay (fun c v hc q => ?_) (fun _ z => z) fun _ _ z => z
  rcases hc with rfl | hc
  ·exact k.same c v (trk c u e).1 (trk c u e).2 q
  ·exact k.same c v (trk c _ hc).1 (trk c _ hc).2 q
theorem Inv.raised {E : XK} {e : Value} (I : Inv X zd σ H s) (c : CXr X.prog X.w X.stack H s E e s') : ∃ a C dx T H', e = .ref a ∧ Inv X zd σ H' s' ∧ Tr s'.heap a C dx .none T ∧ H' a = none ∧ H' T = none ∧ s.heap.objs.size ≤ a ∧ s.heap.objs.size ≤ T ∧ E (.ref C) dx H' := by
 obtain ⟨a, C, dx, T, H', e1, os, br, un, hok, tr, n1, n2, z1, z2, q⟩ := c
 exact ⟨a, C, dx, T, H', e1, I.call' (ch := []) os un hok br (fun b z => absurd z (by simp)), tr, n1, n2, z1, z2, q⟩
end
section
variable {cm : Bool} {P : Program} {w : World} {K : Frag} {mg : Str → Option Value} {base : Heap} {N : List Str} {qual : Str} {scope : Scope} {f : Addr} {cd : Value} {A : Around} {outer : List Env} {s0 : Shared} {H0 : Hp} {E E' : XK}
theorem cc_3 {zd : List (Addr × Obj)} {σ : Sg} {s s' : Shared} {e : Value} (I : Inv ({ cxOf (CXr P w) P w K mg base N qual scope f cd A outer s0 H0 E with calm := cm } : Cx) zd σ H s)
  (c : CXr P w ({ cxOf (CXr P w) P w K mg base N qual scope f cd A outer s0 H0 E with calm := cm } : Cx).stack H s E' e s') (i : ∀ cls dx H', E' cls dx H' → E cls dx H') : ({ cxOf (CXr P w) P w K mg base N qual scope f cd A outer s0 H0 E with calm := cm } : Cx).xe e s' := by
 obtain ⟨a, C, dx, T, H', rfl, I', tr, n1, n2, z1, z2, q⟩ := Inv.raised I c
 show wpAny (model P w) _ (leaving _ _) _ _ s'
 unfold leaving
 refine wpAny_bind (av_6 I'.ok.frames I'.stack rfl tr fun h1 T2 z3 k1 t1 => ?_)
 refine s_4 t1 fun h2 k2 t2 => ?_
 have zT2 : H' T2 = none := I'.hok.fresh z3
 have J : Inv ({ cxOf (CXr P w) P w K mg base N qual scope f cd A outer s0 H0 E with calm := cm } : Cx) zd σ H' { s' with heap := h2 } := by
  refine Inv.settle (ch := [a, T] ++ [T2]) I I' (fun b hb => ?_) (k1.trans (KeepX.of_same k2))
  have : b = a ∨ b = T ∨ b = T2 := by simpa using hb
  rcases this with rfl | rfl | rfl
  ·exact ⟨z1, n1⟩
  ·exact ⟨z2, n2⟩
  ·exact ⟨Nat.le_trans (Nat.le_trans (Nat.le_refl _) z1) (Nat.le_trans (Nat.le_of_lt (Heap.lt_size tr.ob.choose_spec.choose_spec.1)) z3), zT2⟩
 exact ⟨a, C, dx, T2, H', rfl, J.os, J.bare, J.base, J.hok, t2, n1, zT2, Nat.le_trans I.sz z1, Nat.le_trans I'.sz z3, i _ _ _ q⟩
theorem ba_5 {zd : List (Addr × Obj)} {σ : Sg} {H H' : Hp} {s s' : Shared} {a C : Addr} {dx : Option Addr} {o : Obj} {us : Array Value} (I : Inv ({ cxOf (CXr P w) P w K mg base N qual scope f cd A outer s0 H0 E with calm := cm } : Cx) zd σ H s)
  (I' : Inv ({ cxOf (CXr P w) P w K mg base N qual scope f cd A outer s0 H0 E with calm := cm } : Cx) zd σ H' s') (he : s'.heap.get? a = some o) (hc : o.cls = .ref C) (hx : o.dict = dx) (hd : o.data = .fields us) (h1 : us[1]? = some .none) (n1 : H' a = none) (z1 : s.heap.objs.size ≤ a) (q : E (.ref C) dx H') :
  ({ cxOf (CXr P w) P w K mg base N qual scope f cd A outer s0 H0 E with calm := cm } : Cx).xe (.ref a) s' := by
 show wpAny (model P w) _ (leaving _ _) _ _ s'
 unfold leaving
 refine wpAny_bind (bq_3 I'.ok.frames I'.stack rfl he hc hx hd h1 fun h1 T2 z3 k1 t1 => ?_)
 refine s_4 t1 fun h2 k2 t2 => ?_
 have zT2 : H' T2 = none := I'.hok.fresh z3
 have J : Inv ({ cxOf (CXr P w) P w K mg base N qual scope f cd A outer s0 H0 E with calm := cm } : Cx) zd σ H' { s' with heap := h2 } := by
  refine Inv.settle (ch := [a] ++ [T2]) I I' (fun b hb => ?_) (k1.trans (KeepX.of_same k2))
  have : b = a ∨ b = T2 := by simpa using hb
  rcases this with rfl | rfl
  ·exact ⟨z1, n1⟩
  ·exact ⟨Nat.le_trans z1 (Nat.le_trans (Nat.le_of_lt (Heap.lt_size he)) z3), zT2⟩
 exact ⟨a, C, dx, T2, H', rfl, J.os, J.bare, J.base, J.hok, t2, n1, zT2, Nat.le_trans I.sz z1, Nat.le_trans I'.sz z3, q⟩
end
section
variable {prog : Program} {w : World} {A : Around} {E : Value → Shared → Prop} {h : Heap} {g : Array GenState} {d : Drawn} {t : Nat} {os : OsState}
variable {nm q : Str} {C N : Addr} {bs bm bmB : List Value} {az : Bool} {sn : List Str} {sub : List Value} {ab : Bool} {col : Option Bool} {dd : Option Addr} {k0 k1 k2 k3 k5 : Option Value} {B newId ag : String}
theorem cc_4 (FB : ExcBaseFacts B newId ag bmB) (T : OwnTail h bmB bm) {mN : Str → Option Value} {fI : Addr} {oI : Obj} {Q : PySem.Fin → Shared → Prop}
  (hC : h.get? C = some (excClassObj nm q C N bs bm az sn sub ab col dd k0 k1 k2 k3 k5 newId)) (hn : h.Ns N mN) (hi : mN "__init__" = some (.ref fI)) (ho : h.get? fI = some oI) (hf : oI.cls = .type "function")
  (z : ∀ h' e, Heap.MadeExcOf h h' e (.ref C) us → h.objs.size ≤ e → wpAny (model prog w) A (call (.ref fI) (.ref e :: us)) (fun r s' => r = .none ∧ Q (.done (.ret (.ref e))) s') E ⟨h', g, d, t, os⟩) (hu : us.length ≤ sizeLine) :
  wpAny (model prog w) A (Builtin.«type.__call__» ⟨.ref C :: us, []⟩) Q E ⟨h, g, d, t, os⟩ := by
 wp_walk using wpAny_loadPart_at hC, wpAny_madeBy_exc hC
 refine codeAny_call_builtin_code (Code.quiet_builtin _ FB.quiet) (wpAny_check_new_subT FB T hC ?_)
 refine codeAny_exc_new_subT FB T hC ?_ hu
 show wpAny _ _ _ _ _ _
 generalize e1 : ({ cls := .type "tuple", data := .seq us.toArray } : Obj) = o1
 generalize e2 : ({ cls := .ref C, data := .fields #[.ref h.objs.size, .none, .none, .none, .bool false, .none] } : Obj) = o2
 have up : ∀ b o, h.get? b = some o → ((h.push o1).push o2).get? b = some o := fun b o e => Heap.get?_push_of_some _ (Heap.get?_push_of_some _ e)
 have ge : ((h.push o1).push o2).get? (h.objs.size + 1) = some o2 := by
  have := Heap.get?_push_size (h.push o1) (o := o2) (by rw [← e2]; rfl)
  rwa [Heap.size_push] at this
 have gt : ((h.push o1).push o2).get? h.objs.size = some o1 := Heap.get?_push_of_some _ (Heap.get?_push_size h (by rw [← e1]; rfl))
 have hC1 := up _ _ hC
 have hn1 : ((h.push o1).push o2).Ns N mN := hn.keeps up
 have cl : o2.cls = .ref C := by rw [← e2]
 have hcC : List.contains (Value.ref C :: bm) (.ref C) = true := List.contains_iff_mem.mpr (.head _)
 unfold isInstance
 repeat (first | (with_reducible refine wpAny_loadPart_at ge ?_; rw [cl]) | (with_reducible refine wpAny_isSubtype_exc hC1 ?_; rw [hcC]) | wp_step)
 change wpAny _ _ (mroOf (.ref C) >>= fun l => lookupAlong l _) _ _ _
 refine wpAny_bind (wpAny_mroOf_exc hC1 ?_)
 rw [lookupAlong_cons]
 refine wpAny_bind (wpAny_classOwn_exc hC1 hn1 ?_)
 rw [hi]
 refine wpAny_pure (wpAny_holding (wpAny_bind ?_))
 unfold bindSpecial
 refine wpAny_bind (wpAny_typeOf (T := "function") ⟨_, up _ _ ho, hf⟩ ?_)
 rw [if_pos (by decide)]
 refine wpAny_pure (wpAny_bind (wpAny_mono (z _ (h.objs.size + 1) ⟨up, Heap.get?_none_of_le (Nat.le_succ _), h.objs.size, by rw [e2]; exact ge, Heap.get?_none_of_le (Nat.le_refl _), by rw [e1]; exact gt⟩ (Nat.le_succ _)) (fun r s' hr => ?_) fun _ _ x => x))
 obtain ⟨rfl, hQ⟩ := hr
 wp_walk
 exact hQ
theorem ci_7 (FB : ExcBaseFacts B newId ag bmB) (T : OwnTail h bmB bm) {mN : Str → Option Value} {fI : Addr} {oI : Obj} {Q : Value → Shared → Prop}
  (hC : h.get? C = some (excClassObj nm q C N bs bm az sn sub ab col dd k0 k1 k2 k3 k5 newId)) (hn : h.Ns N mN) (hi : mN "__init__" = some (.ref fI)) (ho : h.get? fI = some oI) (hf : oI.cls = .type "function")
  (z : ∀ h' e, Heap.MadeExcOf h h' e (.ref C) us → h.objs.size ≤ e → wpAny (model prog w) (A.under (.builtin "type.__call__" ⟨.ref C :: us, []⟩)) (call (.ref fI) (.ref e :: us)) (fun r s' => r = .none ∧ Q (.ref e) s') E ⟨h', g, d, t, os⟩) (hu : us.length ≤ sizeLine) :
  wpAny (model prog w) A (call (.ref C) us) Q E ⟨h, g, d, t, os⟩ := by
 have f1 := tc_lookup
 have f2 := tc_bind (.ref C)
 have isT : Shared.TypeIs ⟨h, g, d, t, os⟩ (.ref C) "type" := ⟨_, hC, rfl⟩
 refine wpAny_call (codeAny_of_tree (?_ : wpAny _ _ (callAny (.ref C) _) _ _ _))
 wp_walk using wpAny_loadPart_at hC
 refine ⟨rfl, ?_⟩
 exact codeAny_call_builtin_at (Code.quiet_builtin _ (by decide +kernel)) entry_typeCall (wpAny_check_type_call_sub hC (cc_4 FB T hC hn hi ho hf (fun h' e hm hz => z h' e hm hz) hu))
theorem av_7 {M : Model} {env : Env} {s : Shared} {x : Sem Value} {Q : Flow → Shared → Prop} (hb : bm.contains (.type "BaseException") = true) (hh : A.handled = none)
  (z : wpAny M A x (fun v s1 => ∃ e t dx, v = .ref e ∧ s1.heap.get? C = some (excClassObj nm q C N bs bm az sn sub ab col dd k0 k1 k2 k3 k5 newId) ∧
   s1.heap.get? e = some { cls := .ref C, dict := dx, data := .fields #[.ref t, .none, .none, .none, .bool false, .none] } ∧ E (.ref e) s1) E s) : wpAny M A (raiseStmt env (some x) none) Q E s := by
 have hcB : (Value.ref C :: bm).contains (.type "BaseException") = true := by rw [List.contains_cons, hb, Bool.or_true]
 unfold raiseStmt
 refine wpAny_bind (wpAny_mono z (fun v s1 z1 => ?_) fun _ _ y => y)
 obtain ⟨e, t, dx, rfl, hC, he, hE⟩ := z1
 obtain ⟨hp, g, d, tk, os⟩ := s1
 repeat (first | with_reducible refine wpAny_loadPart_at he ?_ | with_reducible refine wpAny_loadPart_at hC ?_ | (with_reducible refine wpAny_isSubtype_exc hC ?_; rw [hcB]) | wp_step)
 exact wpAny_raiseNew_none hh hE
end
section
variable {X : Cx} {EX : EXS} {a b c : Expr} {f g h : FE} {pos : Pos}
def eVar (i : Nat) : FE := fun δ => match δ[i]? with
 | some (some d) => .ok (.sh d)
 | _ => .no
def eC (d : D) : FE := fun _ => .ok (.sh d)
theorem a_0 (i : Nat) {x : Str} (hN : X.N[i]? = some x := by rfl) (hv : Vis X.env.scope x := by first | exact Or.inl rfl | exact Or.inr (Or.inl rfl) | exact Or.inr (Or.inr rfl)) (hd : (x == ("__debug__" : Str)) = false := by decide)
  (hcd : (x == ("__classdict__" : Str)) = false := by decide) : ED X EX (.Name x pos) (eVar i) :=
 PE.imp (i_9 hN hv hd hcd) fun σ H Q ⟨G, δ, g, s, o⟩ => by
  unfold eVar at o
  split at o
  ·rename_i d e
   obtain ⟨v, e1, r⟩ := s.get i d e
   exact ⟨v, e1, WP.use o g r⟩
  ·exact o.elim
theorem t_8 {e : Expr} {d : D} (he : PE X e (tC v)) (hd : ∀ G, Has X.K G v d) : ED X EX e (eC d) :=
 PE.imp he fun σ H Q ⟨G, δ, g, s, o⟩ => WP.use o g (hd G)
theorem a_2 {i : Int} {j pos} : ED X EX (.Constant (.int i) j pos) (eC (.int i)) := t_8 da_8 fun _ => .int i
theorem p_2 {b : Bool} {j pos} : ED X EX (.Constant (.bool b) j pos) (eC (.bl b)) := t_8 dh_2 fun _ => .bl b
theorem ci_8 {j pos} : ED X EX (.Constant .none j pos) (eC .non) := t_8 cg_8 fun _ => .non
theorem bq_4 {x : Str} {j pos} : ED X EX (.Constant (.str x) j pos) (eC (.str x)) := t_8 da_9 fun _ => .str x
theorem q_1 {x : Str} {i : Int} {t : Tok} (hg : Gl X x) (hm : X.mg x = some (.int i t)) (hd : (x == ("__debug__" : Str)) = false := by decide) : ED X EX (.Name x pos) (eC (.int i)) := t_8 (al_9 (v := .int i) hg hm ⟨t, rfl⟩ hd) fun _ => .int i
theorem bw_0 {x : Str} {z : Str} {t : Tok} (hg : Gl X x) (hm : X.mg x = some (.str z t)) (hd : (x == ("__debug__" : Str)) = false := by decide) : ED X EX (.Name x pos) (eC (.str z)) := t_8 (al_9 (v := .str z) hg hm ⟨t, rfl⟩ hd) fun _ => .str z
def rD (K : Frag) (r : D → D → R W) : R2 := fun x y H Q => ∃ (EX : EXT) (G : Hp) (a b : D), Same G H ∧ Has K G x a ∧ Has K G y b ∧ Out K EX G H (r a b) Q
abbrev OpD (X : Cx) (f : Value → Value → Sem Value) (r : D → D → R W) : Prop := OpR X f (rD X.K r)
def eOp (r : D → D → R W) (f g : FE) : FE := fun δ => (f δ).bind fun a => (g δ).bind fun b => r a.d b.d
theorem two {r : D → D → R W} {σ : Sg} {Q : VK} (q : tD K EX (eOp r f g) σ H Q) : tOp (rD K r) (tD K EX f) (tD K EX g) σ H Q := by
 obtain ⟨G, δ, g0, s0, o⟩ := q
 exact tD.seq g0 s0 o fun w v G1 H1 _ st1 r1 o1 => tD.seq st1.gh (s0.mono st1.gg) o1 fun w2 v2 G2 H2 _ st2 r2 o2 => ⟨_, G2, w.d, w2.d, st2.gh, r1.mono st2.gg, r2, o2⟩
theorem a_3 {op : Operator} {r : D → D → R W} (ho : OpD X (binaryOp op) r) (ha : ED X EX a f) (hb : ED X EX b g) : ED X EX (.BinOp a op b pos) (eOp r f g) :=
 PE.imp (cz_2 ho ha hb) fun _ _ _ q => two q
theorem af_7 {op : CmpOp} {r : D → D → R W} (ho : OpD X (compareOp op) r) (ha : ED X EX a f) (hb : ED X EX b g) (hm : behindInMarks op b = false) : ED X EX (.Compare a [op] [b] pos) (eOp r f g) :=
 PE.imp (cs_2 ho ha hb hm) fun _ _ _ q => two q
def boolD : D → R Bool
 | .bl b => .ok b
 | _ => .no
def eTest (f : FE) : FT := fun δ => (f δ).bind fun w => boolD w.d
theorem ct_0 {σ : Sg} {Q : Bool → Hp → Prop} (q : tDt K EX (eTest f) σ H Q) : tD K EX f σ H fun x H' => ∃ k, x = .bl k ∧ Q k H' := by
 obtain ⟨G, δ, g0, s0, o⟩ := q
 refine ⟨G, δ, g0, s0, ?_⟩
 unfold eTest at o
 cases e : f δ with
 | ok w =>
  rw [e] at o
  simp only [R.bind_ok] at o
  refine WP.intro fun v G' H' st r => ?_
  revert r o
  cases w.d with
  | bl k => intro o r; cases r; exact ⟨k, rfl, o G' H' st⟩
  | _ => intro o _; exact False.elim o
 | ex x => rw [e] at o; exact o
 | no => rw [e] at o; exact o
theorem d_2 {op : CmpOp} {r : D → D → R W} (ho : OpD X (compareOp op) r) (ha : ED X EX a f) (hb : ED X EX b g) (hm : behindInMarks op b = false) : TD X EX (.Compare a [op] [b] pos) (eTest (eOp r f g)) :=
 PT.imp (cs_3 ho ha hb hm) fun σ H Q q => two (ct_0 q)
def af_8 (r r' : D → D → R W) (f g h : FE) : FE := fun δ => (f δ).bind fun a => (g δ).bind fun b => (r a.d b.d).bind fun z => (boolD z.d).bind fun k =>
 if k = true then (h δ).bind fun c => r' b.d c.d else .ok (.sh (.bl false))
theorem dj_6 {r r' : D → D → R W} {σ : Sg} {Q : VK} (q : tD K EX (af_8 r r' f g h) σ H Q) : ch_3 (rD K r) (rD K r') (tD K EX f) (tD K EX g) (tD K EX h) σ H Q := by
 obtain ⟨G, δ, g0, s0, o⟩ := q
 refine tD.seq g0 s0 o fun w v G1 H1 _ st1 r1 o1 => tD.seq st1.gh (s0.mono st1.gg) o1 fun w2 v2 G2 H2 _ st2 r2 o2 => ⟨EX σ, G2, w.d, w2.d, st2.gh, r1.mono st2.gg, r2, ?_⟩
 revert o2
 cases r w.d w2.d with
 | ok z =>
  intro o2
  refine WP.intro fun v3 G3 H3 st3 r3 => ?_
  have o2 : Out K (EX σ) G2 H2 ((boolD z.d).bind fun k => if k = true then (h δ).bind fun c => r' w2.d c.d else .ok (.sh (.bl false))) Q := o2
  revert r3 o2
  cases z.d with
  | bl k =>
   intro r3 o2
   cases r3
   refine ⟨k, rfl, ?_⟩
   cases k with
   | true =>
    rw [if_pos rfl]
    have o3 : Out K (EX σ) G2 H2 ((h δ).bind fun c => r' w2.d c.d) Q := o2
    exact tD.seq st3.gh (s0.mono (st1.gg.trans (st2.gg.trans st3.gg))) (o3.mono st3) fun w4 v4 G4 H4 _ st4 r4 o4 => ⟨_, G4, w2.d, w4.d, st4.gh, r2.mono (st3.gg.trans st4.gg), r4, o4⟩
   | false =>
    rw [if_neg Bool.false_ne_true]
    have o3 : WP K G2 H2 (.sh (.bl false)) Q := o2
    exact (o3.mono st3).use st3.gh (.bl false)
  | _ => intro _ o2; exact False.elim o2
 | ex x => exact fun o2 => o2
 | no => exact fun o2 => o2
theorem bh_2 {op op' : CmpOp} {r r' : D → D → R W} (ho : OpD X (compareOp op) r) (ho' : OpD X (compareOp op') r') (ha : ED X EX a f) (hb : ED X EX b g) (hc : ED X EX c h)
  (hm : lastMarks [op, op'] [b, c] = false := by with_unfolding_all rfl) : ED X EX (.Compare a [op, op'] [b, c] pos) (af_8 r r' f g h) :=
 PE.imp (ch_4 ho ho' ha hb hc hm) fun _ _ _ q => dj_6 q
abbrev TW (X : Cx) (EX : EXS) (e : Expr) (f : FT) : Prop := PW X e (tDt X.K EX f)
variable {p q : FT} {o_4 : List Expr}
def tAndF (p q : FT) : FT := fun δ => (p δ).bind fun b => if b = true then q δ else .ok false
def tOrF (p q : FT) : FT := fun δ => (p δ).bind fun b => if b = true then .ok true else q δ
def tNotF (p : FT) : FT := fun δ => (p δ).bind fun b => .ok (!b)
theorem ad_4 (ha : TD X EX a p) : TW X EX (.BoolOp .And [a] pos) p := cr_7 ha
theorem bq_5 (ha : TD X EX a p) : TW X EX (.BoolOp .Or [a] pos) p := db_0 ha
theorem tDt.two {σ : Sg} {Q : Bool → Hp → Prop} {k : Bool → DE → R Bool} {P : Bool → Hp → Prop} (h : tDt K EX (fun δ => (p δ).bind fun b => k b δ) σ H Q)
  (i : ∀ b H', tDt K EX (k b) σ H' Q → P b H') : tDt K EX p σ H P := by
 obtain ⟨G, δ, g0, s0, o⟩ := h
 refine ⟨G, δ, g0, s0, ?_⟩
 cases e : p δ with
 | ok b =>
  simp only [e, R.bind_ok] at o
  refine fun G' H' st => i b H' ⟨G', δ, st.gh, s0.mono st.gg, ?_⟩
  cases e2 : k b δ with
  | ok c => rw [e2] at o; exact fun G2 H2 st2 => o G2 H2 (st.trans st2)
  | ex x => rw [e2] at o; exact (EX σ).mono _ _ _ _ _ st o
  | no => rw [e2] at o; exact o
 | ex x => simp only [e, R.bind_ex] at o; exact o
 | no => simp only [e, R.bind_no] at o
theorem tDt.now {σ : Sg} {Q : Bool → Hp → Prop} {c : Bool} (h : tDt K EX (fun _ => .ok c) σ H Q) : Q c H := by
 obtain ⟨G, δ, g0, s0, o⟩ := h
 exact o G H (Step.refl g0)
theorem af_9 (ha : TD X EX a p) (hb : TW X EX (.BoolOp .And (b :: o_4) pos) q) : TW X EX (.BoolOp .And (a :: b :: o_4) pos) (tAndF p q) :=
 PW.imp (db_1 ha hb) fun σ H Q h => tDt.two (k := fun b δ => if b = true then q δ else .ok false) h fun b H' h' => by
  cases b with
  | true => rw [if_pos rfl]; exact h'
  | false => rw [if_neg Bool.false_ne_true]; exact tDt.now h'
theorem bw_1 (ha : TD X EX a p) (hb : TW X EX (.BoolOp .Or (b :: o_4) pos) q) : TW X EX (.BoolOp .Or (a :: b :: o_4) pos) (tOrF p q) :=
 PW.imp (dh_3 ha hb) fun σ H Q h => tDt.two (k := fun b δ => if b = true then .ok true else q δ) h fun b H' h' => by
  cases b with
  | true => rw [if_pos rfl]; exact tDt.now h'
  | false => rw [if_neg Bool.false_ne_true]; exact h'
theorem td_w {e : Expr} (h : TW X EX e p) : TD X EX e p := h.pt
theorem q_7 (ha : TD X EX a p) : TD X EX (.UnaryOp .Not a pos) (tNotF p) :=
 PT.imp (db_2 ha) fun σ H Q h => tDt.two (k := fun b _ => .ok (!b)) h fun b H' h' => tDt.now h'
def eAnd (f g : FE) : FE := fun δ => (f δ).bind fun a => (boolD a.d).bind fun k => if k = true then g δ else .ok (.sh (.bl false))
def eOr (f g : FE) : FE := fun δ => (f δ).bind fun a => (boolD a.d).bind fun k => if k = true then .ok (.sh (.bl true)) else g δ
def eNot (f : FE) : FE := fun δ => (f δ).bind fun a => (boolD a.d).bind fun k => .ok (.sh (.bl (!k)))
theorem an_9 {op} (h : ED X EX a f) : ED X EX (.BoolOp op [a] pos) f := db_3 h
theorem tD.boolThen {σ : Sg} {Q : VK} {k : Bool → DE → R W} {P : Bool → Hp → Prop} (h : tD K EX (fun δ => (f δ).bind fun a => (boolD a.d).bind fun c => k c δ) σ H Q)
  (i : ∀ c H', tD K EX (k c) σ H' Q → P c H') : tD K EX f σ H fun x H' => ∃ c, x = .bl c ∧ P c H' := by
 obtain ⟨G, δ, g0, s0, o⟩ := h
 refine tD.seq g0 s0 o fun w v G1 H1 _ st1 r1 o1 => ?_
 revert r1 o1
 cases w.d with
 | bl c => intro r1 o1; cases r1; exact ⟨c, rfl, i c H1 ⟨G1, δ, st1.gh, s0.mono st1.gg, o1⟩⟩
 | _ => intro _ o1; exact False.elim o1
theorem tD.now {σ : Sg} {Q : VK} {d : D} (h : tD K EX (fun _ => .ok (.sh d)) σ H Q) (r : ∀ G, Has K G v d) : Q v H := by
 obtain ⟨G, δ, g0, s0, o⟩ := h
 exact WP.use o g0 (r G)
theorem ao_0 (ha : ED X EX a f) (hb : ED X EX (.BoolOp .And (b :: o_4) pos) g) : ED X EX (.BoolOp .And (a :: b :: o_4) pos) (eAnd f g) :=
 PE.imp (db_4 ha hb) fun σ H Q h => tD.boolThen (k := fun k δ => if k = true then g δ else .ok (.sh (.bl false))) h fun c H' h' => by
  cases c with
  | true => rw [if_pos rfl]; exact h'
  | false => rw [if_neg Bool.false_ne_true]; exact tD.now h' fun _ => .bl false
theorem bq_6 (ha : ED X EX a f) : ED X EX (.UnaryOp .Not a pos) (eNot f) :=
 PE.imp (db_5 ha) fun σ H Q h => tD.boolThen (k := fun k _ => .ok (.sh (.bl (!k)))) h fun c H' h' => tD.now h' fun _ => .bl (!c)
def eIf (p : FT) (f g : FE) : FE := fun δ => (p δ).bind fun k => if k = true then f δ else g δ
theorem dj_7 (hc : TD X EX c p) (ha : ED X EX a f) (hb : ED X EX b g) : ED X EX (.IfExp c a b pos) (eIf p f g) :=
 PE.imp (cg_9 hc ha hb) fun σ H Q ⟨G, δ, g0, s0, o⟩ => tDt.seq g0 s0 o fun k G' H' _ st o' => by
  cases k with
  | true => rw [if_pos rfl]; exact ⟨G', δ, st.gh, s0.mono st.gg, o'⟩
  | false => rw [if_neg Bool.false_ne_true]; exact ⟨G', δ, st.gh, s0.mono st.gg, o'⟩
def truthD : D → R Bool
 | .non => .ok false
 | .bl b => .ok b
 | .int i => .ok (i != 0)
 | .str x => if x.length ≤ 16777216 then .ok ((x.length : Int) != 0) else .no
 | .lst ds => .ok (!ds.isEmpty)
 | .tup ds => .ok (!ds.isEmpty)
 | _ => .no
def eTruth (f : FE) : FT := fun δ => (f δ).bind fun w => truthD w.d
theorem bh_4 {G : Hp} {ds : List D} (r : HasL K G vs ds) : (!ds.isEmpty) = !vs.isEmpty := by cases r <;> rfl
theorem dd_9 {G H : Hp} {d : D} {k : Bool} (g : Same G H) (r : Has K G v d) (e : truthD d = .ok k) : TruV K v H k := by
 cases r with
 | non => cases e; rfl
 | bl b => cases e; rfl
 | int i => cases e; rfl
 | str x =>
  have e : (if x.length ≤ 16777216 then R.ok ((x.length : Int) != 0) else .no) = .ok k := e
  split at e
  ·rename_i hz
   cases e
   exact ⟨by rw [sizeLine_eq]; exact hz, rfl⟩
  ·cases e
 | lst h r => cases e; exact .inl ⟨_, g.seq h, bh_4 r⟩
 | tup h r => cases e; exact .inr (.inl ⟨_, Same.tupS g h, bh_4 r⟩)
 | exn0 _ _ => cases e
 | exn1 _ _ _ _ _ => cases e
 | dic _ _ _ => cases e
 | obj _ _ _ _ => cases e
theorem c_8 (ha : ED X EX a f) (he : ∀ whole, isTrue a X.env whole = (do let v ← whole; standAt a.pos; holding [v] (truthy v)) := by intro _; rfl) : TD X EX a (eTruth f) :=
 PT.imp (ch_5 ha he) fun σ H Q ⟨G, δ, g0, s0, o⟩ => by
  refine ⟨G, δ, g0, s0, ?_⟩
  unfold eTruth at o
  cases e : f δ with
  | ok w =>
   rw [e] at o
   simp only [R.bind_ok] at o
   refine WP.intro fun v G' H' st r => ?_
   cases e2 : truthD w.d with
   | ok k => rw [e2] at o; exact ⟨k, dd_9 st.gh r e2, o G' H' st⟩
   | ex x => rw [e2] at o; exfalso; revert e2; cases w.d <;> simp only [truthD] <;> intro e2 <;> first | cases e2 | (split at e2 <;> cases e2)
   | no => rw [e2] at o; exact o.elim
  | ex x => rw [e] at o; exact o
  | no => rw [e] at o; exact o
variable {e : Expr} {es : List Expr} {fa : FA}
def aNil : FA := fun _ => .ok []
def aCons (f : FE) (fa : FA) : FA := fun δ => (f δ).bind fun w => (fa δ).bind fun ds => .ok (w.d :: ds)
theorem a_5 : AD X EX [] aNil := PA.imp n_9 fun σ H Q ⟨G, δ, g0, s0, o⟩ => o [] G H (Step.refl g0) .nil
theorem a_1 (ha : ED X EX e f) (hr : AD X EX es fa) (hs : starEach (e :: es) X.env = (false, eval e X.env) :: starEach es X.env := by rfl) : AD X EX (e :: es) (aCons f fa) :=
 PA.imp (e_4 ha hr hs) fun σ H Q ⟨G, δ, g0, s0, o⟩ => by
  refine ⟨G, δ, g0, s0, ?_⟩
  unfold aCons at o
  cases e1 : f δ with
  | ok w =>
   rw [e1] at o
   simp only [R.bind_ok] at o
   refine WP.intro fun v G' H' st r => ⟨G', δ, st.gh, s0.mono st.gg, ?_⟩
   cases e2 : fa δ with
   | ok ds => rw [e2] at o; exact fun vs G2 H2 st2 r2 => o (v :: vs) G2 H2 (st.trans st2) (.cons (r.mono st2.gg) r2)
   | ex x => rw [e2] at o; exact (EX σ).mono _ _ _ _ _ st o
   | no => rw [e2] at o; exact o
  | ex x => rw [e1] at o; exact o
  | no => rw [e1] at o; exact o
def eTup (fa : FA) : FE := fun δ => (fa δ).bind fun ds => if ds.length ≤ 16777216 then .ok (.sh (.tup ds)) else .no
def eLst (fa : FA) : FE := fun δ => (fa δ).bind fun ds => if ds.length ≤ 16777216 then .ok (.ow (.lst ds)) else .no
theorem de_0 {x1} (ha : AD X EX es fa) : ED X EX (.Tuple es x1 pos) (eTup fa) :=
 PE.imp (bq_0 ha) fun σ H Q ⟨G, δ, g0, s0, o⟩ => tDa.seq g0 s0 o fun ds vs G' H' _ st r o' => by
  split at o'
  ·rename_i hz
   refine ⟨by rw [r.length, sizeLine_eq]; exact hz, fun p hp => o' (.ref p) _ _ (Step.new st.gh hp _) (.tup (SqT.of b_1) (r.mono (i_1 (st.gh.free hp) _)))⟩
  ·exact o'.elim
theorem q_8 (ha : AD X EX es fa) : ED X EX (.List es pos) (eLst fa) :=
 PE.imp (ch_8 ha) fun σ H Q ⟨G, δ, g0, s0, o⟩ => tDa.seq g0 s0 o fun ds vs G' H' _ st r o' => by
  split at o'
  ·rename_i hz
   refine ⟨by rw [r.length, sizeLine_eq]; exact hz, fun p hp => y_9 o' st.gh r p hp⟩
  ·exact o'.elim
def rDc (K : Frag) (fn : List D → R W) : List V → Hp → VK → Prop := fun vs H Q => ∃ (EX : EXT) (G : Hp) (ds : List D), Same G H ∧ HasL K G vs ds ∧ Out K EX G H (fn ds) Q
abbrev t_9 (X : Cx) (v : Value) (fn : List D → R W) : Prop := t_7 X v (rDc X.K fn)
def eCall (fn : List D → R W) (fa : FA) : FE := fun δ => (fa δ).bind fn
theorem bw_2 {fn : List D → R W} {σ : Sg} {Q : VK} (q : tD K EX (eCall fn fa) σ H Q) : tCB (rDc K fn) (tDa K EX fa) σ H Q := by
 obtain ⟨G, δ, g0, s0, o⟩ := q
 exact tDa.seq g0 s0 o fun ds vs G' H' _ st r o' => ⟨_, G', ds, st.gh, r, o'⟩
variable {x : Str} {pp : Pos} {id T : String} {fn : List D → R W}
theorem b_7 (hc : t_9 X (.builtin id) fn) (hg : Gl X x) (hm : X.mg x = none) (hv : bootBuiltins x = some (.builtin id)) (ha : AD X EX (e :: es) fa) (hn : x ≠ "__name__" := by decide) (hdb : (x == ("__debug__" : Str)) = false := by decide)
  (he : starEach (e :: es) X.env = (false, eval e X.env) :: starEach es X.env := by rfl) (hpl : (backTo pos (starEach es X.env)).any (·.1) = false := by rfl) : ED X EX (.Call (.Name x pp) (e :: es) [] pos) (eCall fn fa) :=
 PE.imp (w_5 hc hg hm hv ha hn hdb he hpl) fun _ _ _ q => bw_2 q
theorem u_0 (hc : t_9 X (.type T) fn) (hg : Gl X x) (hm : X.mg x = none) (hv : bootBuiltins x = some (.type T)) (ha : AD X EX (e :: es) fa) (hn : x ≠ "__name__" := by decide) (hdb : (x == ("__debug__" : Str)) = false := by decide)
  (he : starEach (e :: es) X.env = (false, eval e X.env) :: starEach es X.env := by rfl) (hpl : (backTo pos (starEach es X.env)).any (·.1) = false := by rfl) : ED X EX (.Call (.Name x pp) (e :: es) [] pos) (eCall fn fa) :=
 PE.imp (cb_9 hc hg hm hv ha hn hdb he hpl) fun _ _ _ q => bw_2 q
def ixD : D → D → R W
 | .lst ds, .int i => match atI ds i with | some d => .ok (.sh d) | none => .no
 | .tup ds, .int i => match atI ds i with | some d => .ok (.sh d) | none => .no
 | .str z, .int i => if z.length ≤ 16777216 then (match atI z.cps.toList i with | some c => .ok (.sh (.str ⟨#[c]⟩)) | none => .no) else .no
 | _, _ => .no
theorem HasL.atI {G : Hp} {ds : List D} {i : Int} {d : D} (r : HasL K G vs ds) (h : L2.atI ds i = some d) : ∃ v, L2.atI vs i = some v ∧ Has K G v d := by
 unfold L2.atI at h ⊢
 rw [r.length]
 cases e : ixN ds.length i with
 | none => rw [e] at h; cases h
 | some j => rw [e] at h; exact r.get h
theorem ix_d : IxR X (rD X.K ixD) := by
 intro value slice zd s σ H x y v u Q I rx ry h hs
 obtain ⟨EX, G, a, b, g, ra, rb, o⟩ := h
 cases rb with
 | int i =>
  cases ra with
  | lst h r =>
   simp only [ixD] at o
   split at o
   ·rename_i d e
    obtain ⟨v, e1, r1⟩ := HasL.atI r e
    exact cs_7 value slice zd s σ H _ _ _ _ Q I rx ry ⟨_, _, i, v, rfl, rfl, g.seq h, e1, WP.use o g r1⟩ hs
   ·exact o.elim
  | tup h r =>
   simp only [ixD] at o
   split at o
   ·rename_i d e
    obtain ⟨v, e1, r1⟩ := HasL.atI r e
    exact dd_2 value slice zd s σ H _ _ _ _ Q I rx ry ⟨_, _, i, v, rfl, rfl, Same.tupS g h, e1, WP.use o g r1⟩ hs
   ·exact o.elim
  | str z =>
   simp only [ixD] at o
   split at o
   ·rename_i hz
    split at o
    ·rename_i c e
     exact dd_3 value slice zd s σ H _ _ _ _ Q I rx ry ⟨z, i, c, rfl, rfl, by rw [sizeLine_eq]; exact hz, e, WP.use o g (.str _)⟩ hs
    ·exact o.elim
   ·exact o.elim
  | _ => exact False.elim o
 | _ => cases ra <;> exact False.elim o
theorem q_9 (ha : ED X EX a f) (hb : ED X EX b g) (hs : bv_6 b := by intro _ _; rfl) : ED X EX (.Subscript a b pos) (eOp ixD f g) :=
 PE.imp (dj_4 ix_d ha hb hs) fun _ _ _ q => two q
end
end L3
namespace L2
open PySem PySem.Spec PyProof.Rows
section
variable {κ : Type} [DecidableEq κ]
def q_2 (kvs : List (κ × V)) (k : κ) : Option V := (kvs.find? fun kv => decide (kv.1 = k)).map (·.2)
def z_9 (kvs : List (κ × V)) (k : κ) (v : V) : List (κ × V) :=
 if (kvs.any fun kv => decide (kv.1 = k)) = true then kvs.map (fun kv => if kv.1 = k then (kv.1, v) else kv) else kvs ++ [(k, v)]
def m_3 (kvs : List (κ × V)) (k : κ) : List (κ × V) := kvs.filter fun kv => decide (kv.1 ≠ k)
theorem w_7 {p : κ × V} {r : List (κ × V)} {k : κ} (e : p.1 = k) : q_2 (p :: r) k = some p.2 := by simp [q_2, List.find?_cons, e]
theorem w_8 {p : κ × V} {r : List (κ × V)} {k : κ} (e : ¬ p.1 = k) : q_2 (p :: r) k = q_2 r k := by simp [q_2, List.find?_cons, e]
theorem ao_1 (k : κ) : ∀ kvs : List (κ × V), (kvs.any fun kv => decide (kv.1 = k)) = (q_2 kvs k).isSome
 | [] => rfl
 | p :: r => by
  rw [List.any_cons]
  by_cases e : p.1 = k
  ·simp only [w_7 e, decide_eq_true e, Bool.true_or, Option.isSome_some]
  ·rw [w_8 e, decide_eq_false e, Bool.false_or]; exact ao_1 k r
theorem ai_5 (kvs : List (κ × V)) (k : κ) (v : V) : (z_9 kvs k v).length ≤ kvs.length + 1 := by
 unfold z_9
 split
 ·rw [List.length_map]; omega
 ·rw [List.length_append, List.length_cons, List.length_nil]; omega
theorem RelO.isSome_eq {o : Option V} {u : Option Value} (r : RelO o u) : o.isSome = u.isSome := by
 cases o with
 | none => cases u with
  | none => rfl
  | some _ => exact (show False from r).elim
 | some _ => cases u with
  | none => exact (show False from r).elim
  | some _ => rfl
theorem RelO.getD {o : Option V} {u : Option Value} {d : V} {d' : Value} (r : RelO o u) (rd : RelV d d') : RelV (o.getD d) (u.getD d') := by
 cases o with
 | none => cases u with
  | none => exact rd
  | some _ => exact (show False from r).elim
 | some _ => cases u with
  | none => exact (show False from r).elim
  | some _ => exact r
theorem KV.val {kvs : List (κ × V)} {vs : List (κ × Value)} (r : KV kvs vs) (k : κ) : RelO (q_2 kvs k) (valueAt vs k) := by
 unfold KV at r
 induction r with
 | nil => exact True.intro
 | @cons p q ps qs h t ih =>
  obtain ⟨h1, h2⟩ := h
  by_cases e : p.1 = k
  ·have e' : q.1 = k := h1.symm.trans e
   have b : valueAt (q :: qs) k = some q.2 := by simp [valueAt, List.find?_cons, e']
   rw [w_7 e, b]; exact h2
  ·have e' : ¬ q.1 = k := fun z => e (h1.trans z)
   have b : valueAt (q :: qs) k = valueAt qs k := by simp [valueAt, List.find?_cons, e']
   rw [w_8 e, b]; exact ih
theorem KV.any {kvs : List (κ × V)} {vs : List (κ × Value)} (r : KV kvs vs) (k : κ) : (kvs.any fun kv => decide (kv.1 = k)) = vs.any fun kv => decide (kv.1 = k) := by
 unfold KV at r
 induction r with
 | nil => rfl
 | cons h t ih => rw [List.any_cons, List.any_cons, ih, h.1]
theorem KV.repl {kvs : List (κ × V)} {vs : List (κ × Value)} (r : KV kvs vs) (k : κ) {y : V} {u : Value} (ry : RelV y u) :
  KV (kvs.map fun kv => if kv.1 = k then (kv.1, y) else kv) (vs.map fun kv => if kv.1 = k then (kv.1, u) else kv) := by
 unfold KV at r ⊢
 induction r with
 | nil => exact .nil
 | @cons p q ps qs h t ih =>
  rw [List.map_cons, List.map_cons]
  refine .cons ?_ ih
  obtain ⟨h1, h2⟩ := h
  by_cases e : p.1 = k
  ·rw [if_pos e, if_pos (h1.symm.trans e)]; exact ⟨h1, ry⟩
  ·rw [if_neg e, if_neg (fun z => e (h1.trans z))]; exact ⟨h1, h2⟩
theorem KV.put {kvs : List (κ × V)} {vs : List (κ × Value)} (r : KV kvs vs) (k : κ) {y : V} {u : Value} (ry : RelV y u) : KV (z_9 kvs k y) (stored vs k u) := by
 unfold z_9 stored
 rw [r.any k]
 by_cases e : (vs.any fun kv => decide (kv.1 = k)) = true
 ·rw [if_pos e, if_pos e]; exact r.repl k ry
 ·rw [if_neg e, if_neg e]; exact Paired.snoc r ⟨rfl, ry⟩
theorem KV.drop {kvs : List (κ × V)} {vs : List (κ × Value)} (r : KV kvs vs) (k : κ) : KV (m_3 kvs k) (without vs k) := by
 unfold KV at r ⊢
 unfold m_3 without
 induction r with
 | nil => exact .nil
 | @cons p q ps qs h t ih =>
  obtain ⟨h1, h2⟩ := h
  rw [List.filter_cons, List.filter_cons]
  by_cases e : p.1 = k
  ·have a : ¬ decide (p.1 ≠ k) = true := by simp [e]
   have b : ¬ decide (q.1 ≠ k) = true := by simp [h1.symm.trans e]
   rw [if_neg a, if_neg b]; exact ih
  ·have e' : ¬ q.1 = k := fun z => e (h1.trans z)
   have a : decide (p.1 ≠ k) = true := by simp [e]
   have b : decide (q.1 ≠ k) = true := by simp [e']
   rw [if_pos a, if_pos b]; exact .cons ⟨h1, h2⟩ ih
theorem KV.keys {kvs : List (κ × V)} {vs : List (κ × Value)} (r : KV kvs vs) : kvs.map (·.1) = vs.map (·.1) := by
 unfold KV at r
 induction r with
 | nil => rfl
 | cons h t ih => rw [List.map_cons, List.map_cons, ih, h.1]
theorem KV.length {kvs : List (κ × V)} {vs : List (κ × Value)} (r : KV kvs vs) : kvs.length = vs.length := Paired.length r
theorem ci_9 (kvs : List (κ × V)) (k : κ) : (m_3 kvs k).length ≤ kvs.length := List.length_filter_le _ _
end
theorem ao_2 {w : World} {k : Key} {u : Value} (r : RelV (kV k) u) : (e_6 P w).is k u = true := by
 cases k with
 | inl i => obtain ⟨t, e⟩ := (show ∃ t, u = Value.int i t from r); subst e; exact bg_5 P w i t
 | inr x => obtain ⟨t, e⟩ := (show ∃ t, u = Value.str x t from r); subst e; exact bg_6 P w x t
theorem av_8 {w : World} : ∀ {ks : List Key} {us : List Value}, Vals (ks.map kV) us → ItemsAre (e_6 P w) ks us
 | [], _, r => by rw [List.map_nil] at r; cases r; exact .nil
 | k :: ks, _, r => by
  rw [List.map_cons] at r
  cases r with
  | cons h t => exact .cons (ao_2 h) (av_8 t)
abbrev KT (H : Hp) : List (List Key × V) → List (List Key × Addr × Value) → Prop := Paired fun p q => p.1 = q.1 ∧ H q.2.1 = some (.tup (p.1.map kV)) ∧ RelV p.2 q.2.2
theorem KT.val {kvs : List (List Key × V)} {xs : List (List Key × Addr × Value)} (r : KT H kvs xs) (k : List Key) : RelO (q_2 kvs k) ((atKey xs k).map (·.2)) := by
 induction r with
 | nil => exact True.intro
 | @cons p q ps qs h t ih =>
  obtain ⟨h1, _, h2⟩ := h
  by_cases e : p.1 = k
  ·have e' : q.1 = k := h1.symm.trans e
   have b : atKey (q :: qs) k = some q.2 := by simp [atKey, List.find?_cons, e']
   rw [w_7 e, b]; exact h2
  ·have e' : ¬ q.1 = k := fun z => e (h1.trans z)
   have b : atKey (q :: qs) k = atKey qs k := by simp [atKey, List.find?_cons, e']
   rw [w_8 e, b]; exact ih
theorem KT.repl {kvs : List (List Key × V)} {xs : List (List Key × Addr × Value)} (r : KT H kvs xs) (k : List Key) {y : V} {u : Value} (ry : RelV y u) :
  KT H (kvs.map fun kv => if kv.1 = k then (kv.1, y) else kv) (xs.map (putAt k u)) := by
 induction r with
 | nil => exact .nil
 | @cons p q ps qs h t ih =>
  rw [List.map_cons, List.map_cons]
  refine .cons ?_ ih
  obtain ⟨h1, h2, h3⟩ := h
  unfold putAt
  by_cases e : p.1 = k
  ·rw [if_pos e, if_pos (h1.symm.trans e)]; exact ⟨h1, h2, ry⟩
  ·rw [if_neg e, if_neg (fun z => e (h1.trans z))]; exact ⟨h1, h2, h3⟩
theorem KT.put {kvs : List (List Key × V)} {xs : List (List Key × Addr × Value)} (r : KT H kvs xs) (k : List Key) {b : Addr} {y : V} {u : Value} (hb : H b = some (.tup (k.map kV))) (ry : RelV y u) :
  KT H (z_9 kvs k y) (storedH xs k b u) := by
 have e : (kvs.any fun kv => decide (kv.1 = k)) = (atKey xs k).isSome := by
  rw [ao_1, (r.val k).isSome_eq, Option.isSome_map]
 unfold z_9 storedH
 rw [e]
 by_cases q : (atKey xs k).isSome = true
 ·rw [if_pos q, if_pos q]; exact r.repl k ry
 ·rw [if_neg q, if_neg q]; exact Paired.snoc r ⟨rfl, hb, ry⟩
theorem KT.keeps {H H' : Hp} {kvs : List (List Key × V)} {xs : List (List Key × Addr × Value)} (r : KT H kvs xs) (ht : ∀ b ys, H b = some (.tup ys) → H' b = some (.tup ys)) : KT H' kvs xs :=
 Paired.mapP r fun _ _ z => ⟨z.1, ht _ _ z.2.1, z.2.2⟩
section
variable {P : Program} {w : World} {H : Hp} {h : Heap} {a : Addr}
theorem cz_4 {u : HO} (ok : HOk P w H h) (e : Rd H a u) : ObjOk P w H h a u := e.ok ok
theorem ad_5 {kvs : List (Key × V)} (ok : HOk P w H h) (e : Rd H a (.dK kvs)) : kvs.length ≤ sizeLine ∧ (a == sysModules) = false ∧ ∃ vs, KV kvs vs ∧ h.DictOf (e_6 P w) a vs :=
 show ObjOk P w H h a (.dK kvs) from cz_4 ok e
theorem cj_0 {kvs : List (Key × V)} (ok : HOk P w H h) (e : H a = some (.dK kvs)) : kvs.length ≤ sizeLine ∧ (a == sysModules) = false ∧ ∃ vs, KV kvs vs ∧ h.DictOf (e_6 P w) a vs := ad_5 ok (.inl e)
theorem ao_3 {ks : List Key} (ok : HOk P w H h) (e : H a = some (.tup (ks.map kV))) : (tupleKind (e_6 P w)).is h ks a := by
 obtain ⟨_, its, r, o, h1, h2, n, h3⟩ := (show ObjOk P w H h a (.tup (ks.map kV)) from ok a _ e)
 exact ⟨o, its.toArray, n, h1, h2, h3, by simpa using av_8 r⟩
theorem av_9 {kvs : List (List Key × V)} (ok : HOk P w H h) (e : Rd H a (.dT kvs)) : kvs.length ≤ sizeLine ∧ (a == sysModules) = false ∧
  ∃ xs, KT H kvs xs ∧ h.DictOfH (tupleKind (e_6 P w)) a xs := by
 obtain ⟨z, y, xs, r, o, es, ep, h1, h2, h3, h4, h5⟩ := (show ObjOk P w H h a (.dT kvs) from cz_4 ok e)
 refine ⟨z, y, xs, r, o, es, ep, h1, h2, h3, h4, fun x hx => ?_, h5⟩
 have all : ∀ {l : List (List Key × V)} {m : List (List Key × Addr × Value)}, KT H l m → ∀ x ∈ m, (tupleKind (e_6 P w)).is h x.1 x.2.1 := by
  intro l m q
  induction q with
  | nil => intro x hx; exact nomatch hx
  | @cons p q ps qs hq t ih =>
   intro x hx
   rcases List.mem_cons.mp hx with e | hx
   ·subst e
    exact ao_3 ok (by rw [← hq.1]; exact hq.2.1)
   ·exact ih x hx
 exact all r x hx
theorem dj_8 {kvs : List (List Key × V)} (ok : HOk P w H h) (e : H a = some (.dT kvs)) : kvs.length ≤ sizeLine ∧ (a == sysModules) = false ∧
  ∃ xs, KT H kvs xs ∧ h.DictOfH (tupleKind (e_6 P w)) a xs := av_9 ok (.inl e)
end
def DGet (H : Hp) (a : Addr) (y : V) (r : Option V) : Prop :=
 (∃ kvs k, Rd H a (.dK kvs) ∧ y = kV k ∧ r = q_2 kvs k) ∨ ∃ kvs k b, Rd H a (.dT kvs) ∧ y = .ref b ∧ H b = some (.tup (k.map kV)) ∧ r = q_2 kvs k
def DPut (H : Hp) (a : Addr) (y v : V) (H' : Hp) : Prop :=
 (∃ kvs k, H a = some (.dK kvs) ∧ y = kV k ∧ kvs.length < sizeLine ∧ H' = upd H a (.dK (z_9 kvs k v))) ∨
 ∃ kvs k b, H a = some (.dT kvs) ∧ y = .ref b ∧ H b = some (.tup (k.map kV)) ∧ kvs.length < sizeLine ∧ H' = upd H a (.dT (z_9 kvs k v))
theorem DGet.t {a b : Addr} {kvs : List (List Key × V)} {k : List Key} (e : H a = some (.dT kvs)) (eb : H b = some (.tup (k.map kV))) : DGet H a (.ref b) (q_2 kvs k) := .inr ⟨kvs, k, b, .inl e, rfl, eb, rfl⟩
theorem DPut.k {a : Addr} {kvs : List (Key × V)} {k : Key} (e : H a = some (.dK kvs)) (hl : kvs.length < sizeLine) : DPut H a (kV k) v (upd H a (.dK (z_9 kvs k v))) := .inl ⟨kvs, k, e, rfl, hl, rfl⟩
theorem DPut.t {a b : Addr} {kvs : List (List Key × V)} {k : List Key} (e : H a = some (.dT kvs)) (eb : H b = some (.tup (k.map kV))) (hl : kvs.length < sizeLine) :
  DPut H a (.ref b) v (upd H a (.dT (z_9 kvs k v))) := .inr ⟨kvs, k, b, e, rfl, eb, hl, rfl⟩
section
variable {X : Cx} {zd : List (Addr × Obj)} {σ : St} {H : Hp} {s : Shared} {a : Addr} {y v : V} {u r : Value} {o : Option V} {A : Around} {E : Value → Shared → Prop}
theorem Inv.big (I : Inv X zd σ H s) : sysModules < s.heap.objs.size := by
 have h : mainGlobals < s.heap.objs.size := (I.mod.glob.keeps I.bk).lt
 exact Nat.lt_trans (by decide) h
theorem cc_5 {Q : Value → Shared → Prop} (hu : A.units + 1 < cLine) (I : Inv X zd σ H s) (g : DGet H a y (some v)) (ry : RelV y u) (h : ∀ w' s', Inv X zd σ H s' → RelV v w' → Q w' s') :
  wpAny (model X.prog X.w) A (getItem (.ref a) u) Q E s := by
 rcases g with ⟨kvs, k, e, ey, l⟩ | ⟨kvs, k, b, e, ey, eb, l⟩
 ·subst ey
  obtain ⟨z, hd, vs, rel, dd⟩ := ad_5 I.hok e
  obtain ⟨w', hw, rw'⟩ := RelO.some_of (v := v) (o := valueAt vs k) (by rw [l]; exact rel.val k)
  exact wpAny_getItem_of (ao_2 ry) dd.mapOf hw (h w' _ (I.tok _) rw')
 ·subst ey
  cases (show u = Value.ref b from ry)
  obtain ⟨z, hd, xs, rel, dd⟩ := av_9 I.hok e
  obtain ⟨w', hw, rw'⟩ := RelO.some_of (v := v) (o := (atKey xs k).map (·.2)) (by rw [l]; exact rel.val k)
  obtain ⟨p, hp, hp2⟩ := Option.map_eq_some_iff.mp hw
  refine wpAny_getItem_heap (tupleKind_room_in1 hu) (ao_3 I.hok eb) dd hp ?_
  rw [hp2]
  exact h w' _ (I.tok _) rw'
theorem d_in {Q : Value → Shared → Prop} (hu : A.units + 1 < cLine) (I : Inv X zd σ H s) (g : DGet H a y o) (ry : RelV y u) (h : ∀ s', Inv X zd σ H s' → Q (.bool o.isSome) s') :
  wpAny (model X.prog X.w) A (compareOp .In u (.ref a)) Q E s := by
 rcases g with ⟨kvs, k, e, ey, l⟩ | ⟨kvs, k, b, e, ey, eb, l⟩
 ·subst ey
  obtain ⟨z, hd, vs, rel, dd⟩ := ad_5 I.hok e
  refine wpAny_in_of (ao_2 ry) hd dd.mapOf ?_
  rw [← (rel.val k).isSome_eq, ← l]
  exact h _ (I.tok _)
 ·subst ey
  cases (show u = Value.ref b from ry)
  obtain ⟨z, hd, xs, rel, dd⟩ := av_9 I.hok e
  refine wpAny_in_heap (tupleKind_room_in1 hu) (ao_3 I.hok eb) hd dd ?_
  have q := (rel.val k).isSome_eq
  rw [Option.isSome_map] at q
  rw [← q, ← l]
  exact h _ (I.tok _)
theorem ct_1 {Q : Value → Shared → Prop} (hu : A.units + 1 < cLine) (I : Inv X zd σ H s) (g : DGet H a y o) (ry : RelV y u) (h : ∀ s', Inv X zd σ H s' → Q (.bool (!o.isSome)) s') :
  wpAny (model X.prog X.w) A (compareOp .NotIn u (.ref a)) Q E s := by
 rcases g with ⟨kvs, k, e, ey, l⟩ | ⟨kvs, k, b, e, ey, eb, l⟩
 ·subst ey
  obtain ⟨z, hd, vs, rel, dd⟩ := ad_5 I.hok e
  refine wpAny_notIn_of (ao_2 ry) hd dd.mapOf ?_
  rw [← (rel.val k).isSome_eq, ← l]
  exact h _ (I.tok _)
 ·subst ey
  cases (show u = Value.ref b from ry)
  obtain ⟨z, hd, xs, rel, dd⟩ := av_9 I.hok e
  refine wpAny_notIn_heap (tupleKind_room_in1 hu) (ao_3 I.hok eb) hd dd ?_
  have q := (rel.val k).isSome_eq
  rw [Option.isSome_map] at q
  rw [← q, ← l]
  exact h _ (I.tok _)
theorem ba_6 {h' : Heap} {t' : Nat} {ob : HO} (I : Inv X zd σ H s) (mu : Mut (H a)) (hs : Heap.SameBut a s.heap h') (he : ∃ q, h'.get? a = some q) (new : ObjOk X.prog X.w (upd H a ob) h' a ob) :
  Inv X zd σ (upd H a ob) { s with heap := h', toks := t' } :=
 I.write (x := a) (e := a) mu (.inl rfl) (fun b q hb z => (hs.2 b hb).trans z) he new
theorem cj_1 {w : World} {H' : Hp} {h' : Heap} {kvs : List (Key × V)} {vs : List (Key × Value)} (z : kvs.length ≤ sizeLine) (hd : (a == sysModules) = false) (rel : KV kvs vs) (dd : h'.DictOf (e_6 P w) a vs) :
  ObjOk P w H' h' a (.dK kvs) := ⟨z, hd, vs, rel, dd⟩
theorem cc_6 {H' : Hp} {Q : Unit → Shared → Prop} (hu : A.units + 1 < cLine) (I : Inv X zd σ H s) (g : DPut H a y v H') (ry : RelV y u) (rv : RelV v r) (h : ∀ s', Inv X zd σ H' s' → Q () s') :
  wpAny (model X.prog X.w) A (setItem (.ref a) u r) Q E s := by
 rcases g with ⟨kvs, k, e, ey, l, eH⟩ | ⟨kvs, k, b, e, ey, eb, l, eH⟩
 ·subst ey eH
  obtain ⟨z, hd, vs, rel, dd⟩ := cj_0 I.hok e
  have hz : vs.length ≤ sizeLine := by rw [← rel.length]; exact z
  have hl : (z_9 kvs k v).length ≤ sizeLine := by have := ai_5 kvs k v; omega
  refine wpAny_setItem_pairs (hsz := hz) (ao_2 ry) dd fun h' dd' hs => h _ ?_
  have he : ∃ q, h'.get? a = some q := let ⟨q, _, _, hq, _⟩ := dd'; ⟨q, hq⟩
  exact ba_6 I (by rw [e]; exact True.intro) hs he (cj_1 hl hd (rel.put k rv) dd')
 ·subst ey eH
  cases (show u = Value.ref b from ry)
  obtain ⟨z, hd, xs, rel, dd⟩ := dj_8 I.hok e
  have hz : xs.length ≤ sizeLine := by rw [← Paired.length rel]; exact z
  have hl : (z_9 kvs k v).length ≤ sizeLine := by have := ai_5 kvs k v; omega
  refine wpAny_setItem_heap (hsz := hz) (tupleKind_room_in1 hu) (ao_3 I.hok eb) dd fun h' dd' hs => h _ ?_
  obtain ⟨q, es, ep, hq, h2, h3, h4, _, h5⟩ := dd'
  refine ba_6 I (by rw [e]; exact True.intro) hs ⟨q, hq⟩ ⟨hl, hd, _, (rel.put k eb rv).keeps fun c ys ec => ?_, q, es, ep, hq, h2, h3, h4, h5⟩
  rw [a_8 (dh_1 ec e (fun z => nomatch z))]
  exact ec
end
section
variable {X : Cx} {zd : List (Addr × Obj)} {σ : St} {H : Hp} {s : Shared} {a : Addr} {kvs : List (Key × V)} {k : Key} {u : Value} {A : Around} {E : Value → Shared → Prop}
theorem dj_9 {more : List Value} {Q : Value → Shared → Prop} (I : Inv X zd σ H s) (e : H a = some (.dK kvs)) (ry : RelV (kV k) u) (l : q_2 kvs k = some v) (hm : more = [] ∨ ∃ x, more = [x])
  (h : ∀ w' s', Inv X zd σ (upd H a (.dK (m_3 kvs k))) s' → RelV v w' → Q w' s') : wpAny (model X.prog X.w) A (call (.builtin "dict.pop") (.ref a :: u :: more)) Q E s := by
 obtain ⟨z, hd, vs, rel, dd⟩ := cj_0 I.hok e
 obtain ⟨w', hw, rw'⟩ := RelO.some_of (v := v) (o := valueAt vs k) (by rw [← l]; exact rel.val k)
 have hp : (keyPart u).isSome = true := by
  cases k with
  | inl i => obtain ⟨t, q⟩ := (show ∃ t, u = Value.int i t from ry); subst q; rfl
  | inr x => obtain ⟨t, q⟩ := (show ∃ t, u = Value.str x t from ry); subst q; rfl
 have ha : argsOk "dict.pop" ⟨.ref a :: u :: more, []⟩ := by
  rcases hm with q | ⟨x, q⟩
  ·subst q; exact PySem.F.args_dict_pop_2 _ _
  ·subst q; exact PySem.F.args_dict_pop_3 _ _ _
 refine call_meetsIn PySem.F.slot_dict_pop dd.typeIs PySem.F.entry_dict_pop ha (meets_dict_pop_there (e_6 X.prog X.w) a (ao_2 ry) more hm hp)
  ⟨vs, w', dd, by rw [← rel.length]; exact z, hw, fun h' dd' hs => h w' _ ?_ rw'⟩
 have he : ∃ q, h'.get? a = some q := let ⟨q, _, _, hq, _⟩ := dd'; ⟨q, hq⟩
 exact ba_6 I (by rw [e]; exact True.intro) hs he (cj_1 (Nat.le_trans (ci_9 kvs k) z) hd (rel.drop k) dd')
theorem de_1 {r : Value} {Q : Value → Shared → Prop} (I : Inv X zd σ H s) (e : H a = some (.dK kvs)) (ry : RelV (kV k) u) (l : q_2 kvs k = none) (h : ∀ s', Inv X zd σ H s' → Q r s') :
  wpAny (model X.prog X.w) A (call (.builtin "dict.pop") [.ref a, u, r]) Q E s := by
 obtain ⟨z, hd, vs, rel, dd⟩ := cj_0 I.hok e
 have hn : valueAt vs k = none := RelO.none_of (by rw [← l]; exact rel.val k)
 have hp : (keyPart u).isSome = true := by
  cases k with
  | inl i => obtain ⟨t, q⟩ := (show ∃ t, u = Value.int i t from ry); subst q; rfl
  | inr x => obtain ⟨t, q⟩ := (show ∃ t, u = Value.str x t from ry); subst q; rfl
 exact call_meetsIn PySem.F.slot_dict_pop dd.typeIs PySem.F.entry_dict_pop (PySem.F.args_dict_pop_3 _ _ _) (meets_dict_pop_default (e_6 X.prog X.w) a (ao_2 ry) hd hp r) ⟨vs, dd, hn, h _ (I.tok _)⟩
theorem dk_0 {Q : Value → Shared → Prop} (I : Inv X zd σ H s) (e : Rd H a (.dK kvs)) (h : ∀ t s', Inv X zd σ H s' → Q (.int kvs.length t) s') : wpAny (model X.prog X.w) A (call (.builtin "len") [.ref a]) Q E s := by
 obtain ⟨z, hd, vs, rel, dd⟩ := ad_5 I.hok e
 refine call_len_dict hd dd (by rw [← rel.length]; rw [sizeLine_eq] at z; omega) ?_
 rw [← rel.length]
 exact h _ _ (I.tok _)
end
def NoSl (i : Expr) : Prop := ∀ ov iv, subscripted i false ov iv = operate [ov, iv] (getItem ov iv)
theorem ct_2 {prog : Program} {w : World} {A : Around} {E : Value → Shared → Prop} {s : Shared} {env : Env} {value slice : Expr} {T id : String} {Q : Value → Shared → Prop}
  (hl : typeLookup (.type T) "__getitem__" = pure (some (.builtin id))) (hs : NoSl slice)
  (h : wpAny (model prog w) A (eval value env) (fun o s₁ => wpAny (model prog w) A (eval slice env) (fun i s₂ => s₂.TypeIs o T ∧ wpAny (model prog w) A (getItem o i) Q E s₂) E s₁) E s) :
  wpAny (model prog w) A (eval (.Subscript value slice pos) env) Q E s := by
 refine Subscript_ (wpAny_mono h (fun o s₁ h₁ => wpAny_mono h₁ (fun i s₂ h₂ => ?_) fun _ _ x => x) fun _ _ x => x)
 obtain ⟨hT, h₂⟩ := h₂
 unfold subscriptTail
 refine wpAny_bind ?_
 rw [getitemInPython_of_ne hT.not_modules]
 refine wpAny_bind (wpAny_specialOf hT hl ?_)
 have fin : wpAny (model prog w) A (subscripted slice false o i) (fun r s₃ => wpAny (model prog w) A (letTemporaryGo value o r >>= fun _ => pure r) Q E s₃) E s₂ := by
  rw [hs o i]
  exact wpAny_operating (wpAny_mono h₂ (fun r s₃ h₃ => wpAny_bind (wpAny_letTemporaryGo (wpAny_pure h₃))) fun _ _ x => x)
 first
  | exact wpAny_pure (wpAny_bind fin)
  | exact wpAny_bind (wpAny_pure (wpAny_bind fin))
  | exact wpAny_bind fin
theorem bh_5 {zd : List (Addr × Obj)} {σ : St} {s : Shared} {a : Addr} {y : V} {o : Option V} (I : Inv X zd σ H s) (g : DGet H a y o) : s.TypeIs (.ref a) "dict" := by
 rcases g with ⟨kvs, k, e, _, _⟩ | ⟨kvs, k, b, e, _, _, _⟩
 ·obtain ⟨_, _, vs, _, dd⟩ := ad_5 I.hok e
  exact dd.typeIs
 ·obtain ⟨_, _, xs, _, dd⟩ := av_9 I.hok e
  exact dd.typeIs
def dk_1 (td ty : TE) : TE := fun σ H Q => td σ H fun x H1 => ty σ H1 fun y H2 => ∃ a v, x = .ref a ∧ DGet H2 a y (some v) ∧ Q v H2
def dk_2 (td ty tv : TE) : TS := fun D σ H => tv σ H fun v H1 => td σ H1 fun x H2 => ty σ H2 fun y H3 => ∃ a H4, x = .ref a ∧ DPut H3 a y v H4 ∧ D.nx σ H4
section
variable {X : Cx} {o i e value : Expr} {pos pos' zj : Pos} {td ty tv : TE}
theorem ba_7 (hu : X.A.units + 1 < cLine) (ho : PE X o td) (hi : PE X i ty) (hs : NoSl i) : PE X (.Subscript o i pos) (dk_1 td ty) := by
 intro zd s σ H Q I h
 refine ct_2 PySem.F.slot_dict_getitem.lookup hs (thn (ho zd s σ H _ I h) fun u s1 ⟨x, H1, I1, rx, q1⟩ => thn (hi zd s1 σ H1 _ I1 q1) fun iv s2 ⟨y, H2, I2, ry, a, v, ex, g, q2⟩ => ?_)
 subst ex
 obtain rfl : u = Value.ref a := rx
 exact ⟨bh_5 I2 g, cc_5 hu I2 g ry fun w' s3 I3 rw' => ⟨v, H2, I3, rw', q2⟩⟩
theorem ba_8 (hu : X.A.units + 1 < cLine) (ho : PE X o td) (hi : PE X i ty) (hv : PE X value tv) (hs : swapsWith value (some (.Subscript o i pos')) pos.line X.env = pure false) :
  PS X (.Assign [.Subscript o i pos'] value pos) (dk_2 td ty tv) := by
 intro zd s σ H D I h
 refine wpAny_Assign_Subscript (thn (hv zd s σ H _ I h) fun r s1 ⟨v, H1, I1, rv, q1⟩ => thn (ho zd s1 σ H1 _ I1 q1) fun u s2 ⟨x, H2, I2, rx, q2⟩ => thn (hi zd s2 σ H2 _ I2 q2) fun iv s3 ⟨y, H3, I3, ry, a, H4, ex, g, q3⟩ => ?_) hs
 subst ex
 obtain rfl : u = Value.ref a := rx
 exact cc_6 hu I3 g ry rv fun s4 I4 => ⟨σ, H4, I4, q3⟩
end
theorem cj_3 {w : World} (h : Heap) (hb : sysModules < h.objs.size) : ObjOk P w H (h.push { cls := .type "dict", data := .dict #[] }) h.objs.size (.dK []) :=
 ⟨Nat.zero_le _, beq_eq_false_iff_ne.mpr (Ne.symm (Nat.ne_of_lt hb)), [], .nil, Heap.DictOf.new h⟩
def de_2 : TE := fun _ H Q => ∀ p, H p = none → Q (.ref p) (upd H p (.dK []))
section
variable {X : Cx} {pos : Pos}
theorem bh_6 : PE X (.Dict [] [] pos) de_2 := fun zd s σ H Q I h =>
 wpAny_Dict_empty ⟨.ref s.heap.objs.size, _, I.laid (a := s.heap.objs.size) (o := .dK []) (t' := s.toks) (fun _ _ q => Heap.get?_push_of_some _ q) (Nat.le_refl _) (cj_3 s.heap I.big), rfl, h _ (I.hok.fresh (Nat.le_refl _))⟩
end
structure M1 (X : Cx) (o : Expr) (m : Str) (zh : Pos) (e : Expr) (zf : Pos) : Prop where
 base : attributeBase o m X.env (eval o X.env) = eval o X.env
 few : ((backTo zf (starEach [e] X.env)).all (fun x => !x.1) && (backToKw zf (keywordEach [] X.env)).all (fun x => x.1.isSome)
  && decide (([e] : List Expr).length + ([] : List Keyword).length + (if ([] : List Keyword).isEmpty then 0 else 1) < 30)) = true
 line : (zh.endLine == zf.line) = true
 trees : backTo zf (starEach [e] X.env) = [(false, eval e X.env)]
structure M2 (X : Cx) (o : Expr) (m : Str) (zh : Pos) (e f : Expr) (zf : Pos) : Prop where
 base : attributeBase o m X.env (eval o X.env) = eval o X.env
 few : ((backTo zf (starEach [e, f] X.env)).all (fun x => !x.1) && (backToKw zf (keywordEach [] X.env)).all (fun x => x.1.isSome)
  && decide (([e, f] : List Expr).length + ([] : List Keyword).length + (if ([] : List Keyword).isEmpty then 0 else 1) < 30)) = true
 line : (zh.endLine == zf.line) = true
 trees : backTo zf (starEach [e, f] X.env) = [(false, eval e X.env), (false, eval f X.env)]
def IsD (H : Hp) (a : Addr) : Prop := (∃ kvs, Rd H a (.dK kvs)) ∨ ∃ kvs, Rd H a (.dT kvs)
theorem de_3 {zd : List (Addr × Obj)} {σ : St} {s : Shared} {a : Addr} (I : Inv X zd σ H s) (d : IsD H a) :
  s.TypeIs (.ref a) "dict" ∧ (∀ b, Value.ref a = .ref b → ∃ ob, s.heap.get? b = some ob ∧ ob.dict = none) ∧ (a == sysModules) = false := by
 rcases d with ⟨kvs, e⟩ | ⟨kvs, e⟩
 ·obtain ⟨_, hd, vs, _, dd⟩ := ad_5 I.hok e
  refine ⟨dd.typeIs, fun b q => ?_, hd⟩
  cases q
  obtain ⟨ob, _, _, h1, h2, _⟩ := dd
  exact ⟨ob, h1, h2.2.1⟩
 ·obtain ⟨_, hd, xs, _, dd⟩ := av_9 I.hok e
  refine ⟨dd.typeIs, fun b q => ?_, hd⟩
  cases q
  obtain ⟨ob, _, _, h1, h2, _⟩ := dd
  exact ⟨ob, h1, h2.2.1⟩
section
variable {X : Cx} {zd : List (Addr × Obj)} {σ : St} {H : Hp} {s : Shared} {a : Addr} {y d : V} {u r : Value} {o : Option V} {A : Around} {E : Value → Shared → Prop}
end
def de_4 (td ty tx : TE) : TE := fun σ H Q => td σ H fun x H1 => ∃ a, x = .ref a ∧ IsD H1 a ∧ ty σ H1 fun y H2 => tx σ H2 fun z H3 => ∃ kvs k, H3 a = some (.dK kvs) ∧ y = kV k ∧
 (∀ v, q_2 kvs k = some v → Q v (upd H3 a (.dK (m_3 kvs k)))) ∧ (q_2 kvs k = none → Q z H3)
section
variable {X : Cx} {o e f : Expr} {zh zf : Pos} {td ty tx : TE}
theorem cj_4 (ho : PE X o td) (he : PE X e ty) (hf : PE X f tx) (m : M2 X o "pop" zh e f zf) : PE X (.Call (.Attribute o "pop" zh) [e, f] [] zf) (de_4 td ty tx) := by
 intro zd s σ H Q I h
 refine wpAny_Call_method m.base m.few m.line PySem.F.plainAttrs_dict PySem.F.slot_dict_pop PySem.F.type_dict_pop (thn (ho zd s σ H _ I h) fun u s1 ⟨x, H1, I1, rx, a, ex, d, q1⟩ => ?_)
 subst ex
 obtain rfl : u = Value.ref a := rx
 obtain ⟨t1, t2, _⟩ := de_3 I1 d
 refine ⟨t1, t2, ?_⟩
 rw [m.trees]
 refine Calls.callWith_builtin rfl (Calls.evalArgs_plain (Calls.spliced_cons (thn (he zd s1 σ H1 _ I1 q1) fun iv s2 ⟨y, H2, I2, ry, q2⟩ =>
  Calls.spliced_cons (thn (hf zd s2 σ H2 _ I2 q2) fun fv s3 ⟨z, H3, I3, rz, kvs, k, ea, ey, q3, q4⟩ => Calls.spliced_nil ?_))))
 subst ey
 cases l : q_2 kvs k with
 | some v => exact dj_9 I3 ea ry l (.inr ⟨fv, rfl⟩) fun w' s4 I4 rw' => ⟨v, _, I4, rw', q3 v l⟩
 | none => exact de_1 I3 ea ry l fun s4 I4 => ⟨z, H3, I4, rz, q4 l⟩
end
section
variable {X : Cx} {zd : List (Addr × Obj)} {σ : St} {H : Hp} {s : Shared} {a : Addr} {kvs : List (Key × V)} {A : Around} {E : Value → Shared → Prop}
end
section
variable {X : Cx} {zd : List (Addr × Obj)} {σ : St} {H : Hp} {s : Shared} {a : Addr} {y : V} {u : Value} {A : Around} {E : Value → Shared → Prop}
end
section
variable {X : Cx}
end
section
variable {κ : Type} [DecidableEq κ]
theorem cj_5 {kvs : List (κ × V)} {k : κ} (h : q_2 kvs k = none) : ¬ k ∈ kvs.map (·.1) := by
 intro m
 obtain ⟨p, hp, e⟩ := List.mem_map.mp m
 have q : (kvs.any fun kv => decide (kv.1 = k)) = true := List.any_eq_true.mpr ⟨p, hp, decide_eq_true e⟩
 rw [ao_1, h] at q
 exact absurd q (by simp)
theorem cc_7 {p : κ × V} {r : List (κ × V)} {k : κ} (e : p.1 = k) : m_3 (p :: r) k = m_3 r k := by
 unfold m_3
 rw [List.filter_cons, if_neg (by simp [e])]
theorem aw_0 {p : κ × V} {r : List (κ × V)} {k : κ} (e : ¬ p.1 = k) : m_3 (p :: r) k = p :: m_3 r k := by
 unfold m_3
 rw [List.filter_cons, if_pos (by simp [e])]
theorem bh_7 : ∀ {kvs : List (κ × V)} {k : κ}, ¬ k ∈ kvs.map (·.1) → m_3 kvs k = kvs
 | [], _, _ => rfl
 | p :: r, k, h => by
  have h' : ¬ k ∈ r.map (·.1) := fun m => by
   obtain ⟨q, hq, e⟩ := List.mem_map.mp m
   exact h (List.mem_map.mpr ⟨q, List.mem_cons.mpr (Or.inr hq), e⟩)
  rw [aw_0 fun e => h (List.mem_map.mpr ⟨p, List.mem_cons.mpr (Or.inl rfl), e⟩), bh_7 h']
end
end L2
namespace L3
open PySem PySem.Spec PyProof.Rows L2
variable {K : Frag} {fd : FuncData} {mg : Str → Option Value} {P : Program} {vs : List V} {us : List Value} {base : Heap} {H : Hp} {X : Cx} {pos : Pos} {v : V}
section
variable {X : Cx}
theorem c_9 {EX : EXT} {G H : Hp} {Q : VK} {d : D} (o : Out K EX G H (.ok (.sh d)) Q) (g : Same G H) (r : Has K G v d) : Q v H := WP.use o g r
def dk_3 (K : Frag) : R2 := fun x y H Q => ∃ l b xs zs, x = .ref l ∧ y = .ref b ∧ SqL K H l xs ∧ SqL K H b zs ∧ xs.length + zs.length ≤ sizeLine ∧ ∀ p, H p = none → Q (.ref p) (upd H p (.lst (xs ++ zs)))
theorem ct_3 : OpR X (binaryOp .Add) (dk_3 X.K) := by
 intro zd s σ H x y v u Q I rx ry h
 obtain ⟨l, b, xs, zs, rfl, rfl, hH, hB, hz, q⟩ := h
 cases rx
 cases ry
 obtain ⟨its, r, ⟨o, n, e, c, dd, dat⟩, z⟩ := I.list hH
 obtain ⟨its2, r2, ⟨o2, n2, e2, c2, dd2, dat2⟩, z2⟩ := I.list hB
 have hl := r.length
 have hl2 := r2.length
 obtain ⟨cls, dd', data, sl⟩ := o
 obtain ⟨gq, gn, data2, sl2⟩ := o2
 simp only at c dd dat c2 dd2 dat2
 subst c dd dat c2 dd2 dat2
 refine concat_meets ⟨_, e, rfl⟩ ⟨_, e2, rfl⟩ noFill_list_add seq_list_add PySem.F.slot_list_add PySem.F.entry_list_add (PySem.F.args_list_add_2 _ _) (list_addW l b its.toArray its2.toArray n n2 none none sl sl2 (by rw [List.size_toArray, List.size_toArray]; omega)) ⟨e, e2, ?_⟩
 have ea : its.toArray ++ its2.toArray = (its ++ its2).toArray := by simp
 rw [ea]
 exact ⟨.ref _, _, I.lnew (t' := s.toks) (r.append r2) (by rw [List.length_append]; omega), rfl, q _ I.fresh⟩
def d_7 : D → D → R W
 | .int i, .int j => .ok (.sh (.int (i + j)))
 | .str x, .str y => if x.length + y.length ≤ 16777216 then .ok (.sh (.str (x ++ y))) else .no
 | .lst a, .lst b => if a.length + b.length ≤ 16777216 then .ok (.ow (.lst (a ++ b))) else .no
 | _, _ => .no
theorem b_3 : OpD X (binaryOp .Add) d_7 := by
 intro zd s σ H x y v u Q I rx ry h
 obtain ⟨EX, G, a, b, g, ra, rb, o⟩ := h
 cases ra with
 | int i =>
  cases rb with
  | int j => exact dc_3 zd s σ H _ _ _ _ Q I rx ry ⟨i, j, rfl, rfl, c_9 o g (.int _)⟩
  | _ => exact False.elim o
 | str x =>
  cases rb with
  | str y =>
   simp only [d_7] at o
   split at o
   ·rename_i hz
    exact bp_5 zd s σ H _ _ _ _ Q I rx ry ⟨x, y, rfl, rfl, by rw [sizeLine_eq]; exact hz, c_9 o g (.str _)⟩
   ·exact o.elim
  | _ => exact False.elim o
 | lst h1 r1 =>
  cases rb with
  | lst h2 r2 =>
   simp only [d_7] at o
   split at o
   ·rename_i hz
    exact ct_3 zd s σ H _ _ _ _ Q I rx ry ⟨_, _, _, _, rfl, rfl, g.seq h1, g.seq h2, by rw [r1.length, r2.length, sizeLine_eq]; exact hz, y_9 o g (r1.append r2)⟩
   ·exact o.elim
  | _ => exact False.elim o
 | _ => cases rb <;> exact False.elim o
def intD (C : Int → Int → Bool) (f : Int → Int → Int) : D → D → R W
 | .int i, .int j => if C i j = true then .ok (.sh (.int (f i j))) else .no
 | _, _ => .no
theorem ad_6 {fn : Value → Value → Sem Value} {C : Int → Int → Bool} {P : Int → Int → Prop} {f : Int → Int → Int} (h : OpR X fn (rI P fun i j => .int (f i j))) (hC : ∀ i j, C i j = true → P i j) : OpD X fn (intD C f) := by
 intro zd s σ H x y v u Q I rx ry q
 obtain ⟨EX, G, a, b, g, ra, rb, o⟩ := q
 cases ra with
 | int i =>
  cases rb with
  | int j =>
   simp only [intD] at o
   split at o
   ·rename_i hc
    exact h zd s σ H _ _ _ _ Q I rx ry ⟨i, j, rfl, rfl, hC i j hc, c_9 o g (.int _)⟩
   ·exact o.elim
  | _ => exact False.elim o
 | _ => cases rb <;> exact False.elim o
def subD : D → D → R W := intD (fun _ _ => true) (fun i j => i - j)
def mulC (i j : Int) : Bool := decide (i.natAbs < 18446744073709551616 ∨ j.natAbs < 18446744073709551616)
def j_3 : D → D → R W := intD mulC (fun i j => i * j)
def divC (_ j : Int) : Bool := decide (0 < j ∧ j.natAbs < 1361129467683753853853498429727072845824)
def r_0 : D → D → R W := intD divC (fun i j => i / j)
def modC (_ j : Int) : Bool := decide (0 < j)
def h_4 : D → D → R W := intD modC (fun i j => i % j)
def powC (i j : Int) : Bool := decide (0 ≤ j ∧ j.natAbs ≤ 1000000 ∧ i.natAbs < 18446744073709551616)
def powD : D → D → R W := intD powC (fun i j => i ^ j.toNat)
theorem j_0 : OpD X (binaryOp .Sub) subD := ad_6 (P := fun _ _ => True) (opI fun _ _ _ _ _ _ _ _ q => sub_int q) fun _ _ _ => trivial
theorem c_1 : OpD X (binaryOp .Mult) j_3 := ad_6 dc_4 fun i j h => by
 have h := of_decide_eq_true h
 rcases h with h | h
 ·exact .inl ⟨by omega, by omega⟩
 ·exact .inr ⟨by omega, by omega⟩
theorem e_7 : OpD X (binaryOp .FloorDiv) r_0 := ad_6 (P := fun _ j => 0 < j ∧ j.natAbs < 1361129467683753853853498429727072845824) (opI fun i j _ _ _ _ _ hc q => by
 have h1 : (0 : Int) < j := hc.1
 have h2 := hc.2
 refine floordiv_int (by omega) ?_ (.inl (PyProof.noPylong_of_log2 ?_))
 ·rw [Int.fdiv_eq_ediv_of_nonneg i (by omega)]
  exact q
 ·have : j.natAbs < 2 ^ 130 := by
   have e : (2 : Nat) ^ 130 = 1361129467683753853853498429727072845824 := by decide
   omega
  have l : j.natAbs.log2 < 130 := (Nat.log2_lt (by omega)).mpr this
  omega) fun i j h => of_decide_eq_true h
theorem b_5 : OpD X (binaryOp .Mod) h_4 := ad_6 dc_5 fun i j h => of_decide_eq_true h
theorem ct_5 {i j : Int} (h : powC i j = true) : CPow i j := by
 obtain ⟨h1, h2, h3⟩ := of_decide_eq_true h
 refine ⟨h1, by omega, ?_⟩
 have e : (2 : Nat) ^ 64 = 18446744073709551616 := by decide
 omega
theorem v_3 : OpD X (binaryOp .Pow) powD := ad_6 dc_6 fun i j h => ct_5 h
def cmpD (f : Int → Int → Bool) : D → D → R W
 | .int i, .int j => .ok (.sh (.bl (f i j)))
 | _, _ => .no
theorem am_1 {fn : Value → Value → Sem Value} {f : Int → Int → Bool} (h : OpR X fn (rI0 fun i j => .bl (f i j))) : OpD X fn (cmpD f) := by
 intro zd s σ H x y v u Q I rx ry q
 obtain ⟨EX, G, a, b, g, ra, rb, o⟩ := q
 cases ra with
 | int i =>
  cases rb with
  | int j => exact h zd s σ H _ _ _ _ Q I rx ry ⟨i, j, rfl, rfl, c_9 o g (.bl _)⟩
  | _ => exact False.elim o
 | _ => cases rb <;> exact False.elim o
def ltD : D → D → R W := cmpD fun i j => decide (i < j)
def leD : D → D → R W := cmpD fun i j => decide (i ≤ j)
def gtD : D → D → R W := cmpD fun i j => decide (j < i)
def geD : D → D → R W := cmpD fun i j => decide (j ≤ i)
theorem bb_0 : OpD X (compareOp .Lt) ltD := am_1 di_7
theorem bb_1 : OpD X (compareOp .LtE) leD := am_1 di_8
theorem bq_7 : OpD X (compareOp .Gt) gtD := am_1 di_9
theorem cj_7 : OpD X (compareOp .GtE) geD := am_1 dj_0
mutual
def n_0 : D → PyData
 | .non => .none
 | .bl b => .bool b
 | .int i => .int i
 | .str x => .str x
 | .lst ds => .list (j_4 ds)
 | .tup ds => .tuple (j_4 ds)
 | .dic _ => .dict []
 | .exn _ _ _ => .dict []
 | .obj _ _ _ => .dict []
def j_4 : List D → List PyData
 | [] => []
 | d :: ds => n_0 d :: j_4 ds
end
mutual
theorem Has.reads (hK : X.K = K) {zd : List (Addr × Obj)} {σ : Sg} {s : Shared} (I : Inv X zd σ H s) {G : Hp} (g : Same G H) : ∀ {v : V} {d : D} {u : Value}, (n_0 d).canLay0 = true → Has K G v d → RelV v u → ∃ as, Reads s.heap u (n_0 d) as
 | _, _, _, _, .non, r => by cases r; exact ⟨_, .none⟩
 | _, _, _, _, .bl b, r => by cases r; exact ⟨_, .bool b⟩
 | _, _, _, _, .int i, r => by obtain ⟨t, rfl⟩ := r; exact ⟨_, .int i t⟩
 | _, _, _, _, .str x, r => by obtain ⟨t, rfl⟩ := r; exact ⟨_, .str x t⟩
 | _, _, _, c, .lst h r, q => by
  cases q
  obtain ⟨its, rv, ⟨o, n, e, c', _, dat⟩, _⟩ := I.list (by rw [hK]; exact g.seq h)
  obtain ⟨as, z⟩ := HasL.reads hK I g c r rv
  exact ⟨_, .list e c' dat z⟩
 | _, _, _, c, .tup h r, q => by
  cases q
  obtain ⟨its, rv, ⟨o, e, c', n, dat⟩, _⟩ := I.tuple (by rw [hK]; exact Same.tupS g h)
  obtain ⟨as, z⟩ := HasL.reads hK I g c r rv
  exact ⟨_, .tuple e c' dat z⟩
 | _, _, _, c, .exn0 _ _, _ => absurd c Bool.false_ne_true
 | _, _, _, c, .exn1 _ _ _ _ _, _ => absurd c Bool.false_ne_true
 | _, _, _, c, .dic _ _ _, _ => absurd c Bool.false_ne_true
 | _, _, _, c, .obj _ _ _ _, _ => absurd c Bool.false_ne_true
theorem HasL.reads (hK : X.K = K) {zd : List (Addr × Obj)} {σ : Sg} {s : Shared} (I : Inv X zd σ H s) {G : Hp} (g : Same G H) : ∀ {vs : List V} {ds : List D} {us : List Value}, PyData.canLayAll0 (j_4 ds) = true → HasL K G vs ds → Vals vs us → ∃ as, ReadsAll s.heap us (j_4 ds) as
 | _, _, _, _, .nil, r => by cases r; exact ⟨_, .nil⟩
 | _, _, _, c, .cons h t, r => by
  cases r with
  | cons r1 r2 =>
   have c' : (PyData.canLay0 (n_0 _) && PyData.canLayAll0 (j_4 _)) = true := c
   rw [Bool.and_eq_true] at c'
   obtain ⟨a1, z1⟩ := Has.reads hK I g c'.1 h r1
   obtain ⟨a2, z2⟩ := HasL.reads hK I g c'.2 t r2
   exact ⟨_, .cons z1 z2⟩
end
def eqC (a b : D) : Bool := (n_0 a).canLay0 && (n_0 b).canLay0 && decide ((n_0 a).depth ≤ 60)
def eqvD (a b : D) : Bool := (n_0 a).eqv (n_0 b)
def eqD (a b : D) : R W := match a, b with
 | .str x, .str y => .ok (.sh (.bl (decide (x = y))))
 | a, b => if eqC a b = true then .ok (.sh (.bl (eqvD a b))) else .no
def neD (a b : D) : R W := match a, b with
 | .str x, .str y => .ok (.sh (.bl (!decide (x = y))))
 | a, b => if eqC a b = true then .ok (.sh (.bl (!eqvD a b))) else .no
theorem bh_9 (x y : Str) : decide (V.str x = V.str y) = decide (x = y) := by
 by_cases e : x = y
 ·subst e; simp
 ·rw [decide_eq_false e, decide_eq_false (fun z => e (by injection z))]
theorem l_9 (hu : X.A.units + 64 < cLine) : OpD X (compareOp .Eq) eqD := by
 intro zd s σ H x y v u Q I rx ry q
 obtain ⟨EX, G, a, b, g, ra, rb, o⟩ := q
 unfold eqD at o
 split at o
 ·rename_i x y
  cases ra
  cases rb
  exact di_5 zd s σ H _ _ _ _ Q I rx ry ⟨rfl, by rw [bh_9]; exact c_9 o g (.bl _)⟩
 ·split at o
  ·rename_i hc
   unfold eqC at hc
   rw [Bool.and_eq_true, Bool.and_eq_true] at hc
   obtain ⟨⟨h1, h2⟩, h3⟩ := hc
   have h3 := of_decide_eq_true h3
   obtain ⟨as, za⟩ := Has.reads rfl I g h1 ra rx
   obtain ⟨bs, zb⟩ := Has.reads rfl I g h2 rb ry
   refine PySem.SeqAt.compareEq_reads za zb h1 h2 ?_ ⟨.bl _, H, I, rfl, c_9 o g (.bl _)⟩
   have := Nat.min_le_left (n_0 a).depth (n_0 b).depth
   omega
  ·exact o.elim
theorem bq_8 (hu : X.A.units + 64 < cLine) : OpD X (compareOp .NotEq) neD := by
 intro zd s σ H x y v u Q I rx ry q
 obtain ⟨EX, G, a, b, g, ra, rb, o⟩ := q
 unfold neD at o
 split at o
 ·rename_i x y
  cases ra
  cases rb
  exact di_6 zd s σ H _ _ _ _ Q I rx ry ⟨rfl, by rw [bh_9]; exact c_9 o g (.bl _)⟩
 ·split at o
  ·rename_i hc
   unfold eqC at hc
   rw [Bool.and_eq_true, Bool.and_eq_true] at hc
   obtain ⟨⟨h1, h2⟩, h3⟩ := hc
   have h3 := of_decide_eq_true h3
   obtain ⟨as, za⟩ := Has.reads rfl I g h1 ra rx
   obtain ⟨bs, zb⟩ := Has.reads rfl I g h2 rb ry
   refine PySem.SeqAt.compareNe_reads za zb h1 h2 ?_ ⟨.bl _, H, I, rfl, c_9 o g (.bl _)⟩
   have := Nat.min_le_left (n_0 a).depth (n_0 b).depth
   omega
  ·exact o.elim
def flatD : D → Bool
 | .non => true
 | .bl _ => true
 | .int _ => true
 | .str _ => true
 | _ => false
def flV : D → V
 | .bl b => .bl b
 | .int i => .int i
 | .str x => .str x
 | _ => .non
theorem Has.fl {G : Hp} {d : D} (r : Has K G v d) (f : flatD d = true) : v = flV d ∧ aa_2 v = true := by
 cases r with
 | non => exact ⟨rfl, rfl⟩
 | bl b => exact ⟨rfl, rfl⟩
 | int i => exact ⟨rfl, rfl⟩
 | str x => exact ⟨rfl, rfl⟩
 | lst _ _ => cases f
 | tup _ _ => cases f
 | exn0 _ _ => cases f
 | exn1 _ _ _ _ _ => cases f
 | dic _ _ _ => cases f
 | obj _ _ _ _ => cases f
theorem Has.ofFl {G G' : Hp} {d : D} (r : Has K G v d) (f : flatD d = true) : Has K G' v d := by
 cases r with
 | non => exact .non
 | bl b => exact .bl b
 | int i => exact .int i
 | str x => exact .str x
 | lst _ _ => cases f
 | tup _ _ => cases f
 | exn0 _ _ => cases f
 | exn1 _ _ _ _ _ => cases f
 | dic _ _ _ => cases f
 | obj _ _ _ _ => cases f
theorem HasL.fl {G : Hp} : ∀ {vs : List V} {ds : List D}, HasL K G vs ds → ds.all flatD = true → vs = ds.map flV ∧ vs.all aa_2 = true
 | _, _, .nil, _ => ⟨rfl, rfl⟩
 | _, _, .cons h r, f => by
  rw [List.all_cons, Bool.and_eq_true] at f
  obtain ⟨e1, e2⟩ := h.fl f.1
  obtain ⟨e3, e4⟩ := HasL.fl r f.2
  exact ⟨by rw [List.map_cons, ← e1, ← e3], by rw [List.all_cons, e2, e4]; rfl⟩
def eqF (a b : D) : Bool := eqV (flV a) (flV b)
def p_9 (d : D) (ds : List D) : Bool := ds.any fun y => eqF y d
theorem bw_3 (d : D) (ds : List D) : inV (flV d) (ds.map flV) = p_9 d ds := by
 unfold inV p_9
 rw [List.any_map]
 rfl
def inD (neg : Bool) : D → D → R W
 | .str i, .str j => .ok (.sh (.bl (if neg then !(!(Builtin.Str.occurrences j i 0 j.length 1).isEmpty) else !(Builtin.Str.occurrences j i 0 j.length 1).isEmpty)))
 | d, .lst ds => if (flatD d && ds.all flatD) = true then .ok (.sh (.bl (if neg then !p_9 d ds else p_9 d ds))) else .no
 | d, .tup ds => if (flatD d && ds.all flatD) = true then .ok (.sh (.bl (if neg then !p_9 d ds else p_9 d ds))) else .no
 | _, _ => .no
theorem bw_4 {EX : EXT} {G H : Hp} {x y : V} {d : D} {e : D} {Q : VK} {neg : Bool} (g : Same G H) (ra : Has X.K G x d) (rb : Has X.K G y e) (hd : ∀ i j, d = .str i → e = .str j → False) (o : Out X.K EX G H (inD neg d e) Q) : rIn X.K neg x y H Q := by
 cases rb with
 | lst h r =>
  rename_i ds
  have o' : Out X.K EX G H (if (flatD d && ds.all flatD) = true then .ok (.sh (.bl (if neg then !p_9 d ds else p_9 d ds))) else .no) Q := by
   cases d <;> exact o
  split at o'
  ·rename_i f
   rw [Bool.and_eq_true] at f
   obtain ⟨e1, e2⟩ := ra.fl f.1
   obtain ⟨e3, e4⟩ := r.fl f.2
   refine ⟨_, _, rfl, .inl (g.seq h), e2, e4, ?_⟩
   rw [e1, e3, bw_3]
   exact c_9 o' g (.bl _)
  ·exact o'.elim
 | tup h r =>
  rename_i ds
  have o' : Out X.K EX G H (if (flatD d && ds.all flatD) = true then .ok (.sh (.bl (if neg then !p_9 d ds else p_9 d ds))) else .no) Q := by
   cases d <;> exact o
  split at o'
  ·rename_i f
   rw [Bool.and_eq_true] at f
   obtain ⟨e1, e2⟩ := ra.fl f.1
   obtain ⟨e3, e4⟩ := r.fl f.2
   refine ⟨_, _, rfl, .inr (Same.tupS g h), e2, e4, ?_⟩
   rw [e1, e3, bw_3]
   exact c_9 o' g (.bl _)
  ·exact o'.elim
 | str j =>
  cases d with
  | str i => exact (hd i j rfl rfl).elim
  | _ => exact False.elim o
 | _ => cases d <;> exact False.elim o
theorem de_5 : OpD X (compareOp .In) (inD false) := by
 intro zd s σ H x y v u Q I rx ry q
 obtain ⟨EX, G, a, b, g, ra, rb, o⟩ := q
 by_cases hs : ∃ i j, a = .str i ∧ b = .str j
 ·obtain ⟨i, j, rfl, rfl⟩ := hs
  cases ra
  cases rb
  exact cb_3 zd s σ H _ _ _ _ Q I rx ry ⟨i, j, rfl, rfl, c_9 o g (.bl _)⟩
 ·exact cc_0 zd s σ H _ _ _ _ Q I rx ry (bw_4 g ra rb (fun i j e1 e2 => hs ⟨i, j, e1, e2⟩) o)
theorem ag_1 : OpD X (compareOp .NotIn) (inD true) := by
 intro zd s σ H x y v u Q I rx ry q
 obtain ⟨EX, G, a, b, g, ra, rb, o⟩ := q
 by_cases hs : ∃ i j, a = .str i ∧ b = .str j
 ·obtain ⟨i, j, rfl, rfl⟩ := hs
  cases ra
  cases rb
  exact ba_2 zd s σ H _ _ _ _ Q I rx ry ⟨i, j, rfl, rfl, c_9 o g (.bl _)⟩
 ·exact ba_1 zd s σ H _ _ _ _ Q I rx ry (bw_4 g ra rb (fun i j e1 e2 => hs ⟨i, j, e1, e2⟩) o)
def p_3 : List D → R W
 | [.str x] => if x.length ≤ 16777216 then .ok (.sh (.int x.length)) else .no
 | [.lst ds] => .ok (.sh (.int ds.length))
 | [.tup ds] => .ok (.sh (.int ds.length))
 | _ => .no
theorem d_8 : t_9 X (.builtin "len") p_3 := by
 intro zd s σ H vs us Q I rv q
 obtain ⟨EX, G, ds, g, r, o⟩ := q
 cases r with
 | nil => exact False.elim o
 | cons h t =>
  cases t with
  | cons _ _ => cases h <;> exact False.elim o
  | nil =>
   cases h with
   | str x =>
    simp only [p_3] at o
    split at o
    ·rename_i hz
     exact ba_3 zd s σ H _ _ Q I rv ⟨x, rfl, by rw [sizeLine_eq]; exact hz, c_9 o g (.int _)⟩
    ·exact o.elim
   | lst h r => exact ad_2 zd s σ H _ _ Q I rv ⟨_, _, rfl, .inl (g.seq h), by rw [r.length]; exact c_9 o g (.int _)⟩
   | tup h r => exact ad_2 zd s σ H _ _ Q I rv ⟨_, _, rfl, .inr (Same.tupS g h), by rw [r.length]; exact c_9 o g (.int _)⟩
   | _ => exact False.elim o
def maxD : List D → R W
 | [.int i, .int j] => .ok (.sh (.int (if j > i then j else i)))
 | _ => .no
def minD : List D → R W
 | [.int i, .int j] => .ok (.sh (.int (if j < i then j else i)))
 | _ => .no
theorem ao_5 {G : Hp} {ds : List D} (r : HasL K G vs ds) {P : Prop} (h : ∀ i j, vs = [.int i, .int j] → ds = [.int i, .int j] → P) (n : (∀ i j, ds ≠ [.int i, .int j]) → P) : P := by
 by_cases e : ∃ i j, ds = [.int i, .int j]
 ·obtain ⟨i, j, rfl⟩ := e
  cases r with
  | cons a t =>
   cases t with
   | cons b t2 =>
    cases t2
    cases a
    cases b
    exact h i j rfl rfl
 ·exact n fun i j z => e ⟨i, j, z⟩
theorem ct_6 {ds : List D} (h : ∀ i j, ds ≠ [.int i, .int j]) : maxD ds = .no := by
 unfold maxD
 split
 ·rename_i i j; exact absurd rfl (h i j)
 ·rfl
theorem ct_7 {ds : List D} (h : ∀ i j, ds ≠ [.int i, .int j]) : minD ds = .no := by
 unfold minD
 split
 ·rename_i i j; exact absurd rfl (h i j)
 ·rfl
theorem u_1 (hc : X.calm = true) : t_9 X (.builtin "max") maxD := by
 intro zd s σ H vs us Q I rv q
 obtain ⟨EX, G, ds, g, r, o⟩ := q
 refine ao_5 r (fun i j e1 e2 => ?_) fun n => ?_
 ·subst e1 e2
  exact cb_4 hc zd s σ H _ _ Q I rv ⟨i, j, rfl, c_9 o g (.int _)⟩
 ·rw [ct_6 n] at o; exact o.elim
theorem z_0 (hc : X.calm = true) : t_9 X (.builtin "min") minD := by
 intro zd s σ H vs us Q I rv q
 obtain ⟨EX, G, ds, g, r, o⟩ := q
 refine ao_5 r (fun i j e1 e2 => ?_) fun n => ?_
 ·subst e1 e2
  exact cb_5 hc zd s σ H _ _ Q I rv ⟨i, j, rfl, c_9 o g (.int _)⟩
 ·rw [ct_7 n] at o; exact o.elim
def aw_1 : List D → R W
 | [.int i] => .ok (.sh (.int i))
 | [.bl k] => .ok (.sh (.int (if k then 1 else 0)))
 | _ => .no
theorem bq_9 : t_9 X (.type "int") aw_1 := by
 intro zd s σ H vs us Q I rv q
 obtain ⟨EX, G, ds, g, r, o⟩ := q
 cases r with
 | nil => exact False.elim o
 | cons h t =>
  cases t with
  | cons _ _ => cases h <;> exact False.elim o
  | nil =>
   cases h with
   | int i => exact au_8 zd s σ H _ _ Q I rv (.inl ⟨i, rfl, c_9 o g (.int _)⟩)
   | bl k => exact au_8 zd s σ H _ _ Q I rv (.inr ⟨k, rfl, c_9 o g (.int _)⟩)
   | _ => exact False.elim o
def bb_3 : List D → R W
 | [.lst ds] => .ok (.ow (.lst ds))
 | [.tup ds] => .ok (.ow (.lst ds))
 | _ => .no
theorem ai_6 : t_9 X (.type "list") bb_3 := by
 intro zd s σ H vs us Q I rv q
 obtain ⟨EX, G, ds, g, r, o⟩ := q
 cases r with
 | nil => exact False.elim o
 | cons h t =>
  cases t with
  | cons _ _ => cases h <;> exact False.elim o
  | nil =>
   cases h with
   | lst h r => exact ad_3 zd s σ H _ _ Q I rv ⟨_, _, rfl, .inl (g.seq h), y_9 o g r⟩
   | tup h r => exact ad_3 zd s σ H _ _ Q I rv ⟨_, _, rfl, .inr (Same.tupS g h), y_9 o g r⟩
   | _ => exact False.elim o
def cj_8 : List D → R W
 | [.lst ds] => .ok (.sh (.tup ds))
 | [.tup ds] => .ok (.sh (.tup ds))
 | _ => .no
theorem br_0 : t_9 X (.type "tuple") cj_8 := by
 intro zd s σ H vs us Q I rv q
 obtain ⟨EX, G, ds, g, r, o⟩ := q
 cases r with
 | nil => exact False.elim o
 | cons h t =>
  cases t with
  | cons _ _ => cases h <;> exact False.elim o
  | nil =>
   cases h with
   | lst h r =>
    refine aa_3 zd s σ H _ _ Q I rv ⟨_, _, rfl, .inl ⟨g.seq h, fun p hp => ?_⟩⟩
    exact o (.ref p) _ _ (Step.new g hp _) (.tup (SqT.of b_1) (r.mono (i_1 (g.free hp) _)))
   | tup h r => exact aa_3 zd s σ H _ _ Q I rv ⟨_, _, rfl, .inr ⟨Same.tupS g h, c_9 o g (.tup h r)⟩⟩
   | _ => exact False.elim o
end
structure RoomC (c : Bool) (k : Nat) (A : Around) : Prop where
 hd : c = true → A.handled = none
 dp : A.depth + 3 * k + 5 < recursionLimit
 un : A.units + 16 * k + 200 < cLine
theorem RoomC.mono {c : Bool} {j k : Nat} {A : Around} (r : RoomC c k A) (h : j ≤ k) : RoomC c j A := ⟨r.hd, by have := r.dp; omega, by have := r.un; omega⟩
theorem RoomC.deeper {c : Bool} {k : Nat} {A : Around} (r : RoomC c (k + 1) A) (env : Env) : RoomC c k (A.deeper env) :=
 ⟨r.hd, by have := r.dp; show A.depth + 1 + 3 * k + 5 < _; omega, by have := r.un; show A.units + 3 + 16 * k + 200 < _; omega⟩
theorem RoomC.make {c : Bool} {k : Nat} {A : Around} (r : RoomC c (k + 1) A) (C : Addr) (us : List Value) (kw : List (Str × Value)) : RoomC c k (A.under (.builtin "type.__call__" ⟨.ref C :: us, kw⟩)) :=
 ⟨r.hd, by have := r.dp; rw [bp_8]; omega, by have := r.un; rw [bp_9]; omega⟩
theorem RoomC.loose {c : Bool} {k : Nat} {A : Around} (r : RoomC c k A) : RoomC false k A := ⟨fun z => absurd z Bool.false_ne_true, r.dp, r.un⟩
theorem RoomC.mark {c : Bool} {k : Nat} {A : Around} (r : RoomC c k A) (h : Option Value) : RoomC false k (A.mark h) := ⟨fun z => absurd z Bool.false_ne_true, r.dp, r.un⟩
theorem RoomC.of {k : Nat} {A : Around} (r : Room k A) : RoomC true k A := ⟨fun _ => r.hd, r.dp, r.un⟩
structure FnX (P : Program) (w : World) (K : Frag) (mg : Str → Option Value) (base : Heap) (c : Bool) (k : Nat) (f : Addr) (fd : FuncData) (ps : List Str) (sp : Sp) : Prop where
 len : ∀ vs H Q E, sp vs H Q E → vs.length = ps.length
 run : ∀ (A : Around) (outer : List Env) (s : Shared) (H : Hp) (args : Args) (us : List Value) (vs : List V) (Q : VK) (E : XK), RoomC c k A → Env0 P w K mg base A outer s H → BindsTo s fd args (ps.zip us) → Vals vs us → sp vs H Q E →
  codeAny (model P w) A (.call (.ref f) args) (CR (CXr P w) outer P w H s Q E) s
abbrev cxN (c : Bool) (P : Program) (w : World) (K : Frag) (mg : Str → Option Value) (base : Heap) (N : List Str) (qual : Str) (scope : Scope) (f : Addr) (cd : Value) (A : Around) (outer : List Env) (s : Shared) (H : Hp) (E : XK) : Cx :=
 { cxOf (CXr P w) P w K mg base N qual scope f cd A outer s H E with calm := c }
theorem br_1 {c : Bool} {w : World} {N ps : List Str} {qual : Str} {scope : Scope} {f : Addr} {cd : Value} {A : Around} {outer : List Env} {s s1 : Shared} {E : XK} {vs : List V}
  (S : FnScope N ps scope) (hd : c = true → A.handled = none) (e0 : Env0 P w K mg base A outer s H) (hl : vs.length = ps.length) (r : Vals vs us)
  (x : InCallC s s.heap.objs.size (bindL (envOfC qual scope s.heap.objs.size f cd).kindOf (ps.zip us) fun _ => none) (cellsFrom (s.heap.objs.size + 1) scope.names []) (bindC (envOfC qual scope s.heap.objs.size f cd).kindOf (ps.zip us) fun _ => none) s1) :
  Inv (cxN c P w K mg base N qual scope f cd A outer s H E) [] (l_0 N vs) H s1 := by
 have I := cb_8 (CX := CXr P w) (E := E) (qual := qual) (f := f) (cd := cd) (A := { A with handled := none }) S rfl ⟨e0.frames, e0.mod, e0.bs, e0.bsz, e0.funs, e0.frf, e0.hok, e0.bare⟩ hl r x
 exact ⟨⟨I.ok.mod, I.ok.kind, I.ok.glob, I.ok.blt, I.ok.above, I.ok.inj, I.ok.has, I.ok.cab, hd, Around.frames_deeper e0.frames, I.ok.stk, I.ok.exf, I.ok.bs, I.ok.bsz, I.ok.noex, I.ok.exfs, I.ok.funs, I.ok.frf⟩,
  I.os, I.bare, I.base, I.loc, I.cell, I.free, I.freeC, I.pin, I.hok, I.len⟩
theorem de_6 {c : Bool} {w : World} {k : Nat} {f : Addr} {name qual : Str} {params : Arguments} {body : List Stmt} {scope : Scope} {dV kV doc pm zq ct oc : Value} {an od : Option Addr}
  {osl : Array (Option Value)} {N ps : List Str} {sp : Sp} (lk : K.lookup f = some ⟨oc, od, .func (fnOf name qual params body scope dV kV doc pm an zq ct), osl⟩) (hcd : codeIn K zq qual = true) (S : FnScope N ps scope)
  (len : ∀ vs H Q E, sp vs H Q E → vs.length = ps.length)
  (zk : ∀ (A : Around) (outer : List Env) (s : Shared) (H : Hp) (vs : List V) (Q : VK) (E : XK), RoomC c k (A.deeper (envOfC qual scope s.heap.objs.size f zq)) → sp vs H Q E →
   ∃ t, PSs (cxN c P w K mg base N qual scope f zq A outer s H E) body t ∧ t { nx := fun _ H' => Q .non H', rt := Q } (l_0 N vs) H) :
  FnX P w K mg base c (k + 1) f (fnOf name qual params body scope dV kV doc pm an zq ct) ps sp := by
 refine ⟨len, fun A outer s H args us vs Q E hr e0 hb r hsp => ?_⟩
 have hl := len _ _ _ _ hsp
 have KX : K.In s.heap := e0.mod.kin.keeps fun b o e => (e0.bs b o e).1
 have lim : s.heap.NoLimit := e0.mod.nolimit.keeps fun b o e => (e0.bs b o e).1
 have cg : ∀ y ∈ ps.zip us, scope.names.lookup y.1 = some .local ∨ (scope.names.lookup y.1 = some .cell ∧ ((cellsFrom (s.heap.objs.size + 1) scope.names []).lookup y.1).isSome = true) := fun ⟨n, v⟩ hy => by
  rcases S.par n (List.of_mem_zip hy).1 with q | q
  ·exact .inl q
  ·exact .inr ⟨q, cellsFrom_some _ _ _ (.inl q)⟩
 have dp : A.depth < recursionLimit := by have := hr.dp; omega
 refine codeAny_call_function dp (KX _ _ lk) rfl S.co S.gen rfl (codeRec_of KX hcd) (hb _ _ _ _ ?_)
 refine wpAny_newFunctionEnv_cells S.kind cg fun env he s1 x => ?_
 subst he
 refine ⟨lim.keeps x.toInCall.keep, codeAny_func ?_⟩
 obtain ⟨t, ht, hq⟩ := zk A outer s H vs Q E (hr.deeper _) hsp
 have I : Inv (cxN c P w K mg base N qual scope f zq A outer s H E) [] (l_0 N vs) H s1 := br_1 S hr.hd e0 hl r x
 refine wpAny_mono (ht [] s1 (l_0 N vs) H _ I hq) (fun fl s' hs => ?_) fun e s' hs => hs
 have fin : ∀ {σ' : Sg} {H' : Hp} {v : V} {u : Value}, Inv (cxN c P w K mg base N qual scope f zq A outer s H E) [] σ' H' s' → RelV v u → Q v H' → CE outer P w H s Q u s' :=
  fun {σ' H' v u} J rv q => ⟨v, H', J.os, J.bare, J.base, J.hok, rv, q⟩
 cases fl with
 | ret u =>
  obtain ⟨v, σ', H', J, rv, q⟩ := hs
  exact fin J rv q
 | next =>
  obtain ⟨σ', H', J, q⟩ := hs
  exact fin (v := V.non) (u := Value.none) J rfl q
 | brk =>
  obtain ⟨_, _, _, q⟩ := hs
  exact False.elim q
 | cont =>
  obtain ⟨_, _, _, q⟩ := hs
  exact False.elim q
theorem Fun.okX {c : Bool} {w : World} {x qual : Str} {st : Stmt} {f : Addr} {N ps : List Str} {k : Nat} {sp : Sp} (F : Fun K x qual st f fd) (S : FnScope N ps (b_2 st)) (len : ∀ vs H Q E, sp vs H Q E → vs.length = ps.length)
  (zk : ∀ (zq : Value) (A : Around) (outer : List Env) (s : Shared) (H : Hp) (vs : List V) (Q : VK) (E : XK), RoomC c k (A.deeper (envOfC qual (b_2 st) s.heap.objs.size f zq)) → sp vs H Q E →
   ∃ t, PSs (cxN c P w K mg base N qual (b_2 st) f zq A outer s H E) (d_3 st) t ∧ t { nx := fun _ H' => Q .non H', rt := Q } (l_0 N vs) H) : FnX P w K mg base c (k + 1) f fd ps sp := by
 obtain ⟨oc, od, kV, doc, pm, an, zq, ct, osl, rfl, lk, hcd⟩ := F.ex
 exact de_6 lk hcd S len fun A outer s H vs Q E hr hsp => zk zq A outer s H vs Q E hr hsp
def Lk (X : Cx) (EX : EXS) : Prop := ∀ (zd : List (Addr × Obj)) (σ : Sg) (H : Hp) (s : Shared) (e : Value) (s' : Shared), Inv X zd σ H s → CXr X.prog X.w X.stack H s (EXE X.K (EX σ)) e s' → X.xe e s'
theorem n_1 : Lk X m_9 := fun zd σ H s e s' I c => by
 obtain ⟨a, C, dx, T, H', _, _, _, _, _, _, _, _, _, _, x, G, _, _, q⟩ := c
 exact False.elim q
theorem br_2 {c : Bool} {w : World} {N : List Str} {qual : Str} {scope : Scope} {f : Addr} {cd : Value} {A : Around} {outer : List Env} {s : Shared} {E : XK} :
  Lk (cxN c P w K mg base N qual scope f cd A outer s H E) (fun _ => EXof K E) := fun zd σ H s e s' I h => cc_3 I h fun cls dx H' q => q.of
def spX (K : Frag) (n : Nat) (F : List D → R W) : Sp := fun vs H Q E => vs.length = n ∧ ∃ G ds, Same G H ∧ HasL K G vs ds ∧ Out K (EXof K E) G H (F ds) Q
def eFn (n : Nat) (F : List D → R W) (fa : FA) : FE := fun δ => (fa δ).bind fun ds => if ds.length = n then F ds else .no
def FnD (P : Program) (w : World) (K : Frag) (mg : Str → Option Value) (base : Heap) (c : Bool) (x : Str) (k : Nat) (ps : List Str) (F : List D → R W) : Prop :=
 ∃ f fd, FnX P w K mg base c k f fd ps (spX K ps.length F) ∧ mg x = some (.ref f) ∧ keepIn K (.ref f) = true ∧ Binds K fd ps []
section
variable {X : Cx} {EX : EXS} {e : Expr} {es : List Expr} {fa : FA} {x : Str} {pp pos : Pos} {c : Bool} {k k' : Nat} {ps : List Str} {F : List D → R W}
theorem am_2 {zd : List (Addr × Obj)} {σ : Sg} {s : Shared} {Q : VK} {f : Addr} {sp : Sp} (F : FnX X.prog X.w X.K X.mg X.base c k f fd ps sp) (hr : RoomC c k X.A) (hb : Binds X.K fd ps []) (lk : Lk X EX)
  (I : Inv X zd σ H s) (r : Vals vs us) (h : sp vs H Q (EXE X.K (EX σ))) : wpAny (model X.prog X.w) X.A (call (.ref f) us) (EP X zd σ Q) X.xe s := by
 have hl : us.length = ps.length := by rw [← r.length]; exact F.len _ _ _ _ h
 have hb' := hb s us I.kIn (by rw [List.append_nil]; exact hl)
 rw [List.append_nil] at hb'
 refine wpAny_call (codeAny_mono (F.run X.A X.stack s H ⟨us, []⟩ us vs Q _ hr I.env0 hb' r h) fun r s' hq => ?_)
 cases r with
 | error e => exact lk zd σ H s e s' I hq
 | ok fl =>
  cases fl with
  | ret u => exact I.after hq
  | next => exact False.elim hq
  | brk => exact False.elim hq
  | cont => exact False.elim hq
theorem a_7 (hr : RoomC c k' X.A) (lk : Lk X EX) (h : FnD X.prog X.w X.K X.mg X.base c x k ps F) (ha : AD X EX (e :: es) fa) (hk : k ≤ k' := by decide) (hg : Gl X x := by rfl) (hdb : (x == ("__debug__" : Str)) = false := by decide)
  (he : starEach (e :: es) X.env = (false, eval e X.env) :: starEach es X.env := by rfl) (hpl : (backTo pos (starEach es X.env)).any (·.1) = false := by rfl) :
  ED X EX (.Call (.Name x pp) (e :: es) [] pos) (eFn ps.length F fa) := by
 obtain ⟨f, fd, ok, hm, kp, hb⟩ := h
 intro zd s σ H Q I q
 obtain ⟨G, δ, g0, s0, o⟩ := q
 refine wpAny_Call_Name_kw (s_3 I hg hm ?_ hdb)
 have ta : tDa X.K EX fa σ H fun vs H1 => spX X.K ps.length F vs H1 Q (EXE X.K (EX σ)) := by
  refine tDa.seq g0 s0 o fun ds vs G' H' _ st r o' => ?_
  split at o'
  ·rename_i hl
   refine ⟨by rw [r.length]; exact hl, G', ds, st.gh, r, ?_⟩
   cases q : F ds with
   | ok w => rw [q] at o'; exact o'
   | ex x => rw [q] at o'; exact EXof.in o'
   | no => rw [q] at o'; exact o'.elim
  ·exact o'.elim
 refine callWith_K (h₀ := X.base) I.ok.mod.kin kp (thn (ha pos zd s σ H _ I ta) fun us s1 ⟨vs, H1, I1, r, q⟩ => ⟨I1.kIn, ?_⟩) he hpl
 exact am_2 ok (hr.mono hk) hb lk I1 r q
end
inductive Sl where
 | no | sh (d : D) | ow (d : D) | tr (t : Tn) | lk (d : D) | lt (t : Tn)
abbrev SE := List Sl
inductive Fl where
 | nx (Δ : SE) | rt (w : W) | bk (Δ : SE) | ct (Δ : SE) | ex (x : Xn) (Δ : SE) | no
abbrev FS := SE → Fl
def Sl.pub : Sl → Option D
 | .sh d => some d
 | _ => none
def Sl.any : Sl → Option D
 | .sh d => some d
 | .ow d => some d
 | .tr t => some t.d
 | .lk d => some d
 | .lt t => some t.d
 | .no => none
def Sl.give : Sl → Sl
 | .ow d => .sh d
 | .tr t => .sh t.d
 | s => s
def Sl.own : Sl → Option Tn
 | .ow d => some (Tn.of d)
 | .tr t => some t
 | .lk d => some (Tn.of d)
 | .lt t => some t
 | _ => none
def vsh (Δ : SE) : DE := Δ.map Sl.pub
def vall (Δ : SE) : DE := Δ.map Sl.any
def gall (Δ : SE) : SE := Δ.map Sl.give
abbrev OS := Nat → AS
structure HB where
 h : Hp
 b : Nat → Addr
structure Ev (K : Frag) (H0 : HB) (G0 G H : Hp) (σ : Sg) (Δ : SE) (A : OS) : Prop where
 st : Step G0 H0.h G H
 len : σ.length = Δ.length
 sh : ∀ (i : Nat) (d : D), Δ[i]? = some (.sh d) → ∃ v, σ[i]? = some (some v) ∧ Has K G v d
 ow : ∀ (i : Nat) (s : Sl) (t : Tn), Δ[i]? = some s → s.own = some t → ∃ v, σ[i]? = some (some v) ∧ Ow K G H v t (A i)
 out : ∀ (i : Nat) (a : Addr), A i a → G a = none ∧ H0.h a = none ∧ H a ≠ none
 dj : ∀ (i j : Nat) (a : Addr), A i a → A j a → i = j
 lk : ∀ (i : Nat) (d : D), Δ[i]? = some (.lk d) → σ[i]? = some (some (.ref (H0.b i)))
 lt : ∀ (i : Nat) (t : Tn), Δ[i]? = some (.lt t) → σ[i]? = some (some (.ref (H0.b i)))
def s_1 (G H : Hp) (A : OS) : Hp := m_2 G H fun b => ∃ i, A i b
structure MStep (S : AS) (G H G' H' : Hp) : Prop where
 hh : ∀ b o, ¬ S b → H b = some o → H' b = some o
 al : ∀ b, H b ≠ none → H' b ≠ none
 gh : Same G' H'
 gg : Same G G'
 nw : ∀ b, G b = none → H b ≠ none → G' b = none
structure MStep2 (S : AS) (G H G' H' : Hp) : Prop where
 hh : ∀ b o, ¬ S b → H b = some o → H' b = some o
 gh : Same G' H'
 gg : Same G G'
 nw : ∀ b, ¬ S b → G b = none → H b ≠ none → G' b = none
theorem MStep.weak {S : AS} {G H G' H' : Hp} (m : MStep S G H G' H') : MStep2 S G H G' H' := ⟨m.hh, m.gh, m.gg, fun b _ => m.nw b⟩
theorem Step.m {S : AS} {G H G' H' : Hp} (s : Step G H G' H') : MStep S G H G' H' := ⟨fun b o _ q => s.hh b o q, fun b n z => n (s.hh.free z), s.gh, s.gg, s.nw⟩
theorem MStep.andThen {S : AS} {G H G1 H1 G2 H2 : Hp} (a : MStep S G H G1 H1) (b : Step G1 H1 G2 H2) : MStep S G H G2 H2 :=
 ⟨fun c o n q => b.hh c o (a.hh c o n q), fun c n z => a.al c n (b.hh.free z), b.gh, a.gg.trans b.gg, fun c e n => b.nw c (a.nw c e n) (a.al c n)⟩
theorem MStep.write {S : AS} {G H : Hp} (g : Same G H) {a : Addr} (hs : S a) (n : G a = none) (o : HO) : MStep S G H G (L2.upd H a o) :=
 ⟨fun b o' nb q => by rw [a_8 (fun z => nb (by rw [z]; exact hs))]; exact q, fun b nb => by
  by_cases z : b = a
  ·subst z; rw [b_1]; simp
  ·rw [a_8 z]; exact nb, fun b o' q => by
  by_cases z : b = a
  ·subst z; rw [n] at q; cases q
  ·rw [a_8 z]; exact g b o' q, Same.refl _, fun _ e _ => e⟩
def setA (A : OS) (i : Nat) (S : AS) : OS := fun j => if j = i then S else A j
theorem h_1 {A : OS} {i : Nat} {S : AS} : setA A i S i = S := if_pos rfl
theorem g_9 {A : OS} {i j : Nat} {S : AS} (h : j ≠ i) : setA A i S j = A j := if_neg h
section
variable {K : Frag} {H0 : HB} {G0 G H G' H' : Hp} {σ : Sg} {Δ : SE} {A : OS}
theorem Ev.gsh (E : Ev K H0 G0 G H σ Δ A) : HasS K G σ (vsh Δ) := ⟨by rw [E.len]; unfold vsh; rw [List.length_map], fun i d q => by
 unfold vsh at q
 rw [List.getElem?_map] at q
 cases e : Δ[i]? with
 | none => rw [e] at q; cases q
 | some z =>
  rw [e] at q
  cases z with
  | sh d' => cases q; exact E.sh i d e
  | _ => cases q⟩
theorem Ev.aH (E : Ev K H0 G0 G H σ Δ A) : Same (s_1 G H A) H := fun b o q => by
 unfold s_1 m_2 at q
 split at q
 ·exact q
 ·exact E.st.gh b o q
theorem Ev.aG (E : Ev K H0 G0 G H σ Δ A) : Same G (s_1 G H A) := fun b o q => by
 unfold s_1 m_2
 split
 ·rename_i hb; obtain ⟨i, hb⟩ := hb; rw [(E.out i b hb).1] at q; cases q
 ·exact q
theorem Ev.aStep (E : Ev K H0 G0 G H σ Δ A) : Step G0 H0.h (s_1 G H A) H :=
 ⟨E.st.hh, E.aH, E.st.gg.trans E.aG, fun b n z => by
  unfold s_1 m_2
  split
  ·rename_i hb; obtain ⟨i, hb⟩ := hb; exact absurd (E.out i b hb).2.1 z
  ·exact E.st.nw b n z⟩
theorem Ev.aIn {A : OS} {G H : Hp} {i : Nat} {b : Addr} {o : HO} (hb : A i b) (q : H b = some o) : s_1 G H A b = some o := by
 unfold s_1 m_2
 rw [if_pos ⟨i, hb⟩]
 exact q
theorem Ev.gall (E : Ev K H0 G0 G H σ Δ A) : HasS K (s_1 G H A) σ (vall Δ) := ⟨by rw [E.len]; unfold vall; rw [List.length_map], fun i d q => by
 unfold vall at q
 rw [List.getElem?_map] at q
 cases e : Δ[i]? with
 | none => rw [e] at q; cases q
 | some z =>
  rw [e] at q
  cases z with
  | sh d' =>
   cases q
   obtain ⟨v, e1, r⟩ := E.sh i d e
   exact ⟨v, e1, r.mono E.aG⟩
  | ow d' =>
   cases q
   obtain ⟨v, e1, t⟩ := E.ow i _ _ e rfl
   have r := t.has E.aG fun b o hb q => Ev.aIn hb q
   rw [Tn.of_d] at r
   exact ⟨v, e1, r⟩
  | tr t' =>
   cases q
   obtain ⟨v, e1, t⟩ := E.ow i _ _ e rfl
   exact ⟨v, e1, t.has E.aG fun b o hb q => Ev.aIn hb q⟩
  | lk d' =>
   cases q
   obtain ⟨v, e1, t⟩ := E.ow i _ _ e rfl
   have r := t.has E.aG fun b o hb q => Ev.aIn hb q
   rw [Tn.of_d] at r
   exact ⟨v, e1, r⟩
  | lt t' =>
   cases q
   obtain ⟨v, e1, t⟩ := E.ow i _ _ e rfl
   exact ⟨v, e1, t.has E.aG fun b o hb q => Ev.aIn hb q⟩
  | no => cases q⟩
theorem Ev.grow (E : Ev K H0 G0 G H σ Δ A) (s : Step G H G' H') : Ev K H0 G0 G' H' σ Δ A :=
 ⟨E.st.trans s, E.len, fun i d e => let ⟨v, e1, r⟩ := E.sh i d e; ⟨v, e1, r.mono s.gg⟩, fun i z d e z' => let ⟨v, e1, t⟩ := E.ow i z d e z'; ⟨v, e1, t.mono s.gg (fun b o _ q => s.hh b o q) fun _ q => q⟩,
  fun i a ha => let ⟨h1, h2, h3⟩ := E.out i a ha; ⟨s.nw a h1 h3, h2, fun z => h3 (s.hh.free z)⟩, E.dj, E.lk, E.lt⟩
theorem Ev.keep (E : Ev K H0 G0 G H σ Δ A) (s : Same H H') : Ev K H0 G0 G H' σ Δ A :=
 E.grow ⟨s, E.st.gh.trans s, Same.refl _, fun _ n _ => n⟩
theorem g_4 {α : Type} {l : List α} {i j : Nat} {x y : α} (h : (l.set i x)[j]? = some y) : (i = j ∧ y = x) ∨ (i ≠ j ∧ l[j]? = some y) := by
 by_cases e : i = j
 ·subst e
  rw [List.getElem?_set] at h
  simp only [if_true] at h
  split at h
  ·exact .inl ⟨rfl, (Option.some.inj h).symm⟩
  ·cases h
 ·rw [List.getElem?_set_ne e] at h
  exact .inr ⟨e, h⟩
theorem br_3 {α : Type} {l : List α} {i : Nat} {x y : α} (h : (l.set i x)[i]? = some y) : i < l.length := by
 by_cases hh : i < l.length
 ·exact hh
 ·rw [List.getElem?_eq_none (by rw [List.length_set]; omega)] at h; cases h
theorem Ev.put (E : Ev K H0 G0 G H σ Δ A) {i : Nat} {d : D} (r : Has K G v d) : Ev K H0 G0 G H (σ.set i (some v)) (Δ.set i (.sh d)) A := by
 refine ⟨E.st, by rw [List.length_set, List.length_set]; exact E.len, fun j d' e => ?_, fun j z d' e zo => ?_, E.out, E.dj, fun j d' e => ?_, fun j d' e => ?_⟩
 ·rcases g_4 e with ⟨rfl, q⟩ | ⟨n, q⟩
  ·cases q
   exact ⟨v, by rw [List.getElem?_set_self (by rw [E.len]; exact br_3 e)], r⟩
  ·obtain ⟨v', e1, r'⟩ := E.sh j d' q
   exact ⟨v', by rw [List.getElem?_set_ne n]; exact e1, r'⟩
 ·rcases g_4 e with ⟨rfl, q⟩ | ⟨n, q⟩
  ·subst q; cases zo
  ·obtain ⟨v', e1, t⟩ := E.ow j z d' q zo
   exact ⟨v', by rw [List.getElem?_set_ne n]; exact e1, t⟩
 ·rcases g_4 e with ⟨rfl, q⟩ | ⟨n, q⟩
  ·cases q
  ·rw [List.getElem?_set_ne n]; exact E.lk j d' q
 ·rcases g_4 e with ⟨rfl, q⟩ | ⟨n, q⟩
  ·cases q
  ·rw [List.getElem?_set_ne n]; exact E.lt j d' q
theorem Ev.putO (E : Ev K H0 G0 G H σ Δ A) {i : Nat} {z : Sl} {d : Tn} {S : AS} (fr : ∀ a, S a → H0.h a = none ∧ G a = none ∧ H a ≠ none) (zo : z.own = some d) (zl : ∀ d, z ≠ .lk d) (t : Ow K G H v d S) (nw : ∀ j a, A j a → ¬ S a) (zt : ∀ d, z = .lt d → v = .ref (H0.b i) := by intro _ z; cases z) :
  Ev K H0 G0 G H (σ.set i (some v)) (Δ.set i z) (setA A i S) := by
 refine ⟨E.st, by rw [List.length_set, List.length_set]; exact E.len, fun j d' e' => ?_, fun j z' d' e' zo' => ?_, fun j a ha => ?_, fun j j' a h1 h2 => ?_, fun j d' e' => ?_, fun j d' e' => ?_⟩
 ·rcases g_4 e' with ⟨rfl, q⟩ | ⟨nn, q⟩
  ·subst q; cases zo
  ·obtain ⟨v', e1, r'⟩ := E.sh j d' q
   exact ⟨v', by rw [List.getElem?_set_ne nn]; exact e1, r'⟩
 ·rcases g_4 e' with ⟨rfl, q⟩ | ⟨nn, q⟩
  ·subst q
   rw [zo] at zo'
   cases zo'
   exact ⟨v, by rw [List.getElem?_set_self (by rw [E.len]; exact br_3 e')], by rw [h_1]; exact t⟩
  ·obtain ⟨v', e1, x⟩ := E.ow j z' d' q zo'
   exact ⟨v', by rw [List.getElem?_set_ne nn]; exact e1, by rw [g_9 (Ne.symm nn)]; exact x⟩
 ·by_cases z : j = i
  ·subst z
   rw [h_1] at ha
   obtain ⟨a1, a2, a3⟩ := fr a ha
   exact ⟨a2, a1, a3⟩
  ·rw [g_9 z] at ha
   exact E.out j a ha
 ·by_cases z : j = i
  ·by_cases z' : j' = i
   ·rw [z, z']
   ·rw [z, h_1] at h1
    rw [g_9 z'] at h2
    exact absurd h1 (nw j' a h2)
  ·by_cases z' : j' = i
   ·rw [g_9 z] at h1
    rw [z', h_1] at h2
    exact absurd h2 (nw j a h1)
   ·rw [g_9 z] at h1
    rw [g_9 z'] at h2
    exact E.dj j j' a h1 h2
 ·rcases g_4 e' with ⟨rfl, q⟩ | ⟨nn, q⟩
  ·exact absurd q.symm (zl d')
  ·rw [List.getElem?_set_ne nn]; exact E.lk j d' q
 ·rcases g_4 e' with ⟨rfl, q⟩ | ⟨nn, q⟩
  ·rw [List.getElem?_set_self (by rw [E.len]; exact br_3 e'), zt d' q.symm]
  ·rw [List.getElem?_set_ne nn]; exact E.lt j d' q
theorem Ev.step2 (E : Ev K H0 G0 G H σ Δ A) {i : Nat} {z : Sl} {d' : Tn} {S : AS} (zo : z.own = some d') (zl : ∀ d, z ≠ .lk d) (zt : ∀ d, z = .lt d → σ[i]? = some (some (.ref (H0.b i)))) (ms : MStep2 (A i) G H G' H') (s : σ[i]? = some (some v)) (fr : ∀ a, S a → (A i a ∨ H a = none) ∧ G' a = none ∧ H' a ≠ none) (t : Ow K G' H' v d' S) :
  Ev K H0 G0 G' H' σ (Δ.set i z) (setA A i S) := by
 have st : Step G0 H0.h G' H' := ⟨fun b o q => ms.hh b o (fun hb => by rw [(E.out i b hb).2.1] at q; cases q) (E.st.hh b o q), ms.gh, E.st.gg.trans ms.gg,
  fun b n z => ms.nw b (fun hb => z (E.out i b hb).2.1) (E.st.nw b n z) fun q => z (E.st.hh.free q)⟩
 refine ⟨st, by rw [List.length_set]; exact E.len, fun j d2 e' => ?_, fun j z' d2 e' zo' => ?_, fun j a ha => ?_, fun j j' a h1 h2 => ?_, fun j d2 e' => ?_, fun j d2 e' => ?_⟩
 ·rcases g_4 e' with ⟨rfl, q⟩ | ⟨nn, q⟩
  ·subst q; cases zo
  ·obtain ⟨v', e1, r'⟩ := E.sh j d2 q
   exact ⟨v', e1, r'.mono ms.gg⟩
 ·rcases g_4 e' with ⟨rfl, q⟩ | ⟨nn, q⟩
  ·subst q
   rw [zo] at zo'
   cases zo'
   exact ⟨v, s, by rw [h_1]; exact t⟩
  ·obtain ⟨v', e1, x⟩ := E.ow j z' d2 q zo'
   rw [g_9 (Ne.symm nn)]
   exact ⟨v', e1, x.mono ms.gg (fun b o hb q => ms.hh b o (fun hi => nn (E.dj i j b hi hb)) q) fun _ q => q⟩
 ·by_cases z : j = i
  ·subst z
   rw [h_1] at ha
   obtain ⟨a1, a2, a3⟩ := fr a ha
   refine ⟨a2, ?_, a3⟩
   rcases a1 with a1 | a1
   ·exact (E.out j a a1).2.1
   ·exact E.st.hh.free a1
  ·rw [g_9 z] at ha
   obtain ⟨h1, h2, h3⟩ := E.out j a ha
   have hn : ¬ A i a := fun hb => z (E.dj j i a ha hb)
   refine ⟨ms.nw a hn h1 h3, h2, fun q => ?_⟩
   cases e : H a with
   | none => exact h3 e
   | some o => rw [ms.hh a o hn e] at q; cases q
 ·have own : ∀ k, k ≠ i → A k a → ¬ S a := fun k nk hk hs => by
   rcases (fr a hs).1 with q | q
   ·exact nk (E.dj k i a hk q)
   ·exact (E.out k a hk).2.2 q
  by_cases z : j = i
  ·by_cases z' : j' = i
   ·rw [z, z']
   ·rw [z, h_1] at h1
    rw [g_9 z'] at h2
    exact absurd h1 (own j' z' h2)
  ·by_cases z' : j' = i
   ·rw [g_9 z] at h1
    rw [z', h_1] at h2
    exact absurd h2 (own j z h1)
   ·rw [g_9 z] at h1
    rw [g_9 z'] at h2
    exact E.dj j j' a h1 h2
 ·rcases g_4 e' with ⟨rfl, q⟩ | ⟨nn, q⟩
  ·exact absurd q.symm (zl d2)
  ·exact E.lk j d2 q
 ·rcases g_4 e' with ⟨rfl, q⟩ | ⟨nn, q⟩
  ·exact zt d2 q.symm
  ·exact E.lt j d2 q
theorem Ev.step (E : Ev K H0 G0 G H σ Δ A) {i : Nat} {z : Sl} {d' : Tn} {S : AS} (zo : z.own = some d') (zl : ∀ d, z ≠ .lk d) (ms : MStep (A i) G H G' H') (s : σ[i]? = some (some v)) (fr : ∀ a, S a → (A i a ∨ H a = none) ∧ G' a = none ∧ H' a ≠ none) (t : Ow K G' H' v d' S) (zt : ∀ d, z ≠ .lt d := by intro _ z; cases z) :
  Ev K H0 G0 G' H' σ (Δ.set i z) (setA A i S) := E.step2 zo zl (fun d e => absurd e (zt d)) ms.weak s fr t
theorem Ev.writeL (E : Ev K H0 G0 G H σ Δ A) {i : Nat} {a : Addr} {ds : List D} (s : σ[i]? = some (some (.ref a))) (m : A i a) (r : HasL K G vs ds) : Ev K H0 G0 G (upd H a (.lst vs)) σ (Δ.set i (.ow (.lst ds))) (setA A i (A i)) :=
 have ms := MStep.write E.st.gh m (E.out i a m).1 (.lst vs)
 E.step rfl (fun _ z => by cases z) ms s (fun b hb => ⟨.inl hb, (E.out i b hb).1, ms.al b (E.out i b hb).2.2⟩) (Ow.list b_1 m r)
theorem Ev.writeD (E : Ev K H0 G0 G H σ Δ A) {i : Nat} {a : Addr} {kvs : List (Key × V)} {kds : List (Key × D)} (s : σ[i]? = some (some (.ref a))) (m : A i a) (hk : kvs.map (·.1) = kds.map (·.1)) (r : HasL K G (kvs.map (·.2)) (kds.map (·.2))) : Ev K H0 G0 G (upd H a (.dK kvs)) σ (Δ.set i (.ow (.dic kds))) (setA A i (A i)) :=
 have ms := MStep.write E.st.gh m (E.out i a m).1 (.dK kvs)
 E.step rfl (fun _ z => by cases z) ms s (fun b hb => ⟨.inl hb, (E.out i b hb).1, ms.al b (E.out i b hb).2.2⟩) (Ow.dict b_1 hk m r)
end
def give1 (Δ : SE) (j : Nat) : SE := match Δ[j]? with
 | some s => Δ.set j s.give
 | none => Δ
def gsome (js : List Nat) (Δ : SE) : SE := js.foldl give1 Δ
section
variable {K : Frag} {H0 : HB} {G0 G H : Hp} {σ : Sg} {Δ : SE} {A : OS}
theorem u_2 {α : Type} {l : List α} {j : Nat} {x : α} (h : l[j]? = some x) : l.set j x = l := by
 apply List.ext_getElem?
 intro i
 by_cases e : j = i
 ·subst e
  have hlt : j < l.length := (List.getElem?_eq_some_iff.mp h).1
  rw [List.getElem?_set_self hlt, h]
 ·rw [List.getElem?_set_ne e]
theorem Ev.give3 (E : Ev K H0 G0 G H σ Δ A) {j : Nat} {z : Sl} {t : Tn} (e : Δ[j]? = some z) (zo : z.own = some t) : Same G (m_2 G H (A j)) ∧ Ev K H0 G0 (m_2 G H (A j)) H σ (Δ.set j (.sh t.d)) (setA A j fun _ => False) := by
   obtain ⟨v, s1, t⟩ := E.ow j z t e zo
   have sg : Same G (m_2 G H (A j)) := fun b o q => by
    unfold m_2
    split
    ·rename_i hb; rw [(E.out j b hb).1] at q; cases q
    ·exact q
   have gh : Same (m_2 G H (A j)) H := fun b o q => by
    unfold m_2 at q
    split at q
    ·exact q
    ·exact E.st.gh b o q
   refine ⟨sg, ⟨E.st.hh, gh, E.st.gg.trans sg, fun b h1 h2 => ?_⟩, by rw [List.length_set]; exact E.len, fun i d' e' => ?_, fun i z' d' e' zo' => ?_, fun i b hb => ?_, fun i i' b h1 h2 => ?_, fun i d' e' => ?_, fun i d' e' => ?_⟩
   ·unfold m_2
    split
    ·rename_i hb; exact absurd (E.out j b hb).2.1 h2
    ·exact E.st.nw b h1 h2
   ·rcases g_4 e' with ⟨rfl, q⟩ | ⟨n, q⟩
    ·cases q
     refine ⟨v, s1, t.has sg fun b o hb q => ?_⟩
     unfold m_2
     rw [if_pos hb]
     exact q
    ·obtain ⟨v', e1, r⟩ := E.sh i d' q
     exact ⟨v', e1, r.mono sg⟩
   ·rcases g_4 e' with ⟨rfl, q⟩ | ⟨n, q⟩
    ·subst q; cases zo'
    ·obtain ⟨v', e1, t'⟩ := E.ow i z' d' q zo'
     rw [g_9 (Ne.symm n)]
     exact ⟨v', e1, t'.mono sg (fun b o _ q => q) fun _ q => q⟩
   ·by_cases z : i = j
    ·subst z; rw [h_1] at hb; exact hb.elim
    ·rw [g_9 z] at hb
     obtain ⟨k1, k2, k3⟩ := E.out i b hb
     refine ⟨?_, k2, k3⟩
     unfold m_2
     rw [if_neg fun q => z (E.dj i j b hb q)]
     exact k1
   ·by_cases z : i = j
    ·subst z; rw [h_1] at h1; exact h1.elim
    ·by_cases z' : i' = j
     ·subst z'; rw [h_1] at h2; exact h2.elim
     ·rw [g_9 z] at h1
      rw [g_9 z'] at h2
      exact E.dj i i' b h1 h2
   ·rcases g_4 e' with ⟨rfl, q⟩ | ⟨n, q⟩
    ·cases q
    ·exact E.lk i d' q
   ·rcases g_4 e' with ⟨rfl, q⟩ | ⟨n, q⟩
    ·cases q
    ·exact E.lt i d' q
theorem Ev.give2 (E : Ev K H0 G0 G H σ Δ A) {j : Nat} {z : Sl} {t : Tn} (e : Δ[j]? = some z) (zo : z.own = some t) : ∃ G' A', Same G G' ∧ Ev K H0 G0 G' H σ (Δ.set j (.sh t.d)) A' := ⟨_, _, E.give3 e zo⟩
theorem Ev.give1 (E : Ev K H0 G0 G H σ Δ A) (j : Nat) : ∃ G' A', Same G G' ∧ Ev K H0 G0 G' H σ (L3.give1 Δ j) A' := by
 unfold L3.give1
 cases e : Δ[j]? with
 | none => exact ⟨G, A, Same.refl _, E⟩
 | some s =>
  cases s with
  | no => exact ⟨G, A, Same.refl _, by show Ev K H0 G0 G H σ (Δ.set j .no) A; rw [u_2 e]; exact E⟩
  | sh d => exact ⟨G, A, Same.refl _, by show Ev K H0 G0 G H σ (Δ.set j (.sh d)) A; rw [u_2 e]; exact E⟩
  | ow d =>
   have := E.give2 e (t := Tn.of d) rfl
   rw [Tn.of_d] at this
   exact this
  | tr t => exact E.give2 e rfl
  | lk d => exact ⟨G, A, Same.refl _, by show Ev K H0 G0 G H σ (Δ.set j (.lk d)) A; rw [u_2 e]; exact E⟩
  | lt t => exact ⟨G, A, Same.refl _, by show Ev K H0 G0 G H σ (Δ.set j (.lt t)) A; rw [u_2 e]; exact E⟩
theorem Ev.gsome : ∀ (js : List Nat) {G : Hp} {Δ : SE} {A : OS}, Ev K H0 G0 G H σ Δ A → ∃ G' A', Same G G' ∧ Ev K H0 G0 G' H σ (L3.gsome js Δ) A'
 | [], G, Δ, A, E => ⟨G, A, Same.refl _, E⟩
 | j :: js, G, Δ, A, E => by
  obtain ⟨G1, A1, s1, E1⟩ := E.give1 j
  obtain ⟨G2, A2, s2, E2⟩ := Ev.gsome js E1
  exact ⟨G2, A2, s1.trans s2, E2⟩
end
def Fin (K : Frag) (EX : EXS) (H0 : HB) (G0 G1 : Hp) (D : Ends) : Fl → Prop
 | .nx Δ => ∀ σ G H O, Ev K H0 G0 G H σ Δ O → Same G1 G → D.nx σ H
 | .bk Δ => ∀ σ G H O, Ev K H0 G0 G H σ Δ O → Same G1 G → D.bk σ H
 | .ct Δ => ∀ σ G H O, Ev K H0 G0 G H σ Δ O → Same G1 G → D.ct σ H
 | .rt w => WP K G0 H0.h w D.rt
 | .ex x Δ => ∀ σ G H O, Ev K H0 G0 G H σ Δ O → Same G1 G → (EX σ).p x G H
 | .no => False
theorem Fin.mono {EX : EXS} {H0 : HB} {G0 G1 G2 : Hp} {D : Ends} {r : Fl} (s : Same G1 G2) (h : Fin K EX H0 G0 G1 D r) : Fin K EX H0 G0 G2 D r := by
 cases r with
 | nx Δ => exact fun σ G H O E q => h σ G H O E (s.trans q)
 | bk Δ => exact fun σ G H O E q => h σ G H O E (s.trans q)
 | ct Δ => exact fun σ G H O E q => h σ G H O E (s.trans q)
 | rt w => exact h
 | ex x Δ => exact fun σ G H O E q => h σ G H O E (s.trans q)
 | no => exact h
def tS (K : Frag) (EX : EXS) (g : FS) : TS := fun D σ H => ∃ H0 G0 G Δ O, Ev K H0 G0 G H σ Δ O ∧ Fin K EX H0 G0 G D (g Δ)
abbrev SD (X : Cx) (EX : EXS) (st : Stmt) (g : FS) : Prop := PS X st (tS X.K EX g)
abbrev BD (X : Cx) (EX : EXS) (st : List Stmt) (g : FS) : Prop := PSs X st (tS X.K EX g)
section
variable {X : Cx} {EX : EXS} {st : Stmt} {sts : List Stmt} {g h : FS} {pos : Pos} {e : Expr} {f : FE} {p : FT}
def sNil : FS := fun Δ => .nx Δ
def sSeq (g h : FS) : FS := fun Δ => match g Δ with
 | .nx Δ' => h Δ'
 | r => r
theorem c_3 : BD X EX [] sNil := PSs.imp cr_8 fun D σ H ⟨H0, G0, G, Δ, O, E, q⟩ => q σ G H O E (Same.refl _)
theorem a_6 (h1 : SD X EX st g) : BD X EX [st] g := az_8 h1
theorem a_4 (h1 : SD X EX st g) (h2 : BD X EX sts h) : BD X EX (st :: sts) (sSeq g h) :=
 PSs.imp (ch_0 h1 h2) fun D σ H ⟨H0, G0, G, Δ, O, E, q⟩ => by
  refine ⟨H0, G0, G, Δ, O, E, ?_⟩
  unfold sSeq at q
  cases e : g Δ with
  | nx Δ' => rw [e] at q; exact fun σ' G' H' O' E' sm => ⟨H0, G0, G', Δ', O', E', Fin.mono sm q⟩
  | bk Δ' => rw [e] at q; exact q
  | ct Δ' => rw [e] at q; exact q
  | rt w => rw [e] at q; exact q
  | ex x Δ' => rw [e] at q; exact q
  | no => rw [e] at q; exact q
def exG (js : List Nat) (f : FE) (Δ : SE) : Fl := match f (vsh (gsome js Δ)) with
 | .ex x => .ex x (gsome js Δ)
 | _ => .no
def exT (js : List Nat) (p : FT) (Δ : SE) : Fl := match p (vsh (gsome js Δ)) with
 | .ex x => .ex x (gsome js Δ)
 | _ => .no
theorem bi_0 {H0 : HB} {G0 G G1 H : Hp} {σ : Sg} {Δ : SE} {O : OS} {D : Ends} {js : List Nat} {Q : VK} (E : Ev K H0 G0 G H σ Δ O) (sg : Same G1 G) (q : Fin K EX H0 G0 G1 D (exG js f Δ)) : tD K EX f σ H Q := by
 obtain ⟨G', O', s', E'⟩ := E.gsome js
 refine ⟨G', vsh (gsome js Δ), E'.st.gh, E'.gsh, ?_⟩
 unfold exG at q
 cases e : f (vsh (gsome js Δ)) with
 | ok w => rw [e] at q; exact q.elim
 | ex x => rw [e] at q; exact q σ G' H O' E' (sg.trans s')
 | no => rw [e] at q; exact q.elim
theorem cj_9 {H0 : HB} {G0 G G1 H : Hp} {σ : Sg} {Δ : SE} {O : OS} {D : Ends} {js : List Nat} {Q : Bool → Hp → Prop} (E : Ev K H0 G0 G H σ Δ O) (sg : Same G1 G) (q : Fin K EX H0 G0 G1 D (exT js p Δ)) : tDt K EX p σ H Q := by
 obtain ⟨G', O', s', E'⟩ := E.gsome js
 refine ⟨G', vsh (gsome js Δ), E'.st.gh, E'.gsh, ?_⟩
 unfold exT at q
 cases e : p (vsh (gsome js Δ)) with
 | ok w => rw [e] at q; exact q.elim
 | ex x => rw [e] at q; exact q σ G' H O' E' (sg.trans s')
 | no => rw [e] at q; exact q.elim
def sRet (js : List Nat) (f : FE) : FS := fun Δ => match f (vall Δ) with
 | .ok w => .rt w
 | .ex _ => exG js f Δ
 | .no => .no
theorem b_4 (js : List Nat) (he : ED X EX e f) : SD X EX (.Return (some e) pos) (sRet js f) :=
 PS.imp (bp_0 he) fun D σ H ⟨H0, G0, G, Δ, O, E, q⟩ => by
  unfold sRet at q
  cases e1 : f (vall Δ) with
  | ok w =>
   rw [e1] at q
   exact ⟨s_1 G H O, vall Δ, E.aH, E.gall, by rw [e1]; exact WP.mono E.aStep q⟩
  | ex x => rw [e1] at q; exact bi_0 E (Same.refl _) q
  | no => rw [e1] at q; exact q.elim
def sRetV (i : Nat) : FS := fun Δ => match Δ[i]? with
 | some (.sh d) => .rt (.sh d)
 | some (.ow d) => .rt (.ow d)
 | some (.tr t) => .rt (.tr t)
 | _ => .no
theorem o_5 (i : Nat) {x : Str} {pos pos' : Pos} (hN : X.N[i]? = some x := by rfl) (hv : Vis X.env.scope x := by first | exact Or.inl rfl | exact Or.inr (Or.inl rfl) | exact Or.inr (Or.inr rfl)) (hd : (x == ("__debug__" : Str)) = false := by decide)
  (hcd : (x == ("__classdict__" : Str)) = false := by decide) : SD X EX (.Return (some (.Name x pos)) pos') (sRetV i) :=
 PS.imp (bp_0 (i_9 hN hv hd hcd)) fun D σ H ⟨H0, G0, G, Δ, O, E, q⟩ => by
  unfold sRetV at q
  split at q
  ·rename_i d e
   obtain ⟨v, e1, r⟩ := E.sh i d e
   exact ⟨v, e1, (WP.mono (w := .sh d) (Q := D.rt) E.st q).use E.st.gh r⟩
  ·rename_i d e
   obtain ⟨v, e1, t⟩ := E.ow i _ _ e rfl
   exact ⟨v, e1, q v (O i) G H E.st (fun a ha => let ⟨h1, h2, h3⟩ := E.out i a ha; ⟨h2, h1, h3⟩) t⟩
  ·rename_i d e
   obtain ⟨v, e1, t⟩ := E.ow i _ _ e rfl
   exact ⟨v, e1, q v (O i) G H E.st (fun a ha => let ⟨h1, h2, h3⟩ := E.out i a ha; ⟨h2, h1, h3⟩) t⟩
  ·exact q.elim
def sPut (i : Nat) (Δ : SE) : R W → Fl
 | .ok (.sh d) => .nx (Δ.set i (.sh d))
 | .ok (.ow d) => .nx (Δ.set i (.ow d))
 | .ok (.tr t) => .nx (Δ.set i (.tr t))
 | .ex x => .ex x Δ
 | .no => .no
def sSet (i : Nat) (js : List Nat) (f : FE) : FS := fun Δ => match f (vsh Δ) with
 | .ok (.sh d) => .nx (Δ.set i (.sh d))
 | .ok (.ow d) => .nx (Δ.set i (.ow d))
 | .ok (.tr t) => .nx (Δ.set i (.tr t))
 | .ex x => .ex x Δ
 | .no => match f (vall Δ) with
  | .ex _ => sPut i (gsome js Δ) (f (vsh (gsome js Δ)))
  | .no => .no
  | .ok w => if flatD w.d = true then .nx (Δ.set i (.sh w.d)) else sPut i (gsome js Δ) (f (vsh (gsome js Δ)))
theorem am_3 {H0 : HB} {G0 G G1 H : Hp} {σ : Sg} {Δ : SE} {O : OS} {D : Ends} {i : Nat} (E : Ev K H0 G0 G H σ Δ O) (sg : Same G1 G)
  (q : Fin K EX H0 G0 G1 D (sPut i Δ (f (vsh Δ)))) : tAsg (tD K EX f) (bv_1 i) D σ H := by
 refine ⟨G, vsh Δ, E.st.gh, E.gsh, ?_⟩
 unfold sPut at q
 cases e1 : f (vsh Δ) with
 | ok w =>
  rw [e1] at q
  cases w with
  | sh d => exact fun v G' H' st r => q _ G' H' O ((E.grow st).put r) (sg.trans st.gg)
  | ow d =>
   intro v S G' H' st fr t
   exact q _ G' H' _ ((E.grow st).putO (fun a ha => ⟨E.st.hh.free (fr a ha).1, (fr a ha).2⟩) rfl (fun _ z => by cases z) t fun j a hj hs => (E.out j a hj).2.2 (fr a hs).1) (sg.trans st.gg)
  | tr d =>
   intro v S G' H' st fr t
   exact q _ G' H' _ ((E.grow st).putO (fun a ha => ⟨E.st.hh.free (fr a ha).1, (fr a ha).2⟩) rfl (fun _ z => by cases z) t fun j a hj hs => (E.out j a hj).2.2 (fr a hs).1) (sg.trans st.gg)
 | ex x => rw [e1] at q; exact q σ G H O E sg
 | no => rw [e1] at q; exact q
theorem bi_1 {D : Ends} {σ : Sg} {i : Nat} {js : List Nat} (q : tS K EX (sSet i js f) D σ H) : tAsg (tD K EX f) (bv_1 i) D σ H := by
 obtain ⟨H0, G0, G, Δ, O, E, q⟩ := q
 unfold sSet at q
 cases e1 : f (vsh Δ) with
 | ok w =>
  rw [e1] at q
  refine am_3 E (Same.refl _) ?_
  unfold sPut
  rw [e1]
  cases w <;> exact q
 | ex x =>
  rw [e1] at q
  refine am_3 E (Same.refl _) ?_
  unfold sPut
  rw [e1]
  exact q
 | no =>
  rw [e1] at q
  cases e2 : f (vall Δ) with
  | ok w =>
   simp only [e2] at q
   split at q
   ·rename_i fl
    refine ⟨s_1 G H O, vall Δ, E.aH, E.gall, ?_⟩
    rw [e2]
    exact WP.intro fun v G' H' st r => q _ G H' O ((E.keep st.hh).put (r.ofFl fl)) (Same.refl _)
   ·obtain ⟨G', O', sg, E'⟩ := E.gsome js
    exact am_3 E' sg q
  | ex x =>
   simp only [e2] at q
   obtain ⟨G', O', sg, E'⟩ := E.gsome js
   exact am_3 E' sg q
  | no => simp only [e2] at q; exact q.elim
theorem a_9 {i : Nat} (js : List Nat) {x : Str} {pos' : Pos} (he : ED X EX e f) (hN : X.N.Nodup) (hi : X.N[i]? = some x := by rfl) (hx : Loc X.env.scope x := by first | exact Or.inl rfl | exact Or.inr rfl) (hs : swapsWith e (some (.Name x pos')) pos.line X.env = pure false := by rfl)
  (hf : X.fn x = true ∨ X.env.scope.names.lookup x = some .local := by first | exact .inl rfl | exact .inr rfl | assumption) : SD X EX (.Assign [.Name x pos'] e pos) (sSet i js f) :=
 PS.imp (bp_1 hN hi hx he hs hf) fun D σ H q => bi_1 q
def sExpr (js : List Nat) (f : FE) : FS := fun Δ => match f (vall Δ) with
 | .ok _ => .nx Δ
 | .ex _ => exG js f Δ
 | .no => .no
theorem ad_7 (js : List Nat) (he : ED X EX e f) (hs : swapsWith e none pos.line X.env = pure false := by rfl) : SD X EX (.Expr e pos) (sExpr js f) :=
 PS.imp (ac_9 he hs) fun D σ H ⟨H0, G0, G, Δ, O, E, q⟩ => by
  unfold sExpr at q
  cases e1 : f (vall Δ) with
  | ok w =>
   rw [e1] at q
   exact ⟨s_1 G H O, vall Δ, E.aH, E.gall, by rw [e1]; exact WP.intro fun v G' H' st r => q σ G H' O (E.keep st.hh) (Same.refl _)⟩
  | ex x => rw [e1] at q; exact bi_0 E (Same.refl _) q
  | no => rw [e1] at q; exact q.elim
def sIf (js : List Nat) (p : FT) (g h : FS) : FS := fun Δ => match p (vall Δ) with
 | .ok b => if b = true then g Δ else h Δ
 | .ex _ => exT js p Δ
 | .no => .no
theorem aw_2 {H0 : HB} {G0 G H : Hp} {σ : Sg} {Δ : SE} {O : OS} {D : Ends} {k : Bool → Fl} {P : Bool → Hp → Prop} {js : List Nat} (E : Ev K H0 G0 G H σ Δ O)
  {G1 : Hp} (sg : Same G1 G) (q : Fin K EX H0 G0 G1 D (match p (vall Δ) with | .ok b => k b | .ex _ => exT js p Δ | .no => .no)) (i : ∀ b H', p (vall Δ) = .ok b → Ev K H0 G0 G H' σ Δ O → Fin K EX H0 G0 G1 D (k b) → P b H') : tDt K EX p σ H P := by
 cases e1 : p (vall Δ) with
 | ok b => rw [e1] at q; exact ⟨s_1 G H O, vall Δ, E.aH, E.gall, by rw [e1]; exact fun G' H' st => i b H' e1 (E.keep st.hh) q⟩
 | ex x => rw [e1] at q; exact cj_9 E sg q
 | no => rw [e1] at q; exact q.elim
theorem e_1 (js : List Nat) {c : Expr} {as bs : List Stmt} (hc : TD X EX c p) (ha : BD X EX as g) (hb : BD X EX bs h) : SD X EX (.If c as bs pos) (sIf js p g h) :=
 PS.imp (dh_8 hc ha hb) fun D σ H ⟨H0, G0, G, Δ, O, E, q⟩ => aw_2 (k := fun b => if b = true then g Δ else h Δ) E (Same.refl _) q fun b H' _ E' q' => by
  cases b with
  | true => rw [if_pos rfl]; exact ⟨H0, G0, G, Δ, O, E', q'⟩
  | false => rw [if_neg Bool.false_ne_true]; exact ⟨H0, G0, G, Δ, O, E', q'⟩
def j_5 (js : List Nat) (p : FT) (g : FS) : Nat → FS
 | 0 => fun _ => .no
 | n + 1 => fun Δ => match p (vall Δ) with
  | .ok b => if b = true then (match g Δ with
    | .nx Δ' => j_5 js p g n Δ'
    | .ct Δ' => j_5 js p g n Δ'
    | .bk Δ' => .nx Δ'
    | r => r) else .nx Δ
  | .ex _ => exT js p Δ
  | .no => .no
theorem ck_0 (js : List Nat) (n : Nat) {c : Expr} {body : List Stmt} (hp : PassesOwn (model X.prog X.w) X.A X.env X.xe) (hc : TD X EX c p) (hb : BD X EX body g) : SD X EX (.While c body [] pos) (j_5 js p g n) :=
 PS.imp (ch_1 hp hc hb) fun D σ H ⟨H0, G0, G1, Δ, O, E, q⟩ => by
  refine ⟨fun m σ H => ∃ G Δ O, Ev X.K H0 G0 G H σ Δ O ∧ Same G1 G ∧ Fin X.K EX H0 G0 G1 D (j_5 js p g m Δ), ⟨n, G1, Δ, O, E, Same.refl _, q⟩, ?_⟩
  rintro m σ H ⟨G, Δ, O, E, sg, q⟩
  cases m with
  | zero => exact False.elim q
  | succ m =>
   refine aw_2 (k := fun b => if b = true then (match g Δ with | .nx Δ' => j_5 js p g m Δ' | .ct Δ' => j_5 js p g m Δ' | .bk Δ' => .nx Δ' | r => r) else .nx Δ) E sg q fun b H' _ E' q' => ?_
   cases b with
   | false => rw [if_neg Bool.false_ne_true]; exact q' σ G H' O E' sg
   | true =>
    rw [if_pos rfl]
    rw [if_pos rfl] at q'
    refine ⟨fun σ' H' => ∃ G Δ O, Ev X.K H0 G0 G H' σ' Δ O ∧ Same G1 G ∧ Fin X.K EX H0 G0 G1 D (j_5 js p g m Δ), fun σ' H' w => ⟨m, Nat.lt_succ_self _, w⟩, H0, G0, G, Δ, O, E', ?_⟩
    cases e1 : g Δ with
    | nx Δ' => rw [e1] at q'; exact fun σ' G' H' O' E2 s2 => ⟨G', Δ', O', E2, sg.trans s2, q'⟩
    | ct Δ' => rw [e1] at q'; exact fun σ' G' H' O' E2 s2 => ⟨G', Δ', O', E2, sg.trans s2, q'⟩
    | bk Δ' => rw [e1] at q'; exact Fin.mono (r := .nx Δ') sg q'
    | rt w => rw [e1] at q'; exact q'
    | ex x Δ' => rw [e1] at q'; exact Fin.mono (r := .ex x Δ') sg q'
    | no => rw [e1] at q'; exact q'
end
def start3 (n : Nat) (ds : List D) : SE := ds.map Sl.sh ++ List.replicate (n - ds.length) .no
def bodyD (n : Nat) (g : FS) (ds : List D) : R W := match g (start3 n ds) with
 | .nx _ => .ok (.sh .non)
 | .rt w => .ok w
 | .ex x _ => .ex x
 | _ => .no
theorem ck_1 {G H : Hp} {ds : List D} {N : List Str} (g : Same G H) (r : HasL K G vs ds) : Ev K ⟨H, fun _ => 0⟩ G G H (l_0 N vs) (start3 N.length ds) (fun _ _ => False) := by
 refine ⟨Step.refl g, ?_, fun i d e => ?_, fun i z d e zo => ?_, fun _ _ ha => ha.elim, fun _ _ _ ha => ha.elim, fun i d e => ?_, fun i d e => ?_⟩
 ·unfold l_0 start3
  simp only [List.length_append, List.length_map, List.length_replicate, r.length]
 ·unfold start3 at e
  by_cases hi : i < ds.length
  ·rw [List.getElem?_append_left (by rw [List.length_map]; exact hi), List.getElem?_map] at e
   cases q : ds[i]? with
   | none => rw [q] at e; cases e
   | some d' =>
    rw [q] at e
    cases e
    obtain ⟨v, e1, h⟩ := r.get q
    refine ⟨v, ?_, h⟩
    unfold l_0
    rw [List.getElem?_append_left (by rw [List.length_map, r.length]; exact hi), List.getElem?_map, e1]
    rfl
  ·rw [List.getElem?_append_right (by rw [List.length_map]; omega), List.getElem?_replicate] at e
   split at e <;> cases e
 ·exfalso
  unfold start3 at e
  by_cases hi : i < ds.length
  ·rw [List.getElem?_append_left (by rw [List.length_map]; exact hi), List.getElem?_map] at e
   cases q : ds[i]? with
   | none => rw [q] at e; cases e
   | some d' => rw [q] at e; cases e; cases zo
  ·rw [List.getElem?_append_right (by rw [List.length_map]; omega), List.getElem?_replicate] at e
   split at e
   ·cases e; cases zo
   ·cases e
 ·exfalso
  unfold start3 at e
  by_cases hi : i < ds.length
  ·rw [List.getElem?_append_left (by rw [List.length_map]; exact hi), List.getElem?_map] at e
   cases q : ds[i]? with
   | none => rw [q] at e; cases e
   | some d' => rw [q] at e; cases e
  ·rw [List.getElem?_append_right (by rw [List.length_map]; omega), List.getElem?_replicate] at e
   split at e <;> cases e
 ·exfalso
  unfold start3 at e
  by_cases hi : i < ds.length
  ·rw [List.getElem?_append_left (by rw [List.length_map]; exact hi), List.getElem?_map] at e
   cases q : ds[i]? with
   | none => rw [q] at e; cases e
   | some d' => rw [q] at e; cases e
  ·rw [List.getElem?_append_right (by rw [List.length_map]; omega), List.getElem?_replicate] at e
   split at e <;> cases e
theorem fn_D {c : Bool} {w : World} {x qual : Str} {st : Stmt} {f : Addr} {N ps : List Str} {k : Nat} {g : FS} (F : Fun K x qual st f fd) (S : FnScope N ps (b_2 st))
  (zk : ∀ (zq : Value) (A : Around) (outer : List Env) (s : Shared) (H : Hp) (E : XK), RoomC c k (A.deeper (envOfC qual (b_2 st) s.heap.objs.size f zq)) →
   BD (cxN c P w K mg base N qual (b_2 st) f zq A outer s H E) (fun _ => EXof K E) (d_3 st) g) : FnX P w K mg base c (k + 1) f fd ps (spX K ps.length (bodyD N.length g)) := by
 refine Fun.okX F S (fun vs H Q E h => h.1) fun zq A outer s H vs Q E hr h => ⟨_, zk zq A outer s H E hr, ?_⟩
 obtain ⟨hl, G, ds, g0, r, o⟩ := h
 refine ⟨⟨H, fun _ => 0⟩, G, G, _, _, ck_1 g0 r, ?_⟩
 unfold bodyD at o
 cases e : g (start3 N.length ds) with
 | nx Δ => rw [e] at o; exact fun σ G' H' O E' _ => (WP.mono (w := .sh .non) (Q := Q) E'.st o).use E'.st.gh .non
 | rt w => rw [e] at o; exact o
 | ex x Δ => rw [e] at o; exact fun σ G' H' O E' _ => (EXof K E).mono _ _ _ _ _ E'.st o
 | bk Δ => rw [e] at o; exact o.elim
 | ct Δ => rw [e] at o; exact o.elim
 | no => rw [e] at o; exact o
theorem b_8 {c : Bool} {w : World} {x : Str} {st : Stmt} {f : Addr} {ps : List Str} {k : Nat} {Fn : List D → R W} (F : Fun K x x st f fd) (hm : mg x = some (.ref f)) (hb : Binds K fd ps [])
  (ok : FnX P w K mg base c k f fd ps (spX K ps.length Fn)) : FnD P w K mg base c x k ps Fn := ⟨f, fd, ok, hm, F.kp, hb⟩
def ck_2 (x : Str) : It := ⟨fun i _ => i < x.cps.size, fun i H v H' => H' = H ∧ ∃ c, x.cps[i]? = some c ∧ v = .str ⟨#[c]⟩, fun i _ => i = x.cps.size⟩
theorem br_4 {w : World} {tg : Expr} {it : Addr} {n : Nat} {Pv : Nat → Value → Prop} {St : Nat → Heap → Prop} {J : It}
  (W : ∀ A' : Around, A'.handled = none → Walks P w A' it [it] [it] n Pv St)
  (ba : ∀ i h, St i h → ∃ o nm vs, h.get? it = some o ∧ o.cls = .type nm ∧ o.data = .fields vs ∧ ["enumerate", "zip", "dict_itemiterator", "dict_reverseitemiterator", "odict_iterator", "itertools.zip_longest", "itertools.pairwise"].contains nm = false)
  (cu : ∀ (i : Nat) (h h' : Heap), St i h → (∀ b ∈ [it], ∀ o, h.get? b = some o → h'.get? b = some o) → St i h') (bh : ∀ (A : Around) (i : Nat) (s : Shared) (Q E : Value → Shared → Prop), St i s.heap → Q (.ref it) s → wpAny (model P w) A (pyIter (.ref it)) Q E s)
  (hgo : ∀ i H, J.go i H → i < n) (hst : ∀ i H, J.stop i H → i = n) (hy : ∀ i H u, Pv i u → ∃ x, RelV x u ∧ J.yld i H x H) : Turn P w K tg J [it] it St where
 mem := by simp
 obj := fun i h st b hb => by
  have e : b = it := by simpa using hb
  subst e
  obtain ⟨o, nm, vs, e, c, d, _⟩ := ba i h st
  exact ⟨o, e, fun v z => by rw [d] at z; cases z⟩
 keep := cu
 item := by
  intro X hP hw hK hc i zd s σ H E I hf st hg
  subst hP hw hK
  obtain ⟨f0, f1, f2, f3, f4, f5⟩ := hf it (by simp)
  refine (W X.A (I.ok.hd hc)).item i s _ _ (hgo i H hg) st fun v h' tk hv st' kk => ?_
  have I1 : Inv X zd σ H { s with heap := h', toks := tk } := I.turned (fun b o hb e => kk b o (by simpa using hb) e) f0 f1 f3 f4 f5
  obtain ⟨x, rx, yx⟩ := hy i H v hv
  obtain ⟨o, nm, vs, e, c, d, hn⟩ := ba (i + 1) h' st'
  exact ⟨v, rfl, bg_8 (s := { s with heap := h', toks := tk }) e c d hn ⟨x, H, I1, rx, yx, st', fun b hb => (hf b hb).1⟩⟩
 done := by
  intro X hP hw hK hc i zd s σ H E I hf st hg
  subst hP hw hK
  obtain ⟨f0, f1, f2, f3, f4, f5⟩ := hf it (by simp)
  obtain rfl := hst i H hg
  exact (W X.A (I.ok.hd hc)).done s _ _ st fun h' tk kk => ⟨rfl, I.turned (fun b o hb e => kk b o (by simpa using hb) e) f0 f1 f3 f4 f5⟩
 self := bh
def ItD (K : Frag) (G1 : Hp) (J : It) (ds : List D) : Prop := ∀ G H, Same G1 G → Same G H → ∀ i,
 (∀ d, ds[i]? = some d → J.go i H ∧ ∀ x H', J.yld i H x H' → ∃ G', Step G H G' H' ∧ Has K G' x d) ∧ (ds.length = i → J.stop i H)
abbrev FI := DE → R (List D)
def tI (K : Frag) (EX : EXS) (fi : FI) : TI := fun σ H Q => ∃ G δ, Same G H ∧ HasS K G σ δ ∧ match fi δ with
 | .ok ds => ∀ J G' H', Step G H G' H' → ItD K G' J ds → Q J H'
 | .ex x => (EX σ).p x G H
 | .no => False
abbrev ID (X : Cx) (EX : EXS) (tg iter : Expr) (fi : FI) : Prop := PI X tg iter (tI X.K EX fi)
theorem PI.imp {tg e : Expr} {t t' : TI} (h : PI X tg e t) (i : ∀ σ H Q, t' σ H Q → t σ H Q) : PI X tg e t' := fun zd s σ H Q I q => h zd s σ H Q I (i σ H Q q)
section
variable {X : Cx} {EX : EXS} {tg e a b : Expr} {f : FE} {fa : FA} {p pos : Pos}
theorem tDa.seqI {G H : Hp} {σ : Sg} {δ : DE} {k : List D → R (List D)} {Q : It → Hp → Prop} {P : List V → Hp → Prop} (g : Same G H) (s : HasS K G σ δ)
  (h : match (fa δ).bind k with | .ok ds => ∀ J G' H', Step G H G' H' → ItD K G' J ds → Q J H' | .ex x => (EX σ).p x G H | .no => False)
  (i : ∀ ds vs G' H', Step G H G' H' → HasL K G' vs ds → (match k ds with | .ok ds => ∀ J G2 H2, Step G' H' G2 H2 → ItD K G2 J ds → Q J H2 | .ex x => (EX σ).p x G' H' | .no => False) → P vs H') : tDa K EX fa σ H P := by
 refine ⟨G, δ, g, s, ?_⟩
 cases e : fa δ with
 | ok ds =>
  rw [e] at h
  simp only [R.bind_ok] at h
  refine fun vs G' H' st r => i ds vs G' H' st r ?_
  cases e2 : k ds with
  | ok ds' => rw [e2] at h; exact fun J G2 H2 st2 it => h J G2 H2 (st.trans st2) it
  | ex x => rw [e2] at h; exact (EX σ).mono _ _ _ _ _ st h
  | no => rw [e2] at h; exact h
 | ex x => rw [e] at h; exact h
 | no => rw [e] at h; exact h
def g_8 (lo : Int) (n : Nat) : List D := (List.range n).map fun (k : Nat) => D.int (lo + (k : Int))
theorem ag_2 {lo : Int} {n i : Nat} {d : D} (h : (g_8 lo n)[i]? = some d) : i < n ∧ d = .int (lo + (i : Int)) := by
 unfold g_8 at h
 rw [List.getElem?_map] at h
 by_cases hi : i < n
 ·rw [List.getElem?_range hi] at h
  cases h
  exact ⟨hi, rfl⟩
 ·rw [List.getElem?_eq_none (by rw [List.length_range]; omega)] at h
  cases h
theorem u_3 (lo : Int) (n : Nat) : (g_8 lo n).length = n := by unfold g_8; rw [List.length_map, List.length_range]
theorem aw_3 {G : Hp} (lo : Int) (n : Nat) : ItD K G (Itr lo n) (g_8 lo n) := fun G' H _ g i => by
 refine ⟨fun d e => ?_, fun e => ?_⟩
 ·obtain ⟨hi, rfl⟩ := ag_2 e
  refine ⟨hi, fun x H' y => ?_⟩
  obtain ⟨e1, e2⟩ := y
  subst e1 e2
  exact ⟨G', Step.refl g, .int _⟩
 ·rw [u_3] at e
  exact Nat.le_of_eq e
def p_4 : List D → R (List D)
 | [.int j] => if j.natAbs < 4611686018427387904 then .ok (g_8 0 j.toNat) else .no
 | _ => .no
def rng2 : List D → R (List D)
 | [.int i, .int j] => if i.natAbs < 4611686018427387904 ∧ j.natAbs < 4611686018427387904 then .ok (g_8 i (j - i).toNat) else .no
 | _ => .no
def iArgs (k : List D → R (List D)) (fa : FA) : FI := fun δ => (fa δ).bind k
theorem k_2 (hm : X.mg "range" = none) (ha : AD X EX [a] fa) (hg : Gl X "range" := by rfl) (hs : starEach [a] X.env = [(false, eval a X.env)] := by rfl) : ID X EX tg (.Call (.Name "range" p) [a] [] pos) (iArgs p_4 fa) :=
 PI.imp (cb_0 hg hm ha hs) fun σ H Q ⟨G, δ, g0, s0, o⟩ => tDa.seqI g0 s0 o fun ds vs G' H' st r o' => by
  cases r with
  | nil => exact False.elim o'
  | cons h t =>
   cases t with
   | cons _ _ => cases h <;> exact False.elim o'
   | nil =>
    cases h with
    | int j =>
     by_cases hc : j.natAbs < 4611686018427387904
     ·rw [show p_4 [.int j] = .ok (g_8 0 j.toNat) from if_pos hc] at o'
      exact ⟨j, rfl, by omega, by omega, o' _ G' H' (Step.refl st.gh) (aw_3 0 j.toNat)⟩
     ·rw [show p_4 [.int j] = .no from if_neg hc] at o'
      exact o'.elim
    | _ => exact False.elim o'
theorem aw_4 (hm : X.mg "range" = none) (ha : AD X EX [a, b] fa) (hg : Gl X "range" := by rfl) (hs : starEach [a, b] X.env = [(false, eval a X.env), (false, eval b X.env)] := by rfl) (hs2 : starEach [b] X.env = [(false, eval b X.env)] := by rfl) :
  ID X EX tg (.Call (.Name "range" p) [a, b] [] pos) (iArgs rng2 fa) :=
 PI.imp (cb_1 hg hm ha hs hs2) fun σ H Q ⟨G, δ, g0, s0, o⟩ => tDa.seqI g0 s0 o fun ds vs G' H' st r o' => by
  refine ao_5 r (fun i j e1 e2 => ?_) fun n => ?_
  ·subst e1 e2
   by_cases hc : i.natAbs < 4611686018427387904 ∧ j.natAbs < 4611686018427387904
   ·rw [show rng2 [.int i, .int j] = .ok (g_8 i (j - i).toNat) from if_pos hc] at o'
    exact ⟨i, j, rfl, ⟨by have := hc.1; omega, by have := hc.1; omega, by have := hc.2; omega, by have := hc.2; omega⟩, o' _ G' H' (Step.refl st.gh) (aw_3 i (j - i).toNat)⟩
   ·rw [show rng2 [.int i, .int j] = .no from if_neg hc] at o'
    exact o'.elim
  ·have e : rng2 ds = .no := by
    unfold rng2
    split
    ·rename_i i j; exact absurd rfl (n i j)
    ·rfl
   rw [e] at o'
   exact o'.elim
def s_5 (x : Str) : List D := x.cps.toList.map fun c => .str ⟨#[c]⟩
def itemsD : D → R (List D)
 | .lst ds => .ok ds
 | .tup ds => .ok ds
 | .str x => .ok (s_5 x)
 | _ => .no
def iOf (f : FE) : FI := fun δ => (f δ).bind fun w => itemsD w.d
def iAny (K : Frag) (tl : TE) : TI := fun σ H Q => tl σ H fun x H1 =>
 (∃ a, x = .ref a ∧ (∃ xs, SqL K H1 a xs) ∧ Q (Itl K a) H1) ∨ (∃ a, x = .ref a ∧ (∃ xs, SqT K H1 a xs) ∧ Q (Itt K a) H1) ∨ (∃ z, x = .str z ∧ Q (ck_2 z) H1)
theorem de_7 {l : Expr} {tl : TE} (hl : PE X l tl) : PI X tg l (iAny X.K tl) := by
 intro zd s σ H Q I h
 refine thn (hl zd s σ H _ I h) fun v s1 ⟨x, H1, I1, r1, q1⟩ => ?_
 rcases q1 with ⟨a, e, ⟨xs, hq⟩, q⟩ | ⟨a, e, ⟨xs, hq⟩, q⟩ | ⟨z, e, q⟩
 ·subst e
  cases r1
  obtain ⟨its, rv, p, hz⟩ := I1.list hq
  refine wpAny_pyIter_list p.isList ?_
  refine ⟨s1.heap.objs.size, [s1.heap.objs.size], _, _, H1, rfl, I1.kept (t' := s1.toks) fun b o e => Heap.get?_push_of_some _ e, ca_9 a _, ⟨_, Heap.get?_push_size _ rfl, rfl, rfl⟩, fun b hb => ?_, q⟩
  have e : b = s1.heap.objs.size := by simpa using hb
  subst e
  exact I1.fpOk (Nat.le_refl _) (I1.hok.fresh (Nat.le_refl _))
 ·subst e
  cases r1
  obtain ⟨its, rv, p, hz⟩ := I1.tuple hq
  refine wpAny_pyIter_tuple (show s1.heap.IsTuple a its.toArray from p) ?_
  refine ⟨s1.heap.objs.size, [s1.heap.objs.size], _, _, H1, rfl, I1.kept (t' := s1.toks) fun b o e => Heap.get?_push_of_some _ e, bp_2 a _, ⟨_, Heap.get?_push_size _ rfl, rfl, rfl⟩, fun b hb => ?_, q⟩
  have e : b = s1.heap.objs.size := by simpa using hb
  subst e
  exact I1.fpOk (Nat.le_refl _) (I1.hok.fresh (Nat.le_refl _))
 ·subst e
  obtain ⟨t, rfl⟩ := r1
  have fin : ∀ (nm : String) (St : Nat → Heap → Prop), (∀ i h, St i h ↔ h.IsStrIter s1.heap.objs.size nm z t i) → (∀ A' : Around, A'.handled = none → Walks X.prog X.w A' s1.heap.objs.size [s1.heap.objs.size] [s1.heap.objs.size] z.cps.size (SignAt z) St) →
    ["enumerate", "zip", "dict_itemiterator", "dict_reverseitemiterator", "odict_iterator", "itertools.zip_longest", "itertools.pairwise"].contains nm = false →
    (∀ (A : Around) (i : Nat) (s : Shared) (Q E : Value → Shared → Prop), s.heap.IsStrIter s1.heap.objs.size nm z t i → Q (.ref s1.heap.objs.size) s → wpAny (model X.prog X.w) A (pyIter (.ref s1.heap.objs.size)) Q E s) →
    PIE X zd σ tg Q (.ref s1.heap.objs.size) { s1 with heap := s1.heap.push { cls := .type nm, data := .fields #[.str z t, .int 0 0] } } := by
   intro nm St hS W hn hslf
   refine ⟨s1.heap.objs.size, [s1.heap.objs.size], St, ck_2 z, H1, rfl, I1.kept (t' := s1.toks) fun b o e => Heap.get?_push_of_some _ e,
    br_4 W (fun i h st => ?_) (fun i h h' st k => ?_) (fun A i s Q E st h => hslf A i s Q E ((hS _ _).mp st) h) (fun i H g => g) (fun i H g => ?_) (fun i H u hu => ?_), (hS _ _).mpr ⟨_, Heap.get?_push_size _ rfl, rfl, rfl⟩, fun b hb => ?_, q⟩
   ·obtain ⟨o, ho, hc, hd⟩ := (hS _ _).mp st
    exact ⟨o, nm, _, ho, hc, hd, hn⟩
   ·obtain ⟨o, ho, r⟩ := (hS _ _).mp st
    exact (hS _ _).mpr ⟨o, k _ (by simp) o ho, r⟩
   ·exact g
   ·obtain ⟨c, u', e1, e2⟩ := hu
    subst e2
    exact ⟨.str ⟨#[c]⟩, ⟨u', rfl⟩, rfl, c, e1, rfl⟩
   ·have e : b = s1.heap.objs.size := by simpa using hb
    subst e
    exact I1.fpOk (Nat.le_refl _) (I1.hok.fresh (Nat.le_refl _))
  cases ha : z.cps.all (· < 128)
  ·exact wpAny_pyIter_wide ha (fin "str_iterator" _ (fun _ _ => Iff.rfl) (fun A' hA => Walks.strWide hA _ z t) (by decide) fun A i s Q E st h => wpAny_pyIter_striter_wide st h)
  ·exact wpAny_pyIter_ascii ha (fin "str_ascii_iterator" _ (fun _ _ => Iff.rfl) (fun A' hA => Walks.strAscii hA _ z t) (by decide) fun A i s Q E st h => wpAny_pyIter_striter_ascii st h)
theorem ck_3 {G : Hp} {a : Addr} {ds : List D} (h : SqL K G a vs) (r : HasL K G vs ds) : ItD K G (Itl K a) ds := fun G' H g1 g i => by
 refine ⟨fun d e => ?_, fun e => ?_⟩
 ·obtain ⟨v, e1, hv⟩ := r.get e
  refine ⟨⟨vs, v, (g1.trans g).seq h, e1⟩, fun x H' y => ?_⟩
  obtain ⟨e2, y⟩ := y
  subst e2
  have e3 := y vs ((g1.trans g).seq h)
  rw [e1] at e3
  cases e3
  exact ⟨G', Step.refl g, hv.mono g1⟩
 ·exact ⟨vs, (g1.trans g).seq h, by rw [r.length]; exact Nat.le_of_eq e⟩
theorem ct_8 {G : Hp} {a : Addr} {ds : List D} (h : SqT K G a vs) (r : HasL K G vs ds) : ItD K G (Itt K a) ds := fun G' H g1 g i => by
 refine ⟨fun d e => ?_, fun e => ?_⟩
 ·obtain ⟨v, e1, hv⟩ := r.get e
  refine ⟨⟨vs, v, Same.tupS (g1.trans g) h, e1⟩, fun x H' y => ?_⟩
  obtain ⟨e2, y⟩ := y
  subst e2
  have e3 := y vs (Same.tupS (g1.trans g) h)
  rw [e1] at e3
  cases e3
  exact ⟨G', Step.refl g, hv.mono g1⟩
 ·exact ⟨vs, Same.tupS (g1.trans g) h, by rw [r.length]; exact Nat.le_of_eq e⟩
theorem ct_9 {G : Hp} (z : Str) : ItD K G (ck_2 z) (s_5 z) := fun G' H g1 g i => by
 refine ⟨fun d e => ?_, fun e => ?_⟩
 ·unfold s_5 at e
  rw [List.getElem?_map] at e
  cases q : z.cps.toList[i]? with
  | none => rw [q] at e; cases e
  | some c =>
   rw [q] at e
   cases e
   have hi : i < z.cps.size := by
    have := (List.getElem?_eq_some_iff.mp q).1
    simpa using this
   refine ⟨hi, fun x H' y => ?_⟩
   obtain ⟨e2, c', e3, e4⟩ := y
   subst e2 e4
   have : z.cps.toList[i]? = some c' := by simpa using e3
   rw [q] at this
   cases this
   exact ⟨G', Step.refl g, .str _⟩
 ·unfold s_5 at e
  rw [List.length_map] at e
  show i = z.cps.size
  simp at e
  omega
theorem u_4 (he : ED X EX e f) : ID X EX tg e (iOf f) :=
 PI.imp (de_7 he) fun σ H Q ⟨G, δ, g0, s0, o⟩ => by
  refine ⟨G, δ, g0, s0, ?_⟩
  unfold iOf at o
  cases e1 : f δ with
  | ok w =>
   rw [e1] at o
   simp only [R.bind_ok] at o
   refine WP.intro fun v G' H' st r => ?_
   revert r o
   cases w.d with
   | lst ds =>
    intro o r
    cases r with
    | lst h r => exact .inl ⟨_, rfl, ⟨_, st.gh.seq h⟩, o _ G' H' st (ck_3 h r)⟩
   | tup ds =>
    intro o r
    cases r with
    | tup h r => exact .inr (.inl ⟨_, rfl, ⟨_, Same.tupS st.gh h⟩, o _ G' H' st (ct_8 h r)⟩)
   | str z =>
    intro o r
    cases r
    exact .inr (.inr ⟨z, rfl, o _ G' H' st (ct_9 z)⟩)
   | _ => intro o _; exact False.elim o
  | ex x => rw [e1] at o; exact o
  | no => rw [e1] at o; exact o
end
abbrev FG := D → SE → R SE
def tG (K : Frag) (EX : EXS) (fg : FG) : TG := fun v σ H Q => ∃ H0 G0 G Δ O d, Ev K H0 G0 G H σ Δ O ∧ Has K G v d ∧ match fg d Δ with
 | .ok Δ' => ∀ σ' G' H' O', Ev K H0 G0 G' H' σ' Δ' O' → Same G G' → Q σ' H'
 | .ex _ => False
 | .no => False
theorem PG.imp {tg : Expr} {t t' : TG} (h : PG X tg t) (i : ∀ v σ H Q, t' v σ H Q → t v σ H Q) : PG X tg t' := fun zd s σ H v u Q I r q => h zd s σ H v u Q I r (i v σ H Q q)
abbrev GD (X : Cx) (EX : EXS) (tg : Expr) (fg : FG) : Prop := PG X tg (tG X.K EX fg)
section
variable {X : Cx} {EX : EXS} {pos : Pos}
def gV (i : Nat) : FG := fun d Δ => .ok (Δ.set i (.sh d))
theorem k_3 {i : Nat} {x : Str} (hN : X.N.Nodup) (hi : X.N[i]? = some x := by rfl) (hx : Loc X.env.scope x := by first | exact Or.inl rfl | exact Or.inr rfl)
  (hf : X.fn x = true ∨ X.env.scope.names.lookup x = some .local := by first | exact .inl rfl | exact .inr rfl | assumption) : GD X EX (.Name x pos) (gV i) :=
 PG.imp (am_0 hN hi hx hf) fun v σ H Q ⟨H0, G0, G, Δ, O, d, E, r, q⟩ => q _ G H O (E.put r) (Same.refl _)
def gV2 (i j : Nat) : FG := fun d Δ => match d with
 | .tup [a, b] => .ok ((Δ.set i (.sh a)).set j (.sh b))
 | _ => .no
theorem bb_5 {i j k : Nat} {x y : Str} {p1 p2 : Pos} (hc : X.calm = true) (hN : X.N.Nodup) (hi : X.N[i]? = some x := by rfl) (hj : X.N[j]? = some y := by rfl) (hx : Loc X.env.scope x := by first | exact Or.inl rfl | exact Or.inr rfl) (hy : Loc X.env.scope y := by first | exact Or.inl rfl | exact Or.inr rfl)
  (hf : X.fn x = true ∨ X.env.scope.names.lookup x = some .local := by first | exact .inl rfl | exact .inr rfl | assumption) (hf2 : X.fn y = true ∨ X.env.scope.names.lookup y = some .local := by first | exact .inl rfl | exact .inr rfl | assumption)
  (hn : (assignEach [.Name x p1, .Name y p2] X.env).length = 2 := by rfl) (hst : (assignEach [.Name x p1, .Name y p2] X.env).findIdx? (·.1) = none := by rfl)
  (hs : (assignEach [.Name x p1, .Name y p2] X.env).map (·.2) = assign (.Name x p1) X.env :: (assignEach [.Name y p2] X.env).map (·.2) := by rfl) (hs2 : (assignEach [.Name y p2] X.env).map (·.2) = assign (.Name y p2) X.env :: (assignEach [] X.env).map (·.2) := by rfl) :
  GD X EX (.Tuple [.Name x p1, .Name y p2] k pos) (gV2 i j) :=
 PG.imp (db_7 hc (bg_7 (am_0 hN hi hx hf) (bg_7 (am_0 hN hj hy hf2) cr_9 hs2) hs) hn hst) fun v σ H Q ⟨H0, G0, G, Δ, O, d, E, r, q⟩ => by
  cases r with
  | tup h r =>
   cases r with
   | nil => exact False.elim q
   | cons r1 r =>
    cases r with
    | nil => exact False.elim q
    | cons r2 r =>
     cases r with
     | nil => exact ⟨_, _, rfl, Same.tupS E.st.gh h, rfl, _, _, rfl, _, _, rfl, rfl, q _ G H O ((E.put r1).put r2) (Same.refl _)⟩
     | cons _ _ => exact False.elim q
  | _ => exact False.elim q
def j_1 (fg : FG) (g : FS) : List D → FS
 | [] => fun Δ => .nx Δ
 | d :: ds => fun Δ => match fg d Δ with
  | .ok Δ1 => (match g Δ1 with
   | .nx Δ2 => j_1 fg g ds Δ2
   | .ct Δ2 => j_1 fg g ds Δ2
   | .bk Δ2 => .nx Δ2
   | r => r)
  | .ex _ => .no
  | .no => .no
def h_2 (js : List Nat) (fi : FI) (fg : FG) (g : FS) : FS := fun Δ => match fi (vsh Δ) with
 | .ok ds => j_1 fg g ds Δ
 | .ex x => .ex x Δ
 | .no => match fi (vsh (gsome js Δ)) with
  | .ok ds => j_1 fg g ds (gsome js Δ)
  | .ex x => .ex x (gsome js Δ)
  | .no => .no
theorem w_9 {α : Type} {l : List α} {i : Nat} (h : i < l.length) : ∃ x, l[i]? = some x ∧ l.drop i = x :: l.drop (i + 1) := ⟨l[i], by simp [h], List.drop_eq_getElem_cons h⟩
theorem aw_5 {fg : FG} {g : FS} {H0 : HB} {G0 G1 H1 : Hp} {J : It} {ds : List D} {Δ : SE} {O : OS} {σ : Sg} {D : Ends} (E : Ev K H0 G0 G1 H1 σ Δ O) (it : ItD K G1 J ds) (q : Fin K EX H0 G0 G1 D (j_1 fg g ds Δ)) :
  ∃ W : Nat → Nat → Sg → Hp → Prop, (∃ m, W 0 m σ H1) ∧ ∀ i m σ H, W i m σ H →
   (J.stop i H ∧ D.nx σ H) ∨ (J.go i H ∧ ∃ N : Sg → Hp → Prop, (∀ σ' H', N σ' H' → ∃ m', m' < m ∧ W (i + 1) m' σ' H') ∧ ∀ x H', J.yld i H x H' → tG K EX fg x σ H' fun σ2 H2 => tS K EX g { D with nx := N, ct := N, bk := D.nx } σ2 H2) := by
 refine ⟨fun i m σ H => m = ds.length - i ∧ i ≤ ds.length ∧ ∃ G Δ O, Ev K H0 G0 G H σ Δ O ∧ Same G1 G ∧ Fin K EX H0 G0 G1 D (j_1 fg g (ds.drop i) Δ), ⟨ds.length, by simp, Nat.zero_le _, G1, Δ, O, E, Same.refl _, q⟩, ?_⟩
 rintro i m σ H ⟨rfl, hi, G, Δ, O, E, sg, q⟩
 obtain ⟨i1, i2⟩ := it G H sg E.st.gh i
 by_cases hlt : i < ds.length
 ·obtain ⟨d, e1, e2⟩ := w_9 hlt
  obtain ⟨go, yl⟩ := i1 d e1
  refine .inr ⟨go, fun σ' H' => ∃ G Δ O, Ev K H0 G0 G H' σ' Δ O ∧ Same G1 G ∧ Fin K EX H0 G0 G1 D (j_1 fg g (ds.drop (i + 1)) Δ), fun σ' H' w => ⟨ds.length - (i + 1), by omega, rfl, hlt, w⟩, fun x H' y => ?_⟩
  obtain ⟨G', st, hx⟩ := yl x H' y
  rw [e2] at q
  refine ⟨H0, G0, G', Δ, O, d, E.grow st, hx, ?_⟩
  have q' : Fin K EX H0 G0 G1 D (match fg d Δ with
   | .ok Δ1 => (match g Δ1 with
    | .nx Δ2 => j_1 fg g (ds.drop (i + 1)) Δ2
    | .ct Δ2 => j_1 fg g (ds.drop (i + 1)) Δ2
    | .bk Δ2 => .nx Δ2
    | r => r)
   | .ex _ => .no
   | .no => .no) := q
  cases e3 : fg d Δ with
  | ok Δ1 =>
   rw [e3] at q'
   intro σ2 G2 H2 O2 E2 s2
   have s12 : Same G1 G2 := sg.trans (st.gg.trans s2)
   refine ⟨H0, G0, G2, Δ1, O2, E2, ?_⟩
   cases e4 : g Δ1 with
   | nx Δ2 => simp only [e4] at q'; exact fun σ3 G3 H3 O3 E3 s3 => ⟨G3, Δ2, O3, E3, s12.trans s3, q'⟩
   | ct Δ2 => simp only [e4] at q'; exact fun σ3 G3 H3 O3 E3 s3 => ⟨G3, Δ2, O3, E3, s12.trans s3, q'⟩
   | bk Δ2 => simp only [e4] at q'; exact fun σ3 G3 H3 O3 E3 s3 => q' σ3 G3 H3 O3 E3 (s12.trans s3)
   | rt w => simp only [e4] at q'; exact q'
   | ex x Δ2 => simp only [e4] at q'; exact fun σ3 G3 H3 O3 E3 s3 => q' σ3 G3 H3 O3 E3 (s12.trans s3)
   | no => simp only [e4] at q'; exact q'
  | ex x => rw [e3] at q'; exact q'
  | no => rw [e3] at q'; exact q'
 ·have e : ds.length = i := by omega
  refine .inl ⟨i2 e, ?_⟩
  rw [List.drop_eq_nil_of_le (by omega)] at q
  exact q σ G H O E sg
theorem j_6 {tg iter : Expr} {body : List Stmt} {fi : FI} {fg : FG} {g : FS} (js : List Nat) (hp : PassesOwn (model X.prog X.w) X.A X.env X.xe) (hc : X.calm = true) (hi : ID X EX tg iter fi) (hg : GD X EX tg fg) (hb : BD X EX body g)
  (hs : ∀ x, foldedSetIterable iter X.env x = pure x := by intro _; rfl) : SD X EX (.For tg iter body [] pos) (h_2 js fi fg g) :=
 PS.imp (dc_1 hp hc hi hg hb hs) fun D σ H ⟨H0, G0, G, Δ, O, E, q⟩ => by
  unfold h_2 at q
  cases e1 : fi (vsh Δ) with
  | ok ds =>
   rw [e1] at q
   refine ⟨G, vsh Δ, E.st.gh, E.gsh, ?_⟩
   rw [e1]
   exact fun J G' H' st it => aw_5 (E.grow st) it (Fin.mono st.gg q)
  | ex x =>
   rw [e1] at q
   exact ⟨G, vsh Δ, E.st.gh, E.gsh, by rw [e1]; exact q σ G H O E (Same.refl _)⟩
  | no =>
   rw [e1] at q
   obtain ⟨G1, O1, sg, E1⟩ := E.gsome js
   refine ⟨G1, vsh (gsome js Δ), E1.st.gh, E1.gsh, ?_⟩
   cases e2 : fi (vsh (gsome js Δ)) with
   | ok ds =>
    simp only [e2] at q
    exact fun J G' H' st it => aw_5 (E1.grow st) it (Fin.mono (sg.trans st.gg) q)
   | ex x => simp only [e2] at q; exact q σ G1 H O1 E1 sg
   | no => simp only [e2] at q; exact q
def sApp (i : Nat) (f : FE) : FS := fun Δ => match Δ[i]? with
 | some (.ow (.lst ds)) => if ds.length < 16777216 then (match f (vsh Δ) with
   | .ok w => .nx (Δ.set i (.ow (.lst (ds ++ [w.d]))))
   | .ex x => .ex x Δ
   | .no => match f (vall Δ) with
    | .ok w => if flatD w.d = true then .nx (Δ.set i (.ow (.lst (ds ++ [w.d])))) else .no
    | _ => .no) else .no
 | _ => .no
theorem ao_7 {i : Nat} {x : Str} {e : Expr} {f : FE} {p1 zh zf : Pos} (he : ED X EX e f) (hN : X.N[i]? = some x := by rfl) (hv : Vis X.env.scope x := by first | exact Or.inl rfl | exact Or.inr (Or.inl rfl) | exact Or.inr (Or.inr rfl)) (hd : (x == ("__debug__" : Str)) = false := by decide)
  (hcd : (x == ("__classdict__" : Str)) = false := by decide) (hsw : swapsWith (.Call (.Attribute (.Name x p1) "append" zh) [e] [] zf) none pos.line X.env = pure false := by rfl)
  (ae : attributeBase (.Name x p1) "append" X.env (eval (.Name x p1) X.env) = eval (.Name x p1) X.env := by rfl)
  (au : ((backTo zf (starEach [e] X.env)).all (fun x => !x.1) && (backToKw zf (keywordEach [] X.env)).all (fun x => x.1.isSome)
   && decide ([e].length + ([] : List Keyword).length + (if ([] : List Keyword).isEmpty then 0 else 1) < 30)) = true := by rfl)
  (af : (zh.endLine == zf.line) = true := by rfl) (hs : starEach [e] X.env = (false, eval e X.env) :: starEach [] X.env := by rfl) (aa : (backTo zf (starEach [] X.env)).any (·.1) = false := by rfl) :
  SD X EX (.Expr (.Call (.Attribute (.Name x p1) "append" zh) [e] [] zf) pos) (sApp i f) :=
 PS.imp (ac_9 (ci_2 PySem.F.plainAttrs_list PySem.F.slot_list_append PySem.F.type_list_append av_4 (i_9 hN hv hd hcd) (e_4 he n_9 hs) ae au af hs aa) hsw) fun D σ H ⟨H0, G0, G, Δ, O, E, q⟩ => by
  unfold sApp at q
  split at q
  ·rename_i ds e1
   split at q
   ·rename_i hz
    obtain ⟨v0, s1, t⟩ := E.ow i _ _ e1 rfl
    obtain ⟨a, vs, rfl, m, hH, rl⟩ := t.list_of
    ·skip
     refine ⟨.ref a, s1, .inl ⟨rfl, _, SqL.of hH⟩, ?_⟩
     have fin : ∀ {G' H' : Hp} {v : V} {d : L3.D}, Ev X.K H0 G0 G' H' σ Δ O → Same G G' → H' a = some (.lst vs) → HasL X.K G' vs ds → Has X.K G' v d → Fin X.K EX H0 G0 G D (.nx (Δ.set i (.ow (.lst (ds ++ [d]))))) →
       bv_7 (.ref a) [v] H' fun _ H1 => D.nx σ H1 := fun {G' H' v d} E' sg hH' r' hv' q' =>
      ⟨a, vs, v, rfl, rfl, hH', by rw [r'.length, sizeLine_eq]; exact hz, q' σ G' _ _ (E'.writeL s1 m (r'.append (.cons hv' .nil))) sg⟩
     cases e2 : f (vsh Δ) with
     | ok w =>
      simp only [e2] at q
      refine ⟨G, vsh Δ, E.st.gh, E.gsh, ?_⟩
      rw [e2]
      exact WP.intro fun v G' H' st r => fin (E.grow st) st.gg (st.hh _ _ hH) (rl.mono st.gg) r q
     | ex x =>
      simp only [e2] at q
      exact ⟨G, vsh Δ, E.st.gh, E.gsh, by rw [e2]; exact q σ G H O E (Same.refl _)⟩
     | no =>
      simp only [e2] at q
      refine ⟨s_1 G H O, vall Δ, E.aH, E.gall, ?_⟩
      cases e3 : f (vall Δ) with
      | ok w =>
       simp only [e3] at q
       split at q
       ·rename_i fl
        exact WP.intro fun v G' H' st r => fin (E.keep st.hh) (Same.refl _) (st.hh _ _ hH) rl (r.ofFl fl) q
       ·exact q.elim
      | ex x => simp only [e3] at q; exact q.elim
      | no => simp only [e3] at q; exact q
   ·exact q.elim
  ·exact q.elim
end
def g_5 (X : Cx) (scope : Scope) (cl : List (Str × Addr)) (N' : List Str) (C : Addr) (s0 : Shared) (H0 : Hp) (fp : List Addr) (pn : List (Addr × Obj)) : Cx where
 prog := X.prog
 w := X.w
 K := X.K
 mg := X.mg
 base := X.base
 A := X.A
 N := N'
 s₀ := s0
 H₀ := H0
 env := compEnvC scope cl C X.env
 outer := X.stack
 stack := X.stack
 ex := fp
 fn := fun _ => false
 calm := X.calm
 pn := pn
 xe := fun _ _ => False
abbrev FGc := D → DE → R DE
def tGc (K : Frag) (EX : EXS) (fg : FGc) : TG := fun v σ H Q => ∃ G δ d, Same G H ∧ HasS K G σ δ ∧ Has K G v d ∧ match fg d δ with
 | .ok δ' => ∀ σ', HasS K G σ' δ' → HasS K G σ' δ → Q σ' H
 | .ex x => (EX σ).p x G H
 | .no => False
abbrev GC (X : Cx) (EX : EXS) (tg : Expr) (fg : FGc) : Prop := PG X tg (tGc X.K EX fg)
def CTs (X : Cx) (EX : EXS) (ifs : List Expr) (p : FT) : Prop :=
 ∀ (zd : List (Addr × Obj)) (s : Shared) (σ : Sg) (H : Hp) (Q : Bool → Hp → Prop), Inv X zd σ H s → tDt X.K EX p σ H Q →
  wpAny (model X.prog X.w) X.A (forIn ifs true fun c r => if r = true then do let ok ← isTrue c X.env (eval c X.env); pure (ForInStep.yield ok) else pure (ForInStep.yield r)) (TP X zd σ Q) X.xe s
section
variable {X : Cx} {EX : EXS} {pos : Pos}
def gC (i : Nat) : FGc := fun d δ => match δ[i]? with
 | some none => .ok (δ.set i (some d))
 | _ => .no
theorem HasS.put {G : Hp} {σ : Sg} {δ : DE} {d : D} (h : HasS K G σ δ) (r : Has K G v d) (i : Nat) : HasS K G (σ.set i (some v)) (δ.set i (some d)) := by
 refine ⟨by rw [List.length_set, List.length_set]; exact h.len, fun j d' e => ?_⟩
 rcases g_4 e with ⟨rfl, q⟩ | ⟨n, q⟩
 ·cases q
  have hlt : i < δ.length := by
   by_cases hh : i < δ.length
   ·exact hh
   ·rw [List.getElem?_eq_none (by rw [List.length_set]; omega)] at e; cases e
  exact ⟨v, by rw [List.getElem?_set_self (by rw [h.len]; exact hlt)], r⟩
 ·obtain ⟨v', e1, r'⟩ := h.get j d' q
  exact ⟨v', by rw [List.getElem?_set_ne n]; exact e1, r'⟩
theorem cu_0 {i : Nat} {x : Str} (hN : X.N.Nodup) (hi : X.N[i]? = some x := by rfl) (hx : Loc X.env.scope x := by first | exact Or.inl rfl | exact Or.inr rfl)
  (hf : X.fn x = true ∨ X.env.scope.names.lookup x = some .local := by first | exact .inl rfl | exact .inr rfl | assumption) : GC X EX (.Name x pos) (gC i) :=
 PG.imp (am_0 hN hi hx hf) fun v σ H Q ⟨G, δ, d, g, s, r, q⟩ => by
  unfold gC at q
  cases e : δ[i]? with
  | none => rw [e] at q; exact q.elim
  | some o =>
   rw [e] at q
   cases o with
   | some _ => exact q.elim
   | none =>
    refine q _ (s.put r i) ⟨by rw [List.length_set]; exact s.len, fun j d' e' => ?_⟩
    obtain ⟨v', e1, r'⟩ := s.get j d' e'
    refine ⟨v', ?_, r'⟩
    rw [List.getElem?_set_ne]
    ·exact e1
    ·rintro rfl
     rw [e] at e'
     cases e'
theorem x_0 : CTs X EX [] (fun _ => .ok true) := fun zd s σ H Q I ⟨G, δ, g, h, q⟩ => wpAny_tests_nil ⟨H, I, q G H (Step.refl g)⟩
theorem bb_6 {c : Expr} {p : FT} (h : TD X EX c p) : CTs X EX [c] p := fun zd s σ H Q I q => wpAny_tests_one (h zd s σ H Q I q)
def j_2 (fg : FGc) (p : FT) (f : FE) (δ : DE) : List D → R (List D)
 | [] => .ok []
 | d :: ds => (fg d δ).bind fun δ1 => (p δ1).bind fun b => if b = true then (f δ1).bind fun w => (j_2 fg p f δ ds).bind fun rs => .ok (w.d :: rs) else j_2 fg p f δ ds
def R.calm {α : Type} : R α → R α
 | .ok w => .ok w
 | _ => .no
@[simp] theorem R.calm_ok {α : Type} (a : α) : (R.ok a).calm = .ok a := rfl
@[simp] theorem R.calm_ex {α : Type} (x : Xn) : (R.ex x : R α).calm = .no := rfl
@[simp] theorem R.calm_no {α : Type} : (R.no : R α).calm = .no := rfl
def c_6 (m : Nat) (fi : FI) (fg : FGc) (p : FT) (f : FE) : FE := fun δ => ((fi δ).bind fun ds => if ds.length ≤ 16777216 then (j_2 fg p f (δ ++ List.replicate m none) ds).bind fun rs => .ok (.ow (.lst rs)) else .no).calm
theorem R.calm_never {α : Type} {r : R α} {x : Xn} (h : r.calm = .ex x) : False := by
 cases r <;> cases h
theorem bi_2 {m : Nat} {fi : FI} {fg : FGc} {p : FT} {f : FE} {δ : DE} {x : Xn} (h : c_6 m fi fg p f δ = .ex x) : False := R.calm_never h
@[reducible] def de_8 (prog : Program) (w : World) (A : Around) (env : Env) (tg elt : Expr) (ifs : List Expr) (it zp : Value) (bad : Value → Shared → Prop) (fin more : Shared → Prop) : Option Value → Shared → Prop
 | none => fin
 | some v => wpAny (model prog w) A (letOwnedTupleGo tg it v) (fun _ => wpAny (model prog w) A (assign tg env v) (fun _ =>
   wpAny (model prog w) A (forIn ifs true fun c r => if r = true then do let ok ← isTrue c env (eval c env); pure (ForInStep.yield ok) else pure (ForInStep.yield r)) (fun ok =>
    if ok = true then wpAny (model prog w) A (eval elt env) (fun x => wpAny (model prog w) A (call (.builtin "list.append") [zp, x]) (fun _ => more) bad) bad else more) bad) bad) bad
theorem br_5 {prog : Program} {w : World} {A : Around} {R : Result → Shared → Prop} {s : Shared} {elt target iter : Expr} {ifs : List Expr} {scope : Scope} {it zp : Value} {env : Env} (I : Nat → Shared → Prop)
  (turn : ∀ n s, I n s → wpAny (model prog w) A (pyNext it) (de_8 prog w A env target elt ifs it zp (notedBy (model prog w) A env fun e => R (.error e)) (R (.ok .next)) fun s' => ∃ m, m < n ∧ I m s') (notedBy (model prog w) A env fun e => R (.error e)) s)
  (n : Nat) (h : I n s) : codeAny (model prog w) A (.compLoop (.ListComp elt [⟨target, iter, ifs, 0⟩] scope pos) 0 it zp env) R s := by
 refine codeAny_loop rfl I (fun k t hk => wpAny_noted (env := env) (m := compTurn (.ListComp elt [⟨target, iter, ifs, 0⟩] scope pos) 0 it zp env) (compTurn_list .. ▸ ?_)) n h
 refine wpAny_bind (wpAny_standAt (wpAny_bind (thn (turn k t hk) ?_)))
 rintro (_ | v) t1 g1
 ·exact wpAny_pure g1
 refine wpAny_bind (thn g1 fun _ t2 g2 => wpAny_bind (thn g2 fun _ t3 g3 => wpAny_bind (thn g3 ?_)))
 rintro (_ | _) t4 g4
 ·exact wpAny_pure ⟨rfl, g4⟩
 ·exact wpAny_bind (wpAny_bind (thn g4 fun _ t5 g5 => wpAny_bind (thn g5 fun _ t6 g6 => wpAny_pure (wpAny_pure ⟨rfl, g6⟩))))
structure CompN (X : Cx) (scope : Scope) (cl : List (Str × Addr)) (N' : List Str) : Prop where
 clos : closureFor scope X.env = pure cl
 cell : ∀ y ∈ scope.names, y.2 ≠ .cell
 kind : scope.kind = .function
 names : ∀ y ∈ scope.names, y.2 = .local → scope.names.lookup y.1 = some .local
 sub : ∀ x c, cl.lookup x = some c → X.env.cells.lookup x = some c
 has : ∀ x, ((relabel scope X.env).names.lookup x = some .cell ∨ (relabel scope X.env).names.lookup x = some .free) → ∃ c, cl.lookup x = some c
 old : ∀ (i : Nat) (x : Str), N'[i]? = some x → i < X.N.length → Vis (relabel scope X.env) x → X.N[i]? = some x ∧ (X.env.scope.names.lookup x = some .cell ∨ X.env.scope.names.lookup x = some .free) ∧ (∃ c, cl.lookup x = some c) ∧ ((relabel scope X.env).names.lookup x = some .cell ∨ (relabel scope X.env).names.lookup x = some .free)
def m_0 (cells : List (Str × Addr)) : List (Str × NameKind) → List (Str × Addr) → List (Str × Addr)
 | [], zp => zp
 | (x, k) :: r, zp => m_0 cells r (if k = .free then (x, (cells.lookup x).getD 0) :: zp else zp)
theorem at_2 {scope : Scope} {env : Env} (h : ∀ p ∈ scope.names, p.2 = .free → ∃ c, env.cells.lookup p.1 = some c) : closureFor scope env = pure (m_0 env.cells scope.names []) := by
 have all : ∀ (names : List (Str × NameKind)) (zp : List (Str × Addr)), (∀ p ∈ names, p.2 = .free → ∃ c, env.cells.lookup p.1 = some c) →
   (forIn names zp fun (x : Str × NameKind) (r : List (Str × Addr)) => if (x.2 == .free) = true then do let a ← cellOf env x.1; pure (ForInStep.yield ((x.1, a) :: r)) else pure (ForInStep.yield r) : Sem (List (Str × Addr))) = pure (m_0 env.cells names zp) := by
  intro names
  induction names with
  | nil => intro zp _; rfl
  | cons p r ih =>
   intro zp hp
   obtain ⟨x, k⟩ := p
   rw [List.forIn_cons]
   by_cases hk : k = .free
   ·subst hk
    obtain ⟨c, e⟩ := hp (x, .free) List.mem_cons_self rfl
    have e1 : cellOf env x = pure c := by unfold cellOf; rw [show env.cells.lookup x = some c from e]
    simp only [beq_self_eq_true, if_true, e1, pure_bind]
    rw [ih _ fun q hq => hp q (List.mem_cons_of_mem _ hq)]
    show _ = pure (m_0 env.cells r (if NameKind.free = .free then (x, (env.cells.lookup x).getD 0) :: zp else zp))
    rw [if_pos rfl, show env.cells.lookup x = some c from e]
    rfl
   ·have hb : (k == NameKind.free) = false := by simpa using hk
    simp only [hb, Bool.false_eq_true, if_false, pure_bind]
    rw [ih _ fun q hq => hp q (List.mem_cons_of_mem _ hq)]
    show _ = pure (m_0 env.cells r (if k = .free then (x, (env.cells.lookup x).getD 0) :: zp else zp))
    rw [if_neg hk]
 unfold closureFor
 have := all scope.names [] h
 simpa using this
theorem bi_3 {cells : List (Str × Addr)} {q : Str × Addr} : ∀ {names : List (Str × NameKind)} {zp : List (Str × Addr)}, q ∈ m_0 cells names zp → q ∈ zp ∨ ((q.1, NameKind.free) ∈ names ∧ q.2 = (cells.lookup q.1).getD 0)
 | [], zp, h => .inl h
 | (x, k) :: r, zp, h => by
  rcases bi_3 (names := r) h with h | ⟨h1, h2⟩
  ·split at h
   ·rename_i hk
    rcases List.mem_cons.mp h with rfl | h
    ·exact .inr ⟨by rw [hk]; exact List.mem_cons_self, rfl⟩
    ·exact .inl h
   ·exact .inl h
  ·exact .inr ⟨List.mem_cons_of_mem _ h1, h2⟩
theorem bi_4 {cells : List (Str × Addr)} {x : Str} : ∀ {names : List (Str × NameKind)} {zp : List (Str × Addr)}, (zp.lookup x).isSome = true → ((m_0 cells names zp).lookup x).isSome = true
 | [], zp, h => h
 | (y, k) :: r, zp, h => by
  refine bi_4 (names := r) ?_
  split
  ·rw [List.lookup_cons]
   split
   ·rfl
   ·exact h
  ·exact h
theorem bi_5 {cells : List (Str × Addr)} {x : Str} : ∀ {names : List (Str × NameKind)} {zp : List (Str × Addr)}, (x, NameKind.free) ∈ names → ((m_0 cells names zp).lookup x).isSome = true
 | (y, k) :: r, zp, h => by
  rcases List.mem_cons.mp h with h | h
  ·cases h
   refine bi_4 (names := r) ?_
   rw [if_pos rfl, List.lookup_cons]
   simp
  ·exact bi_5 (names := r) h
theorem r_1 {env : Env} : ∀ (names : List (Str × NameKind)) (x : Str),
  (names.map fun (n, k) => if (k == NameKind.free && env.scope.kind == .function && env.kindOf n == some .cell) then (n, NameKind.cell) else (n, k)).lookup x = (names.lookup x).map fun k => if (k == NameKind.free && env.scope.kind == .function && env.kindOf x == some .cell) = true then NameKind.cell else k
 | [], x => rfl
 | (n, k) :: r, x => by
  have ih := r_1 (env := env) r x
  show List.lookup x ((if (k == NameKind.free && env.scope.kind == .function && env.kindOf n == some .cell) = true then (n, NameKind.cell) else (n, k)) :: _) = _
  cases hx : x == n with
  | true =>
   have e : x = n := eq_of_beq hx
   subst e
   by_cases hc : (k == NameKind.free && env.scope.kind == .function && env.kindOf x == some .cell) = true
   ·rw [if_pos hc]; simp only [List.lookup_cons, beq_self_eq_true, Option.map_some]; rw [if_pos hc]
   ·rw [if_neg hc]; simp only [List.lookup_cons, beq_self_eq_true, Option.map_some]; rw [if_neg hc]
  | false =>
   by_cases hc : (k == NameKind.free && env.scope.kind == .function && env.kindOf n == some .cell) = true
   ·rw [if_pos hc]; simp only [List.lookup_cons, hx]; exact ih
   ·rw [if_neg hc]; simp only [List.lookup_cons, hx]; exact ih
def ai_7 (inner outer : List (Str × NameKind)) (N N' : List Str) : Bool :=
 (inner.all fun p => p.2 != .cell && (p.2 != .local || inner.lookup p.1 == some .local) && (p.2 != .free || (outer.lookup p.1 == some .cell || outer.lookup p.1 == some .free))) &&
 (List.range N.length).all fun i => match N'[i]? with
  | some x => (match inner.lookup x with
   | some .free => N[i]? == some x && (outer.lookup x == some .cell || outer.lookup x == some .free)
   | some .local => false
   | some .cell => false
   | _ => true)
  | none => true
theorem ao_8 {scope : Scope} {N' : List Str} (ok : X.Ok) (hk : scope.kind = .function) (hb : ai_7 scope.names X.env.scope.names X.N N' = true) : CompN X scope (m_0 X.env.cells scope.names []) N' := by
 unfold ai_7 at hb
 rw [Bool.and_eq_true] at hb
 obtain ⟨h1, h2⟩ := hb
 have h1 := List.all_eq_true.mp h1
 have h2 := List.all_eq_true.mp h2
 have fr : ∀ p ∈ scope.names, p.2 = .free → ∃ c, X.env.cells.lookup p.1 = some c := fun p hp hf => by
  have z := h1 p hp
  simp only [hf, Bool.and_eq_true, Bool.or_eq_true, bne_iff_ne, beq_iff_eq] at z
  exact ok.has p.1 (by
   rcases z.2 with z | z
   ·exact absurd rfl z
   ·exact z)
 have inn : ∀ x k, scope.names.lookup x = some k → (x, k) ∈ scope.names := fun x k e => PySem.mem_of_lookup e
 have ar : ∀ p ∈ scope.names, p.2 ≠ .cell := fun p hp hc => by
  have z := h1 p hp
  rw [hc] at z
  simp at z
 have dg : ∀ x, scope.names.lookup x = some .free → ∃ c, (m_0 X.env.cells scope.names []).lookup x = some c := fun x e => Option.isSome_iff_exists.mp (bi_5 (inn x _ e))
 have gj : ∀ x, ((relabel scope X.env).names.lookup x = some .cell ∨ (relabel scope X.env).names.lookup x = some .free) → scope.names.lookup x = some .free := fun x h => by
  unfold relabel at h
  rw [r_1] at h
  cases e : scope.names.lookup x with
  | none => rw [e] at h; simp at h
  | some k =>
   rw [e] at h
   have nc := ar (x, k) (inn x k e)
   cases k with
   | free => rfl
   | cell => exact absurd rfl nc
   | «local» => simp at h
   | globalExplicit => simp at h
   | globalImplicit => simp at h
 refine ⟨at_2 fr, ar, hk, fun y hy hl => ?_, fun x c e => ?_, fun x h => dg x (gj x h), fun i x e hi hv => ?_⟩
 ·have z := h1 y hy
  simp only [hl, Bool.and_eq_true, Bool.or_eq_true, bne_iff_ne, beq_iff_eq] at z
  rcases z.1.2 with z | z
  ·exact absurd rfl z
  ·exact z
 ·rcases bi_3 (PySem.mem_of_lookup e) with z | ⟨z1, z2⟩
  ·exact absurd z (by simp)
  ·obtain ⟨c', e'⟩ := fr (x, .free) z1 rfl
   have z2 : c = (X.env.cells.lookup x).getD 0 := z2
   have e' : X.env.cells.lookup x = some c' := e'
   rw [e'] at z2 ⊢
   cases z2
   rfl
 ·have z := h2 i (List.mem_range.mpr hi)
  rw [e] at z
  dsimp only at z
  have look : scope.names.lookup x = some .free ∧ (((relabel scope X.env).names.lookup x = some .cell ∨ (relabel scope X.env).names.lookup x = some .free)) := by
   unfold Vis relabel at hv
   unfold relabel
   rw [r_1] at hv ⊢
   cases q : scope.names.lookup x with
   | none => rw [q] at hv; simp at hv
   | some k =>
    rw [q] at hv z
    cases k with
    | free =>
     refine ⟨rfl, ?_⟩
     by_cases hc : (X.env.scope.kind == .function && X.env.kindOf x == some .cell) = true
     ·left; simp [Bool.and_assoc, hc]
     ·right; simp [Bool.and_assoc, hc]
    | cell => simp at z
    | «local» => simp at z
    | globalExplicit => simp at hv
    | globalImplicit => simp at hv
  rw [look.1] at z
  simp only [Bool.and_eq_true, Bool.or_eq_true, beq_iff_eq] at z
  exact ⟨z.1, z.2, dg x look.1, look.2⟩
theorem cc_8 {elt iter tg : Expr} {ifs : List Expr} {scope : Scope} {N' : List Str} {fi : FI} {fg : FGc} {p : FT} {f : FE} {m : Nat} (hx0 : ∀ e s, ¬ X.xe e s) (hc : X.calm = true) (hk : scope.kind = .function) (hb : ai_7 scope.names X.env.scope.names X.N N' = true)
  (hm : N'.length = X.N.length + m)
  (hin : ∀ C s0 H0 fp pn, GC (g_5 X scope (m_0 X.env.cells scope.names []) N' C s0 H0 fp pn) m_9 tg fg ∧ CTs (g_5 X scope (m_0 X.env.cells scope.names []) N' C s0 H0 fp pn) m_9 ifs p ∧ ED (g_5 X scope (m_0 X.env.cells scope.names []) N' C s0 H0 fp pn) m_9 elt f)
  {zd : List (Addr × Obj)} {s : Shared} {σ : Sg} {δ : DE} (I : Inv X zd σ H s) {Z : Hp → Hp → Prop} (hZ : ∀ G2 H2, Z G2 H2 → Same G2 H2 ∧ HasS X.K G2 σ δ)
  (hit : wpAny (model X.prog X.w) X.A (eval iter X.env) (fun xv s₁ => wpAny (model X.prog X.w) X.A (pyIter xv) (fun itv s₂ => ∃ (it : Addr) (fp : List Addr) (tn : Nat → Heap → Prop) (J : It) (H2 : Hp) (ds : List D) (G2 : Hp), itv = .ref it ∧ Inv X zd σ H2 s₂ ∧ Turn X.prog X.w X.K tg J fp it tn ∧ tn 0 s₂.heap ∧ (∀ b ∈ fp, FpOk X zd H2 b) ∧ fi δ = .ok ds ∧ Z G2 H2 ∧ ItD X.K G2 J ds) X.xe s₁) X.xe s)
  {RR : Value → Addr → Result → Shared → Prop}
  (o : match c_6 m fi fg p f δ with | .ok _ => True | .ex x => False | .no => False)
  (hRR : ∀ (Da C : Addr) (s1 : Shared) (G2 H2 G' H' : Hp) (vs : List V) (rs : List D), c_6 m fi fg p f δ = .ok (.ow (.lst rs)) → Inv X zd σ H' s1 → (∃ m, s1.heap.Ns C m) → FpOk X zd H' C → Z G2 H2 → Step G2 H2 G' H' → H2 Da = none → H' Da = some (.lst vs) → G' Da = none → HasL X.K G' vs rs → RR (.ref Da) C (.ok .next) s1) :
  wpAny (model X.prog X.w) X.A (eval iter X.env) (fun x s₁ => wpAny (model X.prog X.w) X.A (pyIter x) (fun it s₂ => wpAny (model X.prog X.w) X.A (newList []) (fun zp s₃ =>
   wpAny (model X.prog X.w) X.A (newFunctionEnv scope X.env.globals (m_0 X.env.cells scope.names []) [] X.env.qual none .none (some X.env)) (fun cenv s₄ =>
    codeAny (model X.prog X.w) X.A (.compStart (.ListComp elt [⟨tg, iter, ifs, 0⟩] scope pos) 0 it zp { cenv with scope := relabel scope X.env }) (RR zp cenv.locals) s₄) X.xe s₃) X.xe s₂) X.xe s₁) X.xe s := by
 have n := ao_8 I.ok hk hb
 generalize hcle : m_0 X.env.cells scope.names [] = cl at n hin ⊢
 have bz : ∀ ds, fi δ = .ok ds → ds.length ≤ 16777216 ∧ (match j_2 fg p f (δ ++ List.replicate m none) ds with | .ok rs => c_6 m fi fg p f δ = .ok (.ow (.lst rs)) | .ex x => False | .no => False) := fun ds e => by
  unfold c_6 at o ⊢
  simp only [e, R.bind_ok] at o ⊢
  by_cases hz : ds.length ≤ 16777216
  ·refine ⟨hz, ?_⟩
   rw [if_pos hz] at o ⊢
   cases e2 : j_2 fg p f (δ ++ List.replicate m none) ds with
   | ok rs => rfl
   | ex x => rw [e2] at o; exact o
   | no => rw [e2] at o; exact o
  ·rw [if_neg hz] at o; exact o.elim
 
 refine wpAny_mono hit (fun xv s₁ h₁ => wpAny_mono h₁ (fun itv s₂ h₂ => ?_) fun _ _ e => (hx0 _ _ e).elim) fun _ _ e => (hx0 _ _ e).elim
 obtain ⟨it, fp, tn, J, H2, ds, G2, rfl, I2, T, st2, f2, e2, hz2, itd⟩ := h₂
 obtain ⟨sg2, h0⟩ := hZ G2 H2 hz2
 obtain ⟨hz, o⟩ := bz ds e2
 
 have hfD : H2 s₂.heap.objs.size = none := I2.hok.fresh (Nat.le_refl _)
 refine wpAny_newObj_type (wpAny_newFunctionEnv n.cell (by intro y hy; simp at hy) (fun h₁ hns₁ hsb₁ => ?_) n.kind)
 dsimp only at hns₁ hsb₁ ⊢
 generalize hDa : s₂.heap.objs.size = Da at hfD
 have hDn : @Eq Nat s₂.heap.objs.size Da := hDa
 have I3 : Inv X zd σ (upd H2 Da (.lst [])) { s₂ with heap := s₂.heap.push { cls := .type "list", dict := none, data := .seq ([] : List Value).toArray } } := by
  rw [← hDa]
  exact I2.lnew (t' := s₂.toks) .nil (Nat.zero_le _)
 generalize hH3 : s₂.heap.push { cls := .type "list", dict := none, data := .seq ([] : List Value).toArray } = hp3 at hns₁ hsb₁ I3 ⊢
 have hC : hp3.objs.size = Da + 1 := by rw [← hH3, Heap.size_push, hDa]
 generalize hCe : hp3.objs.size = C at hns₁ hsb₁ hC
 have hCn : @Eq Nat hp3.objs.size C := hCe
 have hC2 : @Eq Nat C (Da + 1) := hC
 have gi : ∀ b o, s₂.heap.get? b = some o → hp3.get? b = some o := fun b o e => by rw [← hH3]; exact Heap.get?_push_of_some _ e
 have up : ∀ b o, hp3.get? b = some o → h₁.get? b = some o := fun b o e => hsb₁.extBut b o (Nat.ne_of_lt (show @LT.lt Nat _ b C by rw [← hCn]; exact Heap.lt_size e)) (Heap.get?_push_of_some _ e)
 
 have fpC : ∀ b ∈ fp, b < s₂.heap.objs.size := fun b hb => by
  obtain ⟨o, e, _⟩ := T.obj _ _ st2 b hb
  exact Heap.lt_size e
 have hcl : ∀ x c, cl.lookup x = some c → c < hp3.objs.size ∧ c ∉ fp ∧ (upd H2 Da (.lst [])) c = none := fun x c e => by
  have e' := n.sub x c e
  obtain ⟨v, hv⟩ := I3.cell x c e'
  exact ⟨hv.lt, fun z => (f2 c z).2.2.2.2.1 x c e' rfl, I3.freeC x c e'⟩
 let X' := g_5 X scope cl N' C { s₂ with heap := hp3 } (upd H2 Da (.lst [])) fp (X.pn ++ zd)
 have ok' : X'.Ok := by
  refine ⟨I.ok.mod, n.kind, I.ok.glob, I.ok.blt, Nat.le_of_eq hCe, fun x y c h1 h2 => I.ok.inj x y c (n.sub x c h1) (n.sub y c h2), fun x hx => n.has x hx, fun x c z => ?_, I.ok.hd, I.ok.frames, .inl rfl, fun b hb => ⟨?_, fun x c e z => ?_⟩, fun b o e => ?_, ?_, fun b o e hb => ?_, fun b hb z => ?_, I3.stack, I3.stkFree⟩
  ·exact absurd z Bool.false_ne_true
  ·exact Nat.ne_of_lt (Nat.lt_of_lt_of_le (fpC b hb) (show @LE.le Nat _ s₂.heap.objs.size C by omega))
  ·subst z; exact (hcl x c e).2.1 hb
  ·exact I3.bs b o e
  ·exact Nat.le_trans I.ok.bsz I3.sz
  ·rcases (f2 b hb).2.2.2.1 with z | z
   ·exact I.ok.noex b o e z
   ·exact absurd (Heap.lt_size (I.ok.bs b o e).1) (Nat.not_lt_of_le z)
  ·rcases List.mem_cons.mp (I3.stkSub b z) with z | z
   ·exact (f2 b hb).2.1 z
   ·exact (f2 b hb).2.2.1 z
 have lenσ : σ.length = X.N.length := I.len
 have I4 : Inv X' [] (σ ++ List.replicate m none) (upd H2 Da (.lst [])) { s₂ with heap := h₁, toks := s₂.toks + ([] : List (Str × Value)).length } := by
  refine ⟨ok', rfl, I2.bare, Un.kept up, ⟨_, hns₁, fun i x v e1 e2 e3 => ?_⟩, fun x c e => ?_, ?_, fun x c e => (hcl x c e).2.2, fun p hp => ?_, I3.hok.kept up, ?_⟩
  ·have hi : i < σ.length := by
    by_cases hh : i < σ.length
    ·exact hh
    ·rw [List.getElem?_append_right (by omega), List.getElem?_replicate] at e2
     split at e2 <;> cases e2
   rw [List.getElem?_append_left hi] at e2
   obtain ⟨n1, n2, ⟨c, n3⟩, n4⟩ := n.old i x e1 (by omega) e3
   obtain ⟨mm, hnm, hl⟩ := I3.loc
   obtain ⟨u, r, l⟩ := hl i x v n1 e2 (.inr n2)
   refine ⟨u, r, .inr ⟨n4, c, n3, ?_⟩⟩
   have n3' := n.sub x c n3
   rcases l with ⟨k1, k2⟩ | ⟨k1, c', k2, k3⟩
   ·exfalso
    have k1' : X.env.scope.names.lookup x = some .local := k1
    rcases n2 with n2 | n2
    ·rw [n2] at k1'; cases k1'
    ·rw [n2] at k1'; cases k1'
   ·rw [n3'] at k2
    cases k2
    exact k3.keeps up
  ·obtain ⟨v, hv⟩ := I3.cell x c (n.sub x c e)
   exact ⟨v, hv.keeps up⟩
  ·show upd H2 Da (.lst []) C = none
   exact I3.hok.fresh (by show hp3.objs.size ≤ C; omega)
  ·have hp' : p ∈ X.pn ++ zd := by
    have hp2 : p ∈ (X.pn ++ zd) ++ [] := hp
    rwa [List.append_nil] at hp2
   obtain ⟨z1, z2, z3, z4, z5⟩ := I3.pin p hp'
   refine ⟨up _ _ z1, z2, ?_, fun z => ?_, z5⟩
   ·exact Nat.ne_of_lt (show @LT.lt Nat _ p.1 C by rw [← hCn]; exact Heap.lt_size z1)
   ·rcases List.mem_cons.mp (I3.stkSub p.1 z) with z | z
    ·exact z3 z
    ·exact z4 z
  ·rw [List.length_append, List.length_replicate, lenσ]
   exact hm.symm
 obtain ⟨hgc, hct, hel⟩ := hin C { s₂ with heap := hp3 } (upd H2 Da (.lst [])) fp (X.pn ++ zd)
 have hS4 : HasS X.K G2 (σ ++ List.replicate m none) (δ ++ List.replicate m none) := by
  refine ⟨by rw [List.length_append, List.length_append, List.length_replicate, List.length_replicate, h0.len], fun i d e => ?_⟩
  by_cases hh : i < δ.length
  ·rw [List.getElem?_append_left hh] at e
   obtain ⟨v, e1, r⟩ := h0.get i d e
   exact ⟨v, by rw [List.getElem?_append_left (by rw [h0.len]; exact hh)]; exact e1, r⟩
  ·rw [List.getElem?_append_right (by omega), List.getElem?_replicate] at e
   split at e <;> cases e
 generalize hδ : δ ++ List.replicate m none = δ' at hS4 o
 have stn : tn 0 h₁ := T.keep 0 _ _ st2 fun b hb o e => up b o (gi b o e)
 have fpn : ∀ b ∈ fp, (upd H2 Da (.lst [])) b = none := fun b hb => by
  rw [a_8 (Nat.ne_of_lt (show @LT.lt Nat _ b Da by rw [← hDn]; exact fpC b hb))]
  exact (f2 b hb).1
 have cf : ∀ {pl : List (Addr × Obj)} {H' : Hp}, pl = [] → (∀ b ∈ fp, H' b = none) → ∀ b ∈ fp, FpOk X' pl H' b := fun {pl H'} hpl hn b hb => by
  subst hpl
  refine ⟨hn b hb, ?_, fun z => ?_, .inl hb, fun x c e z => ?_, fun p hp z => ?_⟩
  ·exact Nat.ne_of_lt (Nat.lt_of_lt_of_le (fpC b hb) (show @LE.le Nat _ s₂.heap.objs.size C by omega))
  ·rcases List.mem_cons.mp (I3.stkSub b z) with z | z
   ·exact (f2 b hb).2.1 z
   ·exact (f2 b hb).2.2.1 z
  ·subst z; exact (hcl x c e).2.1 hb
  ·have hp' : p ∈ X.pn ++ zd := by
    have hp2 : p ∈ (X.pn ++ zd) ++ [] := hp
    rwa [List.append_nil] at hp2
   exact (f2 b hb).2.2.2.2.2 p hp' z
 have loop : ∀ s4 : Shared, Inv X' [] (σ ++ List.replicate m none) (upd H2 Da (.lst [])) s4 → tn 0 s4.heap → codeAny (model X.prog X.w) X.A (.compLoop (.ListComp elt [⟨tg, iter, ifs, 0⟩] scope pos) 0 (.ref it) (.ref Da) (compEnvC scope cl C X.env)) (RR (.ref Da) C) s4 := by
  intro s4 I4 tn4
  refine br_5 (fun k s' => ∃ i σ' H' G' vs rs, k = ds.length - i ∧ i ≤ ds.length ∧ Inv X' [] σ' H' s' ∧ tn i s'.heap ∧ (∀ b ∈ fp, H' b = none) ∧ HasS X.K G' σ' δ' ∧ Step G2 H2 G' H' ∧ Same G2 G' ∧ H' Da = some (.lst vs) ∧ G' Da = none ∧
   HasL X.K G' vs rs ∧ rs.length ≤ i ∧ (match j_2 fg p f δ' (ds.drop i) with | .ok rs2 => c_6 m fi fg p f δ = .ok (.ow (.lst (rs ++ rs2))) | .ex x => False | .no => False)) ?_ ds.length
   ⟨0, _, _, G2, [], [], by simp, Nat.zero_le _, I4, tn4, fpn, hS4, Step.own sg2 hfD _, Same.refl _, b_1, sg2.free hfD, .nil, Nat.zero_le _, by simpa using o⟩
  rintro k s' ⟨i, σ', H', G', vs, rs, rfl, hi, I', tni, fn', hS, st, sg, hD, gD, rl, hl, o'⟩
  obtain ⟨i1, i2⟩ := itd G' H' sg st.gh i
  by_cases hlt : i < ds.length
  ·obtain ⟨d, e1, e2⟩ := w_9 hlt
   obtain ⟨go, yl⟩ := i1 d e1
   refine thn (T.item X' rfl rfl rfl hc i [] s' σ' H' _ I' (cf rfl fn') tni go) fun r s1 ⟨u, hr, h1⟩ => ?_
   subst hr
   refine thn h1 fun _ s5 ⟨x, H5, I5, r5, y5, st5, fr5⟩ => ?_
   obtain ⟨G5, aq, hx5⟩ := yl x H5 y5
   have I5' := I5.pinned (cf rfl fr5) (T.obj _ _ st5)
   rw [e2] at o'
   have o1 : match ((fg d δ').bind fun δ1 => (p δ1).bind fun b => if b = true then (f δ1).bind fun w => (j_2 fg p f δ' (ds.drop (i + 1))).bind fun rs => .ok (w.d :: rs) else j_2 fg p f δ' (ds.drop (i + 1))) with | .ok rs2 => c_6 m fi fg p f δ = .ok (.ow (.lst (rs ++ rs2))) | .ex x => False | .no => False := o'
   have hS5 : HasS X.K G5 σ' δ' := hS.mono aq.gg
   refine wpAny_mono (hgc _ s5 σ' H5 x u (fun σ6 H6 => ∃ δ1, fg d δ' = .ok δ1 ∧ H6 = H5 ∧ HasS X.K G5 σ6 δ1 ∧ HasS X.K G5 σ6 δ') I5' r5 ⟨G5, δ', d, aq.gh, hS5, hx5, ?_⟩) (fun _ s6 ⟨σ6, H6, I6, δ1, e6, eH, hS6, hS6'⟩ => ?_) fun _ _ z => False.elim z
   ·cases e6 : fg d δ' with
    | ok δ1 => exact fun σ6 h6 h6' => ⟨δ1, rfl, rfl, h6, h6'⟩
    | ex x => rw [e6] at o1; exact o1
    | no => rw [e6] at o1; exact o1
   subst eH
   rw [e6] at o1
   simp only [R.bind_ok] at o1
   refine wpAny_mono (hct _ s6 σ6 H6 (fun b H7 => ∃ G7, p δ1 = .ok b ∧ Step G5 H6 G7 H7) I6 ⟨G5, δ1, aq.gh, hS6, ?_⟩) (fun b s7 ⟨H7, I7, G7, e7, stp7⟩ => ?_) fun _ _ z => False.elim z
   ·cases e7 : p δ1 with
    | ok b => exact fun G7 H7 st7 => ⟨G7, rfl, st7⟩
    | ex x => rw [e7] at o1; exact o1
    | no => rw [e7] at o1; exact o1
   rw [e7] at o1
   simp only [R.bind_ok] at o1
   
   have gD7 : G7 Da = none := (aq.trans stp7).nw Da gD (by rw [hD]; simp)
   have hD7 : H7 Da = some (.lst vs) := (aq.trans stp7).hh _ _ hD
   have bf : ∀ {σ9 : Sg} {H9 : Hp} {s9 : Shared}, Inv X' ([] ++ an_5 fp s5.heap) σ9 H9 s9 → tn (i + 1) s9.heap ∧ ∀ b ∈ fp, H9 b = none := fun {σ9 H9 s9} I9 =>
    ⟨T.keep _ _ _ st5 fun b hb o e => (I9.pin (b, o) (List.mem_append_right _ (List.mem_append_right _ (v_1 hb e)))).1, fun b hb => by
     obtain ⟨o, e, d⟩ := T.obj _ _ st5 b hb
     exact (I9.pin (b, o) (List.mem_append_right _ (List.mem_append_right _ (v_1 hb e)))).2.1⟩
   have hSk : ∀ {G9 : Hp}, Same G7 G9 → HasS X.K G9 σ6 δ' := fun {G9} sm => hS6'.mono (stp7.gg.trans sm)
   cases b with
   | false =>
    rw [if_neg Bool.false_ne_true] at o1 ⊢
    exact ⟨ds.length - (i + 1), by omega, i + 1, σ6, H7, G7, vs, rs, rfl, hlt, I7.unpinned, (bf I7).1, (bf I7).2, hSk (Same.refl _), st.trans (aq.trans stp7), sg.trans (aq.gg.trans stp7.gg), hD7, gD7, rl.mono (aq.gg.trans stp7.gg), by omega, o1⟩
   | true =>
    rw [if_pos rfl] at o1 ⊢
    refine wpAny_mono (hel _ s7 σ6 H7 (fun v H8 => ∃ w G8, f δ1 = .ok w ∧ Step G7 H7 G8 H8 ∧ Has X.K G8 v w.d) I7 ⟨G7, δ1, stp7.gh, hS6.mono stp7.gg, ?_⟩) (fun u8 s8 ⟨v8, H8, I8, r8, w8, G8, e8, stp8, hv8⟩ => ?_) fun _ _ z => False.elim z
    ·cases e8 : f δ1 with
     | ok w => exact WP.intro fun v G8 H8 st8 r8 => ⟨w, G8, rfl, st8, r8⟩
     | ex x => rw [e8] at o1; exact o1
     | no => rw [e8] at o1; exact o1
    rw [e8] at o1
    simp only [R.bind_ok] at o1
    have gD8 : G8 Da = none := stp8.nw Da gD7 (by rw [hD7]; simp)
    have hD8 : H8 Da = some (.lst vs) := stp8.hh _ _ hD7
    have rl8 : HasL X.K G8 vs rs := rl.mono (aq.gg.trans (stp7.gg.trans stp8.gg))
    refine wpAny_mono (av_4 (X := X') _ s8 σ6 H8 (.ref Da) [v8] (.ref Da) [u8] (fun _ H9 => H9 = upd H8 Da (.lst (vs ++ [v8]))) I8 rfl (.cons r8 .nil) ⟨Da, vs, v8, rfl, rfl, hD8, by rw [rl.length, sizeLine_eq]; omega, rfl⟩) (fun _ s9 ⟨_, H9, I9, _, e9⟩ => ?_) fun _ _ z => False.elim z
    subst e9
    have stA := st.trans (aq.trans (stp7.trans stp8))
    refine ⟨ds.length - (i + 1), by omega, i + 1, σ6, _, G8, vs ++ [v8], rs ++ [w8.d], rfl, hlt, I9.unpinned, (bf I9).1, (bf I9).2, hSk stp8.gg, ⟨fun b o z => ?_, fun b o z => ?_, stA.gg, stA.nw⟩, sg.trans (aq.gg.trans (stp7.gg.trans stp8.gg)), b_1, gD8, rl8.append (.cons hv8 .nil), by rw [List.length_append, List.length_singleton]; omega, ?_⟩
    ·rw [a_8 (b_9 z hfD)]; exact stA.hh b o z
    ·rw [a_8 (b_9 z gD8)]; exact stp8.gh b o z
    ·cases e10 : j_2 fg p f δ' (ds.drop (i + 1)) with
     | ok rs2 =>
      rw [e10] at o1
      simp only [R.bind_ok] at o1 ⊢
      rw [List.append_assoc]
      exact o1
     | ex x => rw [e10] at o1; exact o1
     | no => rw [e10] at o1; exact o1
  ·have e : ds.length = i := by omega
   refine thn (T.done X' rfl rfl rfl hc i [] s' σ' H' _ I' (cf rfl fn') tni (i2 e)) fun r s1 ⟨hr, I1⟩ => ?_
   subst hr
   rw [List.drop_eq_nil_of_le (by omega)] at o'
   have o1 : c_6 m fi fg p f δ = .ok (.ow (.lst (rs ++ []))) := o'
   rw [List.append_nil] at o1
   obtain ⟨mm, hnm, _⟩ := I1.loc
   have fb : Inv X zd σ H' s1 := I3.call' (s' := s1) (ch := fp) I1.os I1.base I1.hok I1.bare fun b hb => by
    obtain ⟨f0, f1', f2', f3, f4, f5⟩ := f2 b hb
    exact ⟨f3, f1', f4, f5⟩
   exact hRR Da C s1 G2 H2 G' H' vs rs o1 fb ⟨mm, hnm⟩ (I3.fpOk (by show hp3.objs.size ≤ C; omega) I1.free) hz2 st hfD hD gD rl
 exact codeAny_compStart_list (loop _ I4 stn) (T.self X.A 0 _ _ _ stn (loop _ I4 stn))
theorem ao_9 {elt iter tg : Expr} {ifs : List Expr} {scope : Scope} {N' : List Str} {fi : FI} {fg : FGc} {p : FT} {f : FE} {m : Nat} (hx0 : ∀ e s, ¬ X.xe e s) (hc : X.calm = true) (hi : ID X m_9 tg iter fi) (hk : scope.kind = .function) (hb : ai_7 scope.names X.env.scope.names X.N N' = true)
  (hm : N'.length = X.N.length + m)
  (hin : ∀ C s0 H0 fp pn, GC (g_5 X scope (m_0 X.env.cells scope.names []) N' C s0 H0 fp pn) m_9 tg fg ∧ CTs (g_5 X scope (m_0 X.env.cells scope.names []) N' C s0 H0 fp pn) m_9 ifs p ∧ ED (g_5 X scope (m_0 X.env.cells scope.names []) N' C s0 H0 fp pn) m_9 elt f)
  {zd : List (Addr × Obj)} {s : Shared} {σ : Sg} {G H : Hp} {δ : DE} (I : Inv X zd σ H s) (g0 : Same G H) (h0 : HasS X.K G σ δ) {RR : Value → Addr → Result → Shared → Prop}
  (o : match c_6 m fi fg p f δ with | .ok _ => True | .ex x => False | .no => False)
  (hRR : ∀ (Da C : Addr) (s1 : Shared) (G' H' : Hp) (vs : List V) (rs : List D), c_6 m fi fg p f δ = .ok (.ow (.lst rs)) → Inv X zd σ H' s1 → (∃ m, s1.heap.Ns C m) → FpOk X zd H' C → Step G H G' H' → H Da = none → H' Da = some (.lst vs) → G' Da = none → HasL X.K G' vs rs → RR (.ref Da) C (.ok .next) s1) :
  wpAny (model X.prog X.w) X.A (eval iter X.env) (fun x s₁ => wpAny (model X.prog X.w) X.A (pyIter x) (fun it s₂ => wpAny (model X.prog X.w) X.A (newList []) (fun zp s₃ =>
   wpAny (model X.prog X.w) X.A (newFunctionEnv scope X.env.globals (m_0 X.env.cells scope.names []) [] X.env.qual none .none (some X.env)) (fun cenv s₄ =>
    codeAny (model X.prog X.w) X.A (.compStart (.ListComp elt [⟨tg, iter, ifs, 0⟩] scope pos) 0 it zp { cenv with scope := relabel scope X.env }) (RR zp cenv.locals) s₄) X.xe s₃) X.xe s₂) X.xe s₁) X.xe s := by
 refine cc_8 hx0 hc hk hb hm hin I (Z := fun G2 H2 => Step G H G2 H2) (fun G2 H2 z => ⟨z.gh, h0.mono z.gg⟩) ?_ o fun Da C s1 G2 H2 G' H' vs rs e Io hm' fc z st h1 h2 h3 rl => hRR Da C s1 G' H' vs rs e Io hm' fc (z.trans st) (z.hh.free h1) h2 h3 rl
 refine wpAny_mono (hi zd s σ H (fun J H2 => ∃ ds G2, fi δ = .ok ds ∧ Step G H G2 H2 ∧ ItD X.K G2 J ds) I ⟨G, δ, g0, h0, ?_⟩) (fun xv s₁ h₁ => wpAny_mono h₁ (fun itv s₂ h₂ => ?_) fun _ _ e => (hx0 _ _ e).elim) fun _ _ e => (hx0 _ _ e).elim
 ·unfold c_6 at o
  cases e : fi δ with
  | ok ds => exact fun J G2 H2 st it => ⟨ds, G2, rfl, st, it⟩
  | ex x => rw [e] at o; exact o
  | no => rw [e] at o; exact o
 ·obtain ⟨it, fp, tn, J, H2, rfl, I2, T, st2, f2, ds, G2, e2, stp, itd⟩ := h₂
  exact ⟨it, fp, tn, J, H2, ds, G2, rfl, I2, T, st2, f2, e2, stp, itd⟩
theorem ck_4 {elt iter tg : Expr} {ifs : List Expr} {scope : Scope} {N' : List Str} {fi : FI} {fg : FGc} {p : FT} {f : FE} {m : Nat} (hx0 : ∀ e s, ¬ X.xe e s) (hc : X.calm = true) (hi : ID X m_9 tg iter fi) (hk : scope.kind = .function) (hb : ai_7 scope.names X.env.scope.names X.N N' = true)
  (hm : N'.length = X.N.length + m)
  (hin : ∀ C s0 H0 fp pn, GC (g_5 X scope (m_0 X.env.cells scope.names []) N' C s0 H0 fp pn) m_9 tg fg ∧ CTs (g_5 X scope (m_0 X.env.cells scope.names []) N' C s0 H0 fp pn) m_9 ifs p ∧ ED (g_5 X scope (m_0 X.env.cells scope.names []) N' C s0 H0 fp pn) m_9 elt f)
  (hs : ∀ x, foldedSetIterable iter X.env x = pure x := by intro _; rfl) : ED X m_9 (.ListComp elt [⟨tg, iter, ifs, 0⟩] scope pos) (c_6 m fi fg p f) := by
 intro zd s σ H Q I q
 obtain ⟨G, δ, g0, h0, o⟩ := q
 rw [eval_ListComp]
 have n := ao_8 I.ok hk hb
 refine wpAny_comprehension_free (use := none) rfl hs n.clos n.kind n.names (ao_9 (RR := fun zp C => compPost (model X.prog X.w) X.A X.xe none (EP X zd σ Q) zp C) hx0 hc hi hk hb hm hin I g0 h0 ?_ fun Da C s1 G' H' vs rs e Io hm' fc st h1 h2 h3 rl => ?_)
 ·cases e : c_6 m fi fg p f δ with
  | ok w => trivial
  | ex x => rw [e] at o; exact o
  | no => rw [e] at o; exact o
 ·rw [e] at o
  obtain ⟨mm, hnm⟩ := hm'
  obtain ⟨c0, c1, c2, c3, c4, c5⟩ := fc
  exact ⟨mm, hnm, fun h' sb => ⟨.ref Da, H', Io.turned (t' := s1.toks) (fun b ob hb e => (sb.2 b hb).trans e) c0 c1 c3 c4 c5, rfl, o (.ref Da) (fun b => b = Da) G' H' st (fun a e => by subst e; exact ⟨h1, h3, by rw [h2]; simp⟩) (.list h2 rfl rl)⟩⟩
theorem o_6 {elt iter tg : Expr} {ifs : List Expr} {scope : Scope} {N' : List Str} {fi : FI} {fg : FGc} {p : FT} {f : FE} {m : Nat} (hc : X.calm = true) (hi : ID X.nox m_9 tg iter fi) (hk : scope.kind = .function) (hb : ai_7 scope.names X.env.scope.names X.N N' = true)
  (hm : N'.length = X.N.length + m)
  (hin : ∀ C s0 H0 fp pn, GC (g_5 X scope (m_0 X.env.cells scope.names []) N' C s0 H0 fp pn) m_9 tg fg ∧ CTs (g_5 X scope (m_0 X.env.cells scope.names []) N' C s0 H0 fp pn) m_9 ifs p ∧ ED (g_5 X scope (m_0 X.env.cells scope.names []) N' C s0 H0 fp pn) m_9 elt f)
  (hs : ∀ x, foldedSetIterable iter X.env x = pure x := by intro _; rfl) : ED X EX (.ListComp elt [⟨tg, iter, ifs, 0⟩] scope pos) (c_6 m fi fg p f) :=
 PE.imp (PE.nox (ck_4 (X := X.nox) (fun _ _ z => z) hc hi hk hb hm hin hs)) fun σ H Q ⟨G, δ, g0, h0, o⟩ => by
  refine ⟨G, δ, g0, h0, ?_⟩
  cases e : c_6 m fi fg p f δ with
  | ok w => rw [e] at o; exact o
  | ex x => exact (bi_2 e).elim
  | no => rw [e] at o; exact o
theorem PS.nox {st : Stmt} {t : TS} (h : PS X.nox st t) : PS X st t := fun zd s σ H D I hw =>
 wpAny_mono (h zd s σ H D (I.wish _) hw) (fun _ _ q => q.unwish) fun _ _ z => False.elim z
theorem cu_1 {i : Nat} {js : List Nat} {f : FE} (h : ∀ δ x, f δ ≠ .ex x) {Δ Δ' : SE} {x : Xn} (e : sSet i js f Δ = .ex x Δ') : False := by
 unfold sSet at e
 have hp : ∀ Δ2, sPut i Δ2 (f (vsh Δ2)) = .ex x Δ' → False := fun Δ2 e2 => by
  unfold sPut at e2
  cases q : f (vsh Δ2) with
  | ok w => rw [q] at e2; cases w <;> cases e2
  | ex y => exact h _ _ q
  | no => rw [q] at e2; cases e2
 cases q : f (vsh Δ) with
 | ok w => rw [q] at e; cases w <;> cases e
 | ex y => exact h _ _ q
 | no =>
  rw [q] at e
  cases q2 : f (vall Δ) with
  | ok w =>
   simp only [q2] at e
   split at e
   ·cases e
   ·exact hp _ e
  | ex y => exact h _ _ q2
  | no => simp only [q2] at e; cases e
theorem ck_5 (js : List Nat) {elt iter tg : Expr} {ifs : List Expr} {scope : Scope} {N' : List Str} {fi : FI} {fg : FGc} {p : FT} {f : FE} {m i : Nat} {y : Str} {py bc : Pos} (hx0 : ∀ e s, ¬ X.xe e s) (hc : X.calm = true) (hi : ID X m_9 tg iter fi) (hk : scope.kind = .function) (hb : ai_7 scope.names X.env.scope.names X.N N' = true)
  (hm : N'.length = X.N.length + m)
  (hin : ∀ C s0 H0 fp pn, GC (g_5 X scope (m_0 X.env.cells scope.names []) N' C s0 H0 fp pn) m_9 tg fg ∧ CTs (g_5 X scope (m_0 X.env.cells scope.names []) N' C s0 H0 fp pn) m_9 ifs p ∧ ED (g_5 X scope (m_0 X.env.cells scope.names []) N' C s0 H0 fp pn) m_9 elt f)
  (hN : X.N.Nodup) (hy : X.N[i]? = some y := by rfl) (hx : Loc X.env.scope y := by first | exact Or.inl rfl | exact Or.inr rfl) (hf : X.fn y = true ∨ X.env.scope.names.lookup y = some .local := by first | exact .inl rfl | exact .inr rfl | assumption)
  (hsw : swapsWith (.ListComp elt [⟨tg, iter, ifs, 0⟩] scope pos) (some (.Name y py)) bc.line X.env = pure true := by rfl)
  (hs : ∀ x, foldedSetIterable iter X.env x = pure x := by intro _; rfl) : SD X m_9 (.Assign [.Name y py] (.ListComp elt [⟨tg, iter, ifs, 0⟩] scope pos) bc) (sSet i js (c_6 m fi fg p f)) := by
 intro zd s σ H D I q
 have q2 := bi_1 q
 obtain ⟨G, δ, g0, h0, o⟩ := q2
 have n := ao_8 I.ok hk hb
 rw [exec_Assign_Name_used _ _ _ _ hsw]
 refine wpAny_bind (wpAny_standAt (wpAny_bind ?_))
 show wpAny _ X.A (do let _ ← comprehension (.ListComp elt [⟨tg, iter, ifs, 0⟩] scope pos) scope X.env _ (newList []) false (eval iter X.env) (some (assign (.Name y py) X.env))) _ _ s
 refine wpAny_bind (wpAny_mono (wpAny_comprehension_free (use := some (assign (.Name y py) X.env)) (Q := fun _ s' => SP X zd D .next s') rfl hs n.clos n.kind n.names
  (ao_9 (RR := fun zp C => compPost (model X.prog X.w) X.A X.xe (some (assign (.Name y py) X.env)) (fun _ s' => SP X zd D .next s') zp C) hx0 hc hi hk hb hm hin I g0 h0 ?_ fun Da C s1 G' H' vs rs e Io hm' fc st h1 h2 h3 rl => ?_)) (fun _ s' hq => wpAny_pure (wpAny_pure hq)) fun _ _ e => e)
 ·cases e : c_6 m fi fg p f δ with
  | ok w => trivial
  | ex x => rw [e] at o; exact o
  | no => rw [e] at o; exact o
 ·rw [e] at o
  obtain ⟨mm, hnm⟩ := hm'
  obtain ⟨c0, c1, c2, c3, c4, c5⟩ := fc
  show wpAny _ X.A (assign (.Name y py) X.env (.ref Da)) _ _ _
  refine wpAny_assign_Name (au_6 Io hN hy hx (v := .ref Da) rfl (fun s2 I2 ⟨a, sb, ha⟩ => ?_) hf)
  have hCa : C ≠ a := by
   rcases ha with rfl | ha
   ·exact c1
   ·exact fun z => c4 y a ha z.symm
  refine ⟨mm, hnm.sameBut sb hCa, fun h' sb' => ⟨_, H', I2.turned (t' := s2.toks) (fun b ob hb e => (sb'.2 b hb).trans e) c0 c1 c3 c4 c5, ?_⟩⟩
  exact o (.ref Da) (fun b => b = Da) G' H' st (fun a e => by subst e; exact ⟨h1, h3, by rw [h2]; simp⟩) (.list h2 rfl rl)
theorem bw_5 (js : List Nat) {elt iter tg : Expr} {ifs : List Expr} {scope : Scope} {N' : List Str} {fi : FI} {fg : FGc} {p : FT} {f : FE} {m i : Nat} {y : Str} {py bc : Pos} (hc : X.calm = true) (hi : ID X.nox m_9 tg iter fi) (hk : scope.kind = .function) (hb : ai_7 scope.names X.env.scope.names X.N N' = true)
  (hm : N'.length = X.N.length + m)
  (hin : ∀ C s0 H0 fp pn, GC (g_5 X scope (m_0 X.env.cells scope.names []) N' C s0 H0 fp pn) m_9 tg fg ∧ CTs (g_5 X scope (m_0 X.env.cells scope.names []) N' C s0 H0 fp pn) m_9 ifs p ∧ ED (g_5 X scope (m_0 X.env.cells scope.names []) N' C s0 H0 fp pn) m_9 elt f)
  (hN : X.N.Nodup) (hy : X.N[i]? = some y := by rfl) (hx : Loc X.env.scope y := by first | exact Or.inl rfl | exact Or.inr rfl) (hf : X.fn y = true ∨ X.env.scope.names.lookup y = some .local := by first | exact .inl rfl | exact .inr rfl | assumption)
  (hsw : swapsWith (.ListComp elt [⟨tg, iter, ifs, 0⟩] scope pos) (some (.Name y py)) bc.line X.env = pure true := by rfl)
  (hs : ∀ x, foldedSetIterable iter X.env x = pure x := by intro _; rfl) : SD X EX (.Assign [.Name y py] (.ListComp elt [⟨tg, iter, ifs, 0⟩] scope pos) bc) (sSet i js (c_6 m fi fg p f)) :=
 PS.imp (PS.nox (ck_5 (X := X.nox) js (fun _ _ z => z) hc hi hk hb hm hin hN hy hx hf hsw hs)) fun D σ H ⟨H0, G0, G, Δ, O, E, q⟩ => by
  refine ⟨H0, G0, G, Δ, O, E, ?_⟩
  cases e : sSet i js (c_6 m fi fg p f) Δ with
  | ex x Δ' => exact (cu_1 (fun _ _ z => bi_2 z) e).elim
  | _ => rw [e] at q; exact q
end
theorem ag_3 : bootBuiltins "bool" = some (.type "bool") := by decide +kernel
theorem i_7 {k : Nat} {scope : Scope} {cl : List (Str × Addr)} {N' : List Str} {C : Addr} {s0 : Shared} {H0 : Hp} {fp : List Addr} {pn : List (Addr × Obj)} {c : Bool} (h : RoomC c k (Cx.A X)) : RoomC c k (Cx.A (g_5 X scope cl N' C s0 H0 fp pn)) := h
theorem cc_9 {scope : Scope} {cl : List (Str × Addr)} {N' : List Str} {C : Addr} {s0 : Shared} {H0 : Hp} {fp : List Addr} {pn : List (Addr × Obj)} (h : Cx.calm X = true) : Cx.calm (g_5 X scope cl N' C s0 H0 fp pn) = true := h
section
variable {X : Cx} {EX : EXS} {a b e : Expr} {es : List Expr} {f g : FE} {fa : FA} {pos p2 : Pos}
abbrev FO := DE → R (Option Int)
def oNone : FO := fun _ => .ok none
def intPart : D → R (Option Int)
 | .int i => .ok (some i)
 | _ => .no
def oSome (f : FE) : FO := fun δ => (f δ).bind fun w => intPart w.d
def cutL {α : Type} (xs : List α) (lo hi : Option Int) : List α := (xs.drop (HT.sIx xs.length 0 lo)).take (HT.sIx xs.length xs.length hi - HT.sIx xs.length 0 lo)
def de_9 : D → Option Int → Option Int → R W
 | .lst ds, lo, hi => .ok (.ow (.lst (cutL ds lo hi)))
 | .str x, lo, hi => if x.length ≤ 16777216 then .ok (.sh (.str (Txt.slice x lo hi))) else .no
 | _, _, _ => .no
def eSlice (f : FE) (lo hi : FO) : FE := fun δ => (f δ).bind fun w => (lo δ).bind fun l => (hi δ).bind fun u => de_9 w.d l u
def tyD (T : String) : D → Bool
 | .str _ => T == "str"
 | .int _ => T == "int"
 | .lst _ => T == "list"
 | _ => false
theorem dk_6 {G H : Hp} {T : String} {d : D} (g : Same G H) (r : Has K G v d) (h : tyD T d = true) : tyV K T v H := by
 cases r with
 | str x => exact eq_of_beq h
 | int i => exact eq_of_beq h
 | lst hq r => exact .inl ⟨eq_of_beq h, _, g.seq hq⟩
 | _ => cases h
def rDm (K : Frag) (fn : D → List D → R W) : V → List V → Hp → VK → Prop := fun x vs H Q => ∃ (EX : EXT) (G : Hp) (d : D) (ds : List D), Same G H ∧ Has K G x d ∧ HasL K G vs ds ∧ Out K EX G H (fn d ds) Q
abbrev MtD (X : Cx) (id : String) (fn : D → List D → R W) : Prop := MtR X id (rDm X.K fn)
def eMeth (T : String) (fn : D → List D → R W) (f : FE) (fa : FA) : FE := fun δ => (f δ).bind fun w => if tyD T w.d = true then (fa δ).bind fun ds => fn w.d ds else .no
variable {o : Expr} {name : Str} {zh zf : Pos} {T id : String} {fn : D → List D → R W}
theorem bw_6 (pa : PlainAttrs T) (slot : Slot T name id) (hty : typeOf (.builtin id) = pure (.type "method_descriptor")) (hm : MtD X id fn) (ho : ED X EX o f) (ha : AD X EX (e :: es) fa)
  (ae : attributeBase o name X.env (eval o X.env) = eval o X.env := by rfl)
  (au : ((backTo zf (starEach (e :: es) X.env)).all (fun x => !x.1) && (backToKw zf (keywordEach [] X.env)).all (fun x => x.1.isSome)
   && decide ((e :: es).length + ([] : List Keyword).length + (if ([] : List Keyword).isEmpty then 0 else 1) < 30)) = true := by rfl)
  (af : (zh.endLine == zf.line) = true := by rfl) (hs : starEach (e :: es) X.env = (false, eval e X.env) :: starEach es X.env := by rfl) (aa : (backTo zf (starEach es X.env)).any (·.1) = false := by rfl) :
  ED X EX (.Call (.Attribute o name zh) (e :: es) [] zf) (eMeth T fn f fa) :=
 PE.imp (ci_2 pa slot hty hm ho ha ae au af hs aa) fun σ H Q ⟨G, δ, g0, s0, o⟩ => tD.seq g0 s0 o fun w v G1 H1 _ st1 r1 o1 => by
  split at o1
  ·rename_i ht
   exact ⟨dk_6 st1.gh r1 ht, tDa.seq st1.gh (s0.mono st1.gg) o1 fun ds vs G2 H2 _ st2 r2 o2 => ⟨_, G2, w.d, ds, st2.gh, r1.mono st2.gg, r2, o2⟩⟩
  ·exact o1.elim
def eMeth0 (T : String) (fn : D → List D → R W) (f : FE) : FE := fun δ => (f δ).bind fun w => if tyD T w.d = true then fn w.d [] else .no
theorem bw_7 {G : Hp} {d : D} {ds : List D} (r : Has K G v d) (rl : HasL K G vs ds) {P : Prop} (h : ∀ x y, v = .str x → d = .str x → vs = [.str y] → ds = [.str y] → P) (n : (∀ x y, ¬ (d = .str x ∧ ds = [.str y])) → P) : P := by
 by_cases e : ∃ x y, d = .str x ∧ ds = [.str y]
 ·obtain ⟨x, y, rfl, rfl⟩ := e
  cases r
  cases rl with
  | cons a t => cases a; cases t; exact h x y rfl rfl rfl rfl
 ·exact n fun x y z => e ⟨x, y, z⟩
def bi_6 : D → List D → R W
 | .str x, [.str y] => .ok (.sh (.int (Txt.find x y)))
 | _, _ => .no
theorem ck_6 : MtD X "str.find" bi_6 := by
 intro zd s σ H x vs v us Q I rx rv h
 obtain ⟨EX, G, d, ds, g, r, rl, o⟩ := h
 refine bw_7 r rl (fun x y e1 e2 e3 e4 => ?_) fun n => ?_
 ·subst e1 e2 e3 e4
  obtain ⟨t, rfl⟩ := rx
  obtain ⟨u, rfl, t', rfl⟩ := rv.one
  exact SC.find ⟨.int _, H, I.tok _, ⟨_, rfl⟩, c_9 o g (.int _)⟩
 ·have e : bi_6 d ds = .no := by
   unfold bi_6
   split
   ·rename_i x y; exact absurd ⟨rfl, rfl⟩ (n x y)
   ·rfl
  rw [e] at o
  exact o.elim
def isT (T : String) : D → Option Bool
 | .non => some false
 | .bl _ => some (T == "bool" || T == "int")
 | .int _ => some (T == "int")
 | .str _ => some (T == "str")
 | .lst _ => some (T == "list")
 | .tup _ => some (T == "tuple")
 | _ => none
def eIs (T : String) (f : FE) : FE := fun δ => (f δ).bind fun w => match isT T w.d with
 | some k => .ok (.sh (.bl k))
 | none => .no
structure KitT (K : Frag) (T : String) : Prop where
 non : kitOne K (.type "NoneType") (.type T) = some false
 bl : kitOne K (.type "bool") (.type T) = some (T == "bool" || T == "int")
 int : kitOne K (.type "int") (.type T) = some (T == "int")
 str : kitOne K (.type "str") (.type T) = some (T == "str")
 lst : kitOne K (.type "list") (.type T) = some (T == "list")
 tup : kitOne K (.type "tuple") (.type T) = some (T == "tuple")
theorem ck_7 {T : String} (k : KitT X.K T) : t_7 X (.builtin "isinstance") (fun xs H Q => ∃ G x d b, xs = [x, .ty T] ∧ Same G H ∧ Has X.K G x d ∧ isT T d = some b ∧ Q (.bl b) H) := by
 intro zd s σ H xs us Q I rv h
 obtain ⟨G, x, d, b, rfl, g, r, e, q⟩ := h
 obtain ⟨u, u2, rfl, r1, r2⟩ := rv.two
 cases r2
 have fin : ∀ tk, EP X zd σ Q (.bool b) { s with toks := tk } := fun tk => ⟨.bl b, H, I.tok _, rfl, q⟩
 cases r with
 | non => cases r1; exact kia_one kitx_none I.kIn True.intro (k.non.trans e) (fun z => nomatch z) fin
 | bl y => cases r1; exact kia_one kitx_bool I.kIn True.intro (k.bl.trans e) (fun z => nomatch z) fin
 | int i => obtain ⟨t, rfl⟩ := r1; exact kia_one kitx_int I.kIn True.intro (k.int.trans e) (fun z => nomatch z) fin
 | str y => obtain ⟨t, rfl⟩ := r1; exact kia_one kitx_str I.kIn True.intro (k.str.trans e) (fun z => nomatch z) fin
 | lst h r =>
  cases r1
  obtain ⟨its, _, ⟨ob, n, e1, c, _, _⟩, _⟩ := I.list (g.seq h)
  exact kia_one kitx_list I.kIn ⟨ob, e1, c⟩ (k.lst.trans e) (fun z => nomatch z) fin
 | tup h r =>
  cases r1
  obtain ⟨its, _, ⟨ob, e1, c, _⟩, _⟩ := I.tuple (Same.tupS g h)
  exact kia_one kitx_tuple I.kIn ⟨ob, e1, c⟩ (k.tup.trans e) (fun z => nomatch z) fin
 | exn0 _ _ => cases e
 | exn1 _ _ _ _ _ => cases e
 | dic _ _ _ => cases e
 | obj _ _ _ _ => cases e
theorem r_2 {Tn : Str} {T : String} {pp p3 : Pos} (k : KitT X.K T) (ha : ED X EX a f) (hm : X.mg "isinstance" = none) (hmT : X.mg Tn = none) (hvT : bootBuiltins Tn = some (.type T)) (hg : Gl X "isinstance" := by rfl) (hgT : Gl X Tn := by rfl)
  (hn : Tn ≠ "__name__" := by decide) (hdT : (Tn == ("__debug__" : Str)) = false := by decide)
  (he : starEach [a, .Name Tn p3] X.env = (false, eval a X.env) :: starEach [.Name Tn p3] X.env := by rfl) (hpl : (backTo pos (starEach [.Name Tn p3] X.env)).any (·.1) = false := by rfl)
  (hs : starEach [.Name Tn p3] X.env = (false, eval (.Name Tn p3) X.env) :: starEach [] X.env := by rfl) : ED X EX (.Call (.Name "isinstance" pp) [a, .Name Tn p3] [] pos) (eIs T f) :=
 PE.imp (w_5 (ck_7 k) hg hm boot_isinstance (e_4 ha (e_4 (bv_0 (v := .ty T) hgT hmT hvT rfl hn hdT) n_9 hs) he) (by decide) (by decide) he hpl) fun σ H Q ⟨G, δ, g0, s0, o⟩ => tD.seq g0 s0 o fun w v G1 H1 _ st1 r1 o1 => by
  split at o1
  ·rename_i b e
   exact ⟨G1, v, w.d, b, rfl, st1.gh, r1, e, c_9 o1 st1.gh (.bl b)⟩
  ·exact o1.elim
end
def ap_0 (K : Frag) : Sp := fun vs H Q _ => ∃ (a : Addr) (ns : List Int), vs = [.ref a] ∧ SqL K H a (ns.map V.int) ∧ ns.length ≤ 63 ∧ ∀ H', Q (.bl true) H'
theorem bw_8 {G : Hp} : ∀ ns : List Int, HasL K G (ns.map V.int) (ns.map D.int)
 | [] => .nil
 | n :: ns => .cons (.int n) (bw_8 ns)
theorem df_0 {w : World} {k : Nat} {f : Addr} {x : Str} {F : List D → R W} (h : FnX P w K mg base true k f fd [x] (spX K 1 F))
  (hF : ∀ ns : List Int, ns.length ≤ 63 → ∃ v, F [.lst (ns.map D.int)] = .ok v ∧ v.d = .bl true) : FnOk P w K mg base CX0 k f fd [x] (ap_0 K) := by
 have hs : ∀ vs H Q E, ap_0 K vs H Q E → spX K 1 F vs H Q fun _ _ _ => False := fun vs H Q E q => by
  obtain ⟨a, ns, rfl, hS, hl, q⟩ := q
  obtain ⟨v, e, ev⟩ := hF ns hl
  refine ⟨rfl, H, [.lst (ns.map D.int)], Same.refl _, .cons (.lst hS (bw_8 ns)) .nil, ?_⟩
  rw [e]
  refine WP.intro fun u G' H' st r => ?_
  rw [ev] at r
  cases r
  exact q H'
 refine ⟨fun vs H Q E q => (hs vs H Q E q).1, fun A outer s H args us vs Q E hr e0 hb hv q => codeAny_mono (h.run A outer s H args us vs Q _ (RoomC.of hr) e0 hb hv (hs vs H Q E q)) fun r s' hq => ?_⟩
 cases r with
 | error e =>
  obtain ⟨a, C, dx, T, H', _, _, _, _, _, _, _, _, _, _, z⟩ := hq
  exact z
 | ok fl => cases fl <;> exact hq
theorem dk_7 {l : PySem.W.OpenLaw} {q : Program} {loose : List Str} {XP : (Str → Option Value) → Heap → Prop} {YP : World → Heap → Prop} {d : DefRec} {K : Params → Frag} {x : Str} {k : Nat} (hn : l.most = some 63) (hdf : d.params.defaults = []) (hr : Room k callerA)
  (hY : ∀ (w : World) (h : Heap), YP w h → (K w.params).In h)
  (F : ∀ (w : World) (mg : Str → Option Value) (fa : Addr) (h : Heap), (K w.params).In h → h.Ns mainGlobals mg → mg d.name = some (.ref fa) →
   ∃ fd : FuncData, (∀ (s : Shared) (u : Value), BindsTo s fd ⟨[u], []⟩ [(x, u)]) ∧ ∀ base : Heap, (K w.params).In base → base.Ns mainGlobals mg → FnOk l.prog w (K w.params) mg base CX0 k fa fd [x] (ap_0 (K w.params))) :
  PySem.W.WalkO q loose XP YP l.row.toRowW d [] (fun f vs => PySem.call f vs) :=
 cs_9 (n := 63) (k := k) (x := x) (CX := fun _ => CX0) (sp := fun w => ap_0 (K w.params)) hn (by decide) hdf hr hY F (fun _ _ a ns hl _ hS => ⟨a, ns, rfl, hS, hl, fun _ => rfl⟩) fun _ _ _ _ _ z => z
theorem Inv.pair {zd : List (Addr × Obj)} {σ : Sg} {s : Shared} {e it : Addr} {h' : Heap} {tk : Nat} {its : List Value} (I : Inv X zd σ H s) (fe : FpOk X zd H e) (fi : FpOk X zd H it)
  (k : ∀ b o, b ≠ e → b ≠ it → s.heap.get? b = some o → h'.get? b = some o) (he : ∃ o, h'.get? e = some o) (hi : ∃ o, h'.get? it = some o) (ht : h'.get? s.heap.objs.size = some { cls := .type "tuple", data := .seq its.toArray }) (rv : Vals vs its) (hz : vs.length ≤ sizeLine) :
  Inv X zd σ (upd H s.heap.objs.size (.tup vs)) { s with heap := h', toks := tk } := by
 have hn : H s.heap.objs.size = none := I.hok.fresh (Nat.le_refl _)
 obtain ⟨e0, e1, e2, e3, e4, e5⟩ := fe
 obtain ⟨i0, i1, i2, i3, i4, i5⟩ := fi
 have neH : ∀ b u, H b = some u → b ≠ e ∧ b ≠ it := fun b u q => ⟨fun z => (by rw [z, e0] at q; cases q), fun z => (by rw [z, i0] at q; cases q)⟩
 have lt : ∀ b o, s.heap.get? b = some o → b ≠ s.heap.objs.size := fun b o q => Nat.ne_of_lt (Heap.lt_size q)
 refine I.step (g' := s.gens) (d' := s.drawn) (ch := [e, it]) (fun b hb => ?_) (fun b o _ _ hc q _ => k b o (fun z => hc (by simp [z])) (fun z => hc (by simp [z])) q)
  (fun b o _ _ hc q _ => ⟨o.slots, k b o (fun z => hc (by simp [z])) (fun z => hc (by simp [z])) q⟩) (fun b o _ q n => by rw [a_8 (lt b o q)]; exact n) (fun b o hc q => ⟨o, k b o (fun z => hc (by simp [z])) (fun z => hc (by simp [z])) q⟩)
  (fun b xs q => by rw [a_8 (b_9 q hn)]; exact q) (fun b o u q => by rw [a_8 (b_9 q hn)]; exact q) (fun b ps q => ⟨#[], by rw [a_8 (b_9 q hn), q]; simp⟩) (fun m hm => ?_) (fun b u q => ?_) I.bare
 ·have hb' : b = e ∨ b = it := by simpa using hb
  rcases hb' with rfl | rfl
  ·exact ⟨e3, e1, e4, e5⟩
  ·exact ⟨i3, i1, i4, i5⟩
 ·obtain ⟨o, es, ep, ho, r⟩ := hm
  exact ⟨o, es, ep, k _ o (Ne.symm e1) (Ne.symm i1) ho, r⟩
 ·by_cases z : b = s.heap.objs.size
  ·subst z
   rw [b_1] at q
   cases q
   exact ⟨hz, its, rv, ⟨_, ht, rfl, 0, rfl⟩⟩
  ·rw [a_8 z] at q
   refine (I.hok b u q).stay (fun c v hc r => ?_) (fun c r => by rw [a_8 (b_9 r hn)]; exact r) fun c xs r => by rw [a_8 (b_9 r hn)]; exact r
   rcases hc with rfl | hc
   ·exact k c v (neH c u q).1 (neH c u q).2 r
   ·exact k c v (neH c _ hc).1 (neH c _ hc).2 r
theorem Inv.turned2 {zd : List (Addr × Obj)} {σ : Sg} {s : Shared} {e it : Addr} {h' : Heap} {tk : Nat} (I : Inv X zd σ H s) (fe : FpOk X zd H e) (fi : FpOk X zd H it)
  (k : ∀ b o, b ≠ e → b ≠ it → s.heap.get? b = some o → h'.get? b = some o) : Inv X zd σ H { s with heap := h', toks := tk } := by
 obtain ⟨e0, e1, e2, e3, e4, e5⟩ := fe
 obtain ⟨i0, i1, i2, i3, i4, i5⟩ := fi
 have neH : ∀ b u, H b = some u → b ≠ e ∧ b ≠ it := fun b u q => ⟨fun z => (by rw [z, e0] at q; cases q), fun z => (by rw [z, i0] at q; cases q)⟩
 refine I.step (g' := s.gens) (d' := s.drawn) (ch := [e, it]) (fun b hb => ?_) (fun b o _ _ hc q _ => k b o (fun z => hc (by simp [z])) (fun z => hc (by simp [z])) q)
  (fun b o _ _ hc q _ => ⟨o.slots, k b o (fun z => hc (by simp [z])) (fun z => hc (by simp [z])) q⟩) (fun b o _ q n => n) (fun b o hc q => ⟨o, k b o (fun z => hc (by simp [z])) (fun z => hc (by simp [z])) q⟩)
  (fun b xs q => q) (fun b o u q => q) (fun b ps q => ⟨#[], by rw [q]; simp⟩) (fun m hm => ?_) (fun b u q => ?_) I.bare
 ·have hb' : b = e ∨ b = it := by simpa using hb
  rcases hb' with rfl | rfl
  ·exact ⟨e3, e1, e4, e5⟩
  ·exact ⟨i3, i1, i4, i5⟩
 ·obtain ⟨o, es, ep, ho, r⟩ := hm
  exact ⟨o, es, ep, k _ o (Ne.symm e1) (Ne.symm i1) ho, r⟩
 ·refine (I.hok b u q).stay (fun c v hc r => ?_) (fun c r => r) fun c xs r => r
  rcases hc with rfl | hc
  ·exact k c v (neH c u q).1 (neH c u q).2 r
  ·exact k c v (neH c _ hc).1 (neH c _ hc).2 r
def enL (K : Frag) (l : Addr) : It :=
 ⟨fun i H => ∃ xs x, SqL K H l xs ∧ xs[i]? = some x, fun i H v H' => ∃ p, H p = none ∧ v = .ref p ∧ ∀ xs x, SqL K H l xs → xs[i]? = some x → H' = upd H p (.tup [.int (i : Int), x]), fun i H => ∃ xs, SqL K H l xs ∧ xs.length = i⟩
def enS (z : Str) : It :=
 ⟨fun i _ => i < z.cps.size, fun i H v H' => ∃ p c, H p = none ∧ v = .ref p ∧ z.cps[i]? = some c ∧ H' = upd H p (.tup [.int (i : Int), .str ⟨#[c]⟩]), fun i _ => i = z.cps.size⟩
theorem ck_8 {w : World} {elts : List Expr} {x1 : Nat} (e it l : Addr) (hei : e ≠ it) : Turn P w K (.Tuple elts x1 pos) (enL K l) [e, it] e (fun i h => (∃ old, IsEnum h e it (i : Int) old) ∧ h.IsListIter it l i) where
 mem := by simp
 obj := fun i h st b hb => by
  have hb' : b = e ∨ b = it := by simpa using hb
  rcases hb' with rfl | rfl
  ·obtain ⟨⟨old, q⟩, _⟩ := st
   exact ⟨_, q, fun v z => by cases z⟩
  ·obtain ⟨_, ⟨o, q, c, d⟩⟩ := st
   exact ⟨o, q, fun v z => by rw [d] at z; cases z⟩
 keep := fun i h h' st k => by
  obtain ⟨⟨old, q⟩, r⟩ := st
  exact ⟨⟨old, k e (by simp) _ q⟩, r.at fun o z => k it (by simp) o z⟩
 item := by
  intro X hP hw hK hc i zd s σ H E I hf st hg
  subst hP hw hK
  obtain ⟨xs, x, hq, hx⟩ := hg
  obtain ⟨its, rv, p, hz⟩ := I.list hq
  obtain ⟨u, hu, ru⟩ := rv.get hx
  obtain ⟨⟨old, he⟩, hit⟩ := st
  have fe := hf e (by simp)
  have fi := hf it (by simp)
  have pl := p.isList
  have nle : l ≠ e := fun z => by
   subst z
   obtain ⟨o, ho, hc', _⟩ := pl
   rw [show s.heap.get? l = _ from he] at ho
   cases ho
   exact absurd hc' (by simp)
  have nli : l ≠ it := fun z => by
   subst z
   obtain ⟨o, ho, hc', _⟩ := pl
   obtain ⟨o', ho', hc2, _⟩ := hit
   rw [ho] at ho'
   cases ho'
   rw [hc'] at hc2
   exact absurd hc2 (by simp)
  have hlt : i < its.toArray.size := by
   have := (List.getElem?_eq_some_iff.mp hu).1
   simpa using this
  refine wpAny_pyNext_enum_itemD (Draws.list (A := X.A.in1) (I.ok.hd hc) it l nli its.toArray) he ⟨hit, pl⟩ hlt hei (by simp [hei, Ne.symm nle]) fun y h' tk hy ho hst bq hsz kk => ?_
  have ey : y = u := by
   have : its.toArray[i]? = some u := by simpa using hu
   rw [this] at hy
   exact (Option.some.inj hy).symm
  subst ey
  refine ⟨_, rfl, wpAny_letOwnedTupleGo_enum ho fun h'' bb sb => ?_⟩
  have aw : ∃ old, IsEnum h'' e it ((i + 1 : Nat) : Int) old := ⟨_, by
   have e1 : ((i + 1 : Nat) : Int) = (i : Int) + 1 := by omega
   rw [e1]
   exact bb⟩
  refine ⟨.ref s.heap.objs.size, upd H s.heap.objs.size (.tup [.int (i : Int), x]), ?_, rfl, ⟨_, I.hok.fresh (Nat.le_refl _), rfl, fun ys y' hy' ey' => ?_⟩, ⟨aw, ?_⟩, fun b hb => ?_⟩
  ·have ne : s.heap.objs.size ≠ e := fun z => absurd (Heap.lt_size he) (by rw [← z]; exact Nat.lt_irrefl _)
   refine Inv.pair (its := [.int (i : Int) tk, y]) I fe fi (fun b o h1 h2 q => (sb.2 b h1).trans (kk b o h1 h2 q)) ⟨_, bb⟩ ?_ ((sb.2 _ ne).trans bq) (.cons ⟨_, rfl⟩ (.cons ru .nil)) (by show 2 ≤ sizeLine; decide)
   obtain ⟨⟨o, q, _⟩, _⟩ := hst
   exact ⟨o, (sb.2 it (Ne.symm hei)).trans q⟩
  ·have := I.list_inj hy' hq
   subst this
   rw [hx] at ey'
   cases ey'
   rfl
  ·exact hst.1.at fun o z => (sb.2 it (Ne.symm hei)).trans z
  ·have hb' : b = e ∨ b = it := by simpa using hb
   have hbl : b < s.heap.objs.size := by
    rcases hb' with rfl | rfl
    ·exact Heap.lt_size he
    ·obtain ⟨o, q, _⟩ := hit; exact Heap.lt_size q
   rw [a_8 (Nat.ne_of_lt hbl)]
   exact (hf b hb).1
 done := by
  intro X hP hw hK hc i zd s σ H E I hf st hg
  subst hP hw hK
  obtain ⟨xs, hq, hx⟩ := hg
  obtain ⟨its, rv, p, hz⟩ := I.list hq
  obtain ⟨⟨old, he⟩, hit⟩ := st
  have hl := rv.length
  have pl := p.isList
  have nli : l ≠ it := fun z => by
   subst z
   obtain ⟨o, ho, hc', _⟩ := pl
   obtain ⟨o', ho', hc2, _⟩ := hit
   rw [ho] at ho'
   cases ho'
   rw [hc'] at hc2
   exact absurd hc2 (by simp)
  have en : i = its.toArray.size := by simp; omega
  refine wpAny_pyNext_enum_endD (Draws.list (A := X.A.in1) (I.ok.hd hc) it l nli its.toArray) he (by rw [← en]; exact ⟨hit, pl⟩) fun h' eb => ⟨rfl, ?_⟩
  exact Inv.turned2 (tk := s.toks) I (hf e (by simp)) (hf it (by simp)) fun b o h1 h2 q => eb b o h2 q
 self := fun A i s Q E st h => by
  obtain ⟨⟨old, he⟩, _⟩ := st
  exact wpAny_pyIter_enum he h
theorem aw_6 {prog : Program} {w : World} {A : Around} (hh : A.handled = none) (it : Addr) (x : Str) (t : Tok) :
  Draws prog w A it [it] x.cps.size (fun i v => ∃ c u, x.cps[i]? = some c ∧ v = .str ⟨#[c]⟩ u) (fun i h => h.IsStrIter it (strIterType x) x t i) := by
 unfold strIterType
 cases ha : x.cps.all (· < 128)
 ·exact Draws.strWide hh it x t
 ·exact Draws.strAscii hh it x t
theorem ck_9 {w : World} {elts : List Expr} {x1 : Nat} (e it : Addr) (z : Str) (t : Tok) (hei : e ≠ it) : Turn P w K (.Tuple elts x1 pos) (enS z) [e, it] e (fun i h => (∃ old, IsEnum h e it (i : Int) old) ∧ h.IsStrIter it (strIterType z) z t i) where
 mem := by simp
 obj := fun i h st b hb => by
  have hb' : b = e ∨ b = it := by simpa using hb
  rcases hb' with rfl | rfl
  ·obtain ⟨⟨old, q⟩, _⟩ := st
   exact ⟨_, q, fun v z => by cases z⟩
  ·obtain ⟨_, ⟨o, q, c, d⟩⟩ := st
   exact ⟨o, q, fun v z => by rw [d] at z; cases z⟩
 keep := fun i h h' st k => by
  obtain ⟨⟨old, q⟩, ⟨o, r, c⟩⟩ := st
  exact ⟨⟨old, k e (by simp) _ q⟩, ⟨o, k it (by simp) o r, c⟩⟩
 item := by
  intro X hP hw hK hc i zd s σ H E I hf st hg
  subst hP hw hK
  obtain ⟨⟨old, he⟩, hit⟩ := st
  have fe := hf e (by simp)
  have fi := hf it (by simp)
  refine wpAny_pyNext_enum_itemD (aw_6 (A := X.A.in1) (I.ok.hd hc) it z t) he hit hg hei (by simp [hei]) fun y h' tk hy ho hst bq hsz kk => ?_
  obtain ⟨c, uc, hcx, rfl⟩ := hy
  refine ⟨_, rfl, wpAny_letOwnedTupleGo_enum ho fun h'' bb sb => ?_⟩
  have aw : ∃ old, IsEnum h'' e it ((i + 1 : Nat) : Int) old := ⟨_, by
   have e1 : ((i + 1 : Nat) : Int) = (i : Int) + 1 := by omega
   rw [e1]
   exact bb⟩
  refine ⟨.ref s.heap.objs.size, upd H s.heap.objs.size (.tup [.int (i : Int), .str ⟨#[c]⟩]), ?_, rfl, ⟨_, c, I.hok.fresh (Nat.le_refl _), rfl, hcx, rfl⟩, ⟨aw, ?_⟩, fun b hb => ?_⟩
  ·have ne : s.heap.objs.size ≠ e := fun z => absurd (Heap.lt_size he) (by rw [← z]; exact Nat.lt_irrefl _)
   refine Inv.pair (its := [.int (i : Int) tk, .str ⟨#[c]⟩ uc]) I fe fi (fun b o h1 h2 q => (sb.2 b h1).trans (kk b o h1 h2 q)) ⟨_, bb⟩ ?_ ((sb.2 _ ne).trans bq) (.cons ⟨_, rfl⟩ (.cons ⟨_, rfl⟩ .nil)) (by show 2 ≤ sizeLine; decide)
   obtain ⟨o, q, _⟩ := hst
   exact ⟨o, (sb.2 it (Ne.symm hei)).trans q⟩
  ·obtain ⟨o, q, r⟩ := hst
   exact ⟨o, (sb.2 it (Ne.symm hei)).trans q, r⟩
  ·have hb' : b = e ∨ b = it := by simpa using hb
   have hbl : b < s.heap.objs.size := by
    rcases hb' with rfl | rfl
    ·exact Heap.lt_size he
    ·obtain ⟨o, q, _⟩ := hit; exact Heap.lt_size q
   rw [a_8 (Nat.ne_of_lt hbl)]
   exact (hf b hb).1
 done := by
  intro X hP hw hK hc i zd s σ H E I hf st hg
  subst hP hw hK
  obtain ⟨⟨old, he⟩, hit⟩ := st
  have en : i = z.cps.size := hg
  refine wpAny_pyNext_enum_endD (aw_6 (A := X.A.in1) (I.ok.hd hc) it z t) he (by rw [← en]; exact hit) fun h' eb => ⟨rfl, ?_⟩
  exact Inv.turned2 (tk := s.toks) I (hf e (by simp)) (hf it (by simp)) fun b o h1 h2 q => eb b o h2 q
 self := fun A i s Q E st h => by
  obtain ⟨⟨old, he⟩, _⟩ := st
  exact wpAny_pyIter_enum he h
def n_2 (k : Nat) : List D → List D
 | [] => []
 | d :: ds => .tup [.int (k : Int), d] :: n_2 (k + 1) ds
theorem q_5 : ∀ {ds : List D} {k i : Nat} {d : D}, (n_2 k ds)[i]? = some d → ∃ d', ds[i]? = some d' ∧ d = .tup [.int ((k + i : Nat) : Int), d']
 | [], _, _, _, h => by simp [n_2] at h
 | x :: ds, k, 0, d, h => by simp [n_2] at h; exact ⟨x, rfl, h.symm⟩
 | x :: ds, k, i + 1, d, h => by
  obtain ⟨d', e1, e2⟩ := q_5 (ds := ds) (k := k + 1) (i := i) (by simpa [n_2] using h)
  exact ⟨d', by simpa using e1, by rw [e2, show k + 1 + i = k + (i + 1) by omega]⟩
theorem ag_4 : ∀ (ds : List D) (k : Nat), (n_2 k ds).length = ds.length
 | [], _ => rfl
 | _ :: ds, k => by simp [n_2, ag_4 ds (k + 1)]
def br_6 : D → R (List D)
 | .lst ds => .ok (n_2 0 ds)
 | .str x => .ok (n_2 0 (s_5 x))
 | _ => .no
def ad_9 (f : FE) : FI := fun δ => (f δ).bind fun w => br_6 w.d
section
variable {X : Cx} {EX : EXS} {a : Expr} {f : FE} {elts : List Expr} {x1 : Nat} {tp p pos : Pos}
def iEn (K : Frag) (t : TA) : TI := fun σ H Q => t σ H fun vs H1 => (∃ l, vs = [.ref l] ∧ (∃ xs, SqL K H1 l xs) ∧ Q (enL K l) H1) ∨ (∃ z, vs = [.str z] ∧ Q (enS z) H1)
theorem cu_2 {ta : TA} (hg : Gl X "enumerate") (hm : X.mg "enumerate" = none) (ha : PA X [a] ta) (hs : starEach [a] X.env = [(false, eval a X.env)] := by rfl) : PI X (.Tuple elts x1 tp) (.Call (.Name "enumerate" p) [a] [] pos) (iEn X.K ta) := by
 intro zd s σ H Q I h
 refine Call_ (ab_4 I hg hm PyProof.Rows.boot_enumerate (PyProof.Rows.callWith_type1 (thn (ha pos zd s σ H _ I h) fun us s1 ⟨vs, H1, I1, r1, q1⟩ => ?_) hs rfl))
 rcases q1 with ⟨l, rfl, ⟨xs, hq⟩, q⟩ | ⟨z, rfl, q⟩
 ·obtain ⟨u, rfl, ru⟩ := r1.one
  cases ru
  obtain ⟨its, rv, pl, hz⟩ := I1.list hq
  refine call_enumerate_list pl.isList fun h' he hit hsz kk => wpAny_pyIter_enum he ?_
  refine ⟨s1.heap.objs.size + 1, [s1.heap.objs.size + 1, s1.heap.objs.size], _, enL X.K l, H1, rfl, I1.kept (t' := s1.toks) kk, ck_8 _ _ l (Nat.succ_ne_self _), ⟨⟨_, he⟩, hit⟩, fun b hb => ?_, q⟩
  have hb' : b = s1.heap.objs.size + 1 ∨ b = s1.heap.objs.size := by simpa using hb
  have hbl : s1.heap.objs.size ≤ b := by
   rcases hb' with rfl | rfl
   ·exact Nat.le_succ _
   ·exact Nat.le_refl _
  exact I1.fpOk hbl (I1.hok.fresh hbl)
 ·obtain ⟨u, rfl, t, rfl⟩ := r1.one
  refine call_enumerate_str fun h' he hit hsz kk => wpAny_pyIter_enum he ?_
  refine ⟨s1.heap.objs.size + 1, [s1.heap.objs.size + 1, s1.heap.objs.size], _, enS z, H1, rfl, I1.kept (t' := s1.toks) kk, ck_9 _ _ z t (Nat.succ_ne_self _), ⟨⟨_, he⟩, hit⟩, fun b hb => ?_, q⟩
  have hb' : b = s1.heap.objs.size + 1 ∨ b = s1.heap.objs.size := by simpa using hb
  have hbl : s1.heap.objs.size ≤ b := by
   rcases hb' with rfl | rfl
   ·exact Nat.le_succ _
   ·exact Nat.le_refl _
  exact I1.fpOk hbl (I1.hok.fresh hbl)
theorem cu_3 {G : Hp} {l : Addr} {ds : List D} (h : SqL K G l vs) (r : HasL K G vs ds) : ItD K G (enL K l) (n_2 0 ds) := fun G' H g1 g i => by
 refine ⟨fun d e => ?_, fun e => ?_⟩
 ·obtain ⟨d', e1, rfl⟩ := q_5 e
  obtain ⟨v, e2, hv⟩ := r.get e1
  refine ⟨⟨vs, v, (g1.trans g).seq h, e2⟩, fun x H' y => ?_⟩
  obtain ⟨p, hp, rfl, y⟩ := y
  have := y vs v ((g1.trans g).seq h) e2
  subst this
  refine ⟨_, Step.new g hp _, .tup (SqT.of b_1) (.cons (by rw [Nat.zero_add]; exact .int _) (.cons (hv.mono (g1.trans (i_1 (g.free hp) _))) .nil))⟩
 ·rw [ag_4] at e
  exact ⟨vs, (g1.trans g).seq h, by rw [r.length]; exact e⟩
theorem cu_4 {G : Hp} (z : Str) : ItD K G (enS z) (n_2 0 (s_5 z)) := fun G' H g1 g i => by
 refine ⟨fun d e => ?_, fun e => ?_⟩
 ·obtain ⟨d', e1, rfl⟩ := q_5 e
  unfold s_5 at e1
  rw [List.getElem?_map] at e1
  cases q : z.cps.toList[i]? with
  | none => rw [q] at e1; cases e1
  | some c =>
   rw [q] at e1
   cases e1
   have hi : i < z.cps.size := by
    have := (List.getElem?_eq_some_iff.mp q).1
    simpa using this
   refine ⟨hi, fun x H' y => ?_⟩
   obtain ⟨p, c', hp, rfl, hc, rfl⟩ := y
   have : z.cps.toList[i]? = some c' := by simpa using hc
   rw [q] at this
   cases this
   refine ⟨_, Step.new g hp _, .tup (SqT.of b_1) (.cons (by rw [Nat.zero_add]; exact .int _) (.cons (.str _) .nil))⟩
 ·rw [ag_4] at e
  unfold s_5 at e
  rw [List.length_map] at e
  show i = z.cps.size
  simp at e
  omega
theorem bb_7 (hm : X.mg "enumerate" = none) (he : ED X EX a f) (hg : Gl X "enumerate" := by rfl) (hs : starEach [a] X.env = [(false, eval a X.env)] := by rfl) (hs1 : starEach [a] X.env = (false, eval a X.env) :: starEach [] X.env := by rfl) :
  ID X EX (.Tuple elts x1 tp) (.Call (.Name "enumerate" p) [a] [] pos) (ad_9 f) :=
 PI.imp (cu_2 hg hm (e_4 he n_9 hs1) hs) fun σ H Q ⟨G, δ, g0, s0, o⟩ => by
  refine ⟨G, δ, g0, s0, ?_⟩
  unfold ad_9 at o
  cases e1 : f δ with
  | ok w =>
   rw [e1] at o
   simp only [R.bind_ok] at o
   refine WP.intro fun v G' H' st r => ?_
   revert r o
   cases w.d with
   | lst ds =>
    intro o r
    cases r with
    | lst h r => exact .inl ⟨_, rfl, ⟨_, st.gh.seq h⟩, o _ G' H' st (cu_3 h r)⟩
   | str z =>
    intro o r
    cases r
    exact .inr ⟨z, rfl, o _ G' H' st (cu_4 z)⟩
   | _ => intro o _; exact False.elim o
  | ex x => rw [e1] at o; exact o
  | no => rw [e1] at o; exact o
end
def C3 (i j c : Int) : Prop := 0 ≤ i ∧ i.natAbs < 1073741824 ∧ j.natAbs < 1073741824 ∧ 0 < c ∧ c.natAbs < 1073741824
instance (i j c : Int) : Decidable (C3 i j c) := by unfold C3; exact inferInstance
section
variable {X : Cx} {EX : EXS} {tg a b c : Expr} {fa : FA} {ta : TA} {p pos : Pos}
end
section
variable {X : Cx} {EX : EXS} {a : Expr} {f : FE} {pos : Pos}
def ag_5 : List D → Option (List Bool)
 | [] => some []
 | .bl b :: ds => (ag_5 ds).map (b :: ·)
 | _ => none
def allD : List D → R W
 | [.lst ds] => match ag_5 ds with
  | some bs => .ok (.sh (.bl (bs.all id)))
  | none => .no
 | _ => .no
theorem bi_7 {G : Hp} : ∀ {vs : List V} {ds : List D} {us : List Value} {bs : List Bool}, HasL K G vs ds → Vals vs us → ag_5 ds = some bs → us = bs.map Value.bool
 | _, _, _, _, .nil, r, e => by cases r; cases e; rfl
 | _, _, _, _, .cons h t, r, e => by
  cases r with
  | cons r1 r2 =>
   cases h with
   | bl x =>
    cases r1
    simp only [ag_5] at e
    obtain ⟨zs, q, rfl⟩ := Option.map_eq_some_iff.mp e
    rw [List.map_cons, bi_7 t r2 q]
   | _ => cases e
theorem cd_0 (bs : List Bool) : (List.range bs.length).all (fun i => bs.getD i true) = bs.all id := by
 rw [Bool.eq_iff_iff, List.all_eq_true, List.all_eq_true]
 constructor
 ·intro h b hb
  obtain ⟨i, hi, e⟩ := List.getElem_of_mem hb
  have := h i (List.mem_range.mpr hi)
  simp [hi] at this
  rw [← e]
  exact this
 ·intro h i hi
  have hi := List.mem_range.mp hi
  simp [hi]
  exact h _ (List.getElem_mem hi)
theorem cd_1 (hc : X.calm = true) : t_9 X (.builtin "all") allD := by
 intro zd s σ H vs us Q I rv q
 obtain ⟨EX, G, ds, g, r, o⟩ := q
 cases r with
 | nil => exact False.elim o
 | cons h t =>
  cases t with
  | cons _ _ => cases h <;> exact False.elim o
  | nil =>
   cases h with
   | lst h r =>
    rename_i l _ _
    simp only [allD] at o
    split at o
    ·rename_i bs e
     obtain ⟨u, rfl, ru⟩ := rv.one
     cases ru
     obtain ⟨its, rv', pl, hz⟩ := I.list (g.seq h)
     have eb := bi_7 r rv' e
     subst eb
     have nl : l ≠ s.heap.objs.size := fun z => by
      obtain ⟨o', ho, _⟩ := pl.isList
      exact absurd (Heap.lt_size ho) (by rw [← z]; exact Nat.lt_irrefl _)
     refine call_all_walk (wpAny_pyIter_list pl.isList ⟨s.heap.objs.size, _, _, _, _, _, fun i => bs.getD i true, rfl, Walks.list (A := X.A.in1) (I.ok.hd hc) s.heap.objs.size l nl (bs.map Value.bool).toArray, ⟨⟨_, Heap.get?_push_size _ rfl, rfl, rfl⟩, ?_⟩, fun i v s' Q' E' hP hQ => ?_, fun h' tk kk => ?_⟩)
     ·exact pl.isList.at fun o z => Heap.get?_push_of_some _ z
     ·have hP' : (bs.map Value.bool)[i]? = some v := by simpa using hP
      rw [List.getElem?_map] at hP'
      cases q : bs[i]? with
      | none => rw [q] at hP'; cases hP'
      | some b =>
       rw [q] at hP'
       cases hP'
       have : bs.getD i true = b := by simp [List.getD, q]
       dsimp only at hQ
       rw [this] at hQ
       exact wpAny_truthy_bool hQ
     ·have en : (bs.map Value.bool).toArray.size = bs.length := by simp
      rw [en, cd_0]
      refine ⟨.bl _, H, I.kept (t' := tk) fun b o' z => kk b o' (by
       have hb : b ≠ s.heap.objs.size := Nat.ne_of_lt (Heap.lt_size z)
       simpa using hb) (Heap.get?_push_of_some _ z), rfl, c_9 o g (.bl _)⟩
    ·exact o.elim
   | _ => exact False.elim o
def ag_6 : D → List D → R W
 | .str x, [.str y] => match Builtin.Str.occurrences x y 0 x.length 1 with
  | i :: _ => .ok (.sh (.int (i : Nat)))
  | [] => .no
 | _, _ => .no
theorem cd_2 : MtD X "str.index" ag_6 := by
 intro zd s σ H x vs v us Q I rx rv h
 obtain ⟨EX, G, d, ds, g, r, rl, o⟩ := h
 refine bw_7 r rl (fun x y e1 e2 e3 e4 => ?_) fun n => ?_
 ·subst e1 e2 e3 e4
  obtain ⟨t, rfl⟩ := rx
  obtain ⟨u, rfl, t', rfl⟩ := rv.one
  simp only [ag_6] at o
  split at o
  ·rename_i i o_4 e
   exact SC.index e ⟨.int _, H, I.tok _, ⟨_, rfl⟩, c_9 o g (.int _)⟩
  ·exact o.elim
 ·have e : ag_6 d ds = .no := by
   unfold ag_6
   split
   ·rename_i x y; exact absurd ⟨rfl, rfl⟩ (n x y)
   ·rfl
  rw [e] at o
  exact o.elim
end
section
variable {prog : Program} {w : World} {A : Around} {E : Value → Shared → Prop} {s : Shared}
end
section
variable {X : Cx} {EX : EXS} {pos : Pos}
theorem HasS.skip {G : Hp} {σ : Sg} {δ : DE} {i : Nat} (h : HasS K G σ δ) (e : δ[i]? = some none) : HasS K G (σ.set i (some v)) δ := by
 refine ⟨by rw [List.length_set]; exact h.len, fun j d' e' => ?_⟩
 obtain ⟨v', e1, r'⟩ := h.get j d' e'
 refine ⟨v', ?_, r'⟩
 rw [List.getElem?_set_ne]
 ·exact e1
 ·rintro rfl
  rw [e] at e'
  cases e'
end
section
variable {X : Cx} {EX : EXS}
def nonB : D → Bool
 | .non => true
 | _ => false
def isND (neg : Bool) : D → D → R W
 | d, .non => .ok (.sh (.bl (if neg then !nonB d else nonB d)))
 | _, _ => .no
theorem df_1 {G : Hp} {d : D} (r : Has K G v d) : decide (v = .non) = nonB d := by
 cases r <;> rfl
theorem cu_5 : OpD X (compareOp .Is) (isND false) := by
 intro zd s σ H x y v u Q I rx ry q
 obtain ⟨EX, G, a, b, g, ra, rb, o⟩ := q
 cases rb with
 | non => exact dc_7 zd s σ H _ _ _ _ Q I rx ry ⟨rfl, by rw [df_1 ra]; exact c_9 o g (.bl _)⟩
 | _ => exact False.elim o
end
def Itv (K : Frag) (a : Addr) (xs : List V) : It := ⟨fun i H => SqL K H a xs ∧ i < xs.length, fun i H x H' => H' = H ∧ xs[xs.length - 1 - i]? = some x, fun i _ => i = xs.length⟩
theorem cl_1 {w : World} {tg : Expr} (a it : Addr) (xs : List V) : Turn P w K tg (Itv K a xs) [it] it (fun i h => h.IsRevIter it a ((xs.length : Int) - 1 - (i : Int))) where
 mem := by simp
 obj := fun i h st b hb => by
  have e : b = it := by simpa using hb
  subst e
  obtain ⟨o, e, c, d⟩ := st
  exact ⟨o, e, fun v z => by rw [d] at z; cases z⟩
 keep := fun i h h' st k => st.at fun o e => k it (by simp) o e
 item := by
  intro X hP hw hK hc i zd s σ H E I hf st hg
  subst hP hw hK
  obtain ⟨hq, hlt⟩ := hg
  obtain ⟨its, rv, p, hz⟩ := I.list hq
  obtain ⟨f0, f1, f2, f3, f4, f5⟩ := hf it (by simp)
  have e : (xs.length : Int) - 1 - (i : Int) = ((xs.length - 1 - i : Nat) : Int) := by omega
  rw [e] at st
  obtain ⟨x, hx⟩ : ∃ x, xs[xs.length - 1 - i]? = some x := ⟨_, List.getElem?_eq_getElem (by omega)⟩
  obtain ⟨u, hu, ru⟩ := rv.get hx
  refine wpAny_pyNext_rev_item st p.isList (x := u) (by simpa using hu) fun h' st' sb => ?_
  have I1 : Inv X zd σ H { s with heap := h' } := I.turned (t' := s.toks) (fun b o hb e => (sb.2 b hb).trans e) f0 f1 f3 f4 f5
  have e2 : ((xs.length - 1 - i : Nat) : Int) - 1 = (xs.length : Int) - 1 - ((i + 1 : Nat) : Int) := by omega
  rw [e2] at st'
  obtain ⟨o, e, c, d⟩ := id st'
  exact ⟨u, rfl, bg_8 (s := { s with heap := h' }) e c d (by decide) ⟨x, H, I1, ru, ⟨rfl, hx⟩, st', fun b hb => (hf b hb).1⟩⟩
 done := by
  intro X hP hw hK hc i zd s σ H E I hf st hg
  subst hP hw hK
  have hg : i = xs.length := hg
  subst hg
  obtain ⟨f0, f1, f2, f3, f4, f5⟩ := hf it (by simp)
  have e : (xs.length : Int) - 1 - (xs.length : Int) = -1 := by omega
  rw [e] at st
  exact wpAny_pyNext_rev_end (I.ok.hd hc) st fun h' eb => ⟨rfl, I.turned (t' := s.toks) (fun b o hb e => eb b o hb e) f0 f1 f3 f4 f5⟩
 self := fun _ _ _ _ _ st h => wpAny_pyIter_revIter st h
def cz_5 : D → R (List D)
 | .lst ds => .ok ds.reverse
 | _ => .no
def iRev (f : FE) : FI := fun δ => (f δ).bind fun w => cz_5 w.d
theorem cu_6 {G : Hp} {l : Addr} {ds : List D} (h : SqL K G l vs) (r : HasL K G vs ds) : ItD K G (Itv K l vs) ds.reverse := fun G' H g1 g i => by
 have hl := r.length
 refine ⟨fun d e => ?_, fun e => ?_⟩
 ·have hi : i < ds.length := by
   have := (List.getElem?_eq_some_iff.mp e).1
   simpa using this
  rw [List.getElem?_reverse hi] at e
  obtain ⟨v, e2, hv⟩ := r.get e
  refine ⟨⟨(g1.trans g).seq h, by omega⟩, fun x H' y => ?_⟩
  obtain ⟨e3, y⟩ := y
  subst e3
  rw [hl, e2] at y
  cases y
  exact ⟨G', Step.refl g, hv.mono g1⟩
 ·rw [List.length_reverse] at e
  show i = vs.length
  omega
section
variable {X : Cx} {EX : EXS} {tg a b : Expr} {f g : FE} {fa : FA} {p pos : Pos}
def iRv (K : Frag) (t : TA) : TI := fun σ H Q => t σ H fun vs H1 => ∃ l xs, vs = [.ref l] ∧ SqL K H1 l xs ∧ Q (Itv K l xs) H1
theorem df_2 {ta : TA} (hg : Gl X "reversed") (hm : X.mg "reversed" = none) (ha : PA X [a] ta) (hs : starEach [a] X.env = [(false, eval a X.env)] := by rfl) : PI X tg (.Call (.Name "reversed" p) [a] [] pos) (iRv X.K ta) := by
 intro zd s σ H Q I h
 refine Call_ (ab_4 I hg hm PyProof.Rows.boot_reversed (PyProof.Rows.callWith_type1 (thn (ha pos zd s σ H _ I h) fun us s1 ⟨vs, H1, I1, r1, q1⟩ => ?_) hs rfl))
 obtain ⟨l, xs, rfl, hq, q⟩ := q1
 obtain ⟨u, rfl, ru⟩ := r1.one
 cases ru
 obtain ⟨its, rv, pl, hz⟩ := I1.list hq
 have hl := rv.length
 refine call_reversed_list pl.isList ?_
 refine wpAny_pyIter_revIter (i := (its.toArray.size : Int) - 1) ⟨_, Heap.get?_push_size _ rfl, rfl, rfl⟩ ?_
 refine ⟨s1.heap.objs.size, [s1.heap.objs.size], _, Itv X.K l xs, H1, rfl, I1.kept (t' := s1.toks) fun b o e => Heap.get?_push_of_some _ e, cl_1 l _ xs, ⟨_, Heap.get?_push_size _ rfl, rfl, ?_⟩, fun b hb => ?_, q⟩
 ·have e : (xs.length : Int) - 1 - ((0 : Nat) : Int) = (its.toArray.size : Int) - 1 := by simp; omega
  rw [e]
  rfl
 ·have e : b = s1.heap.objs.size := by simpa using hb
  subst e
  exact I1.fpOk (Nat.le_refl _) (I1.hok.fresh (Nat.le_refl _))
theorem cl_2 (hm : X.mg "reversed" = none) (he : ED X EX a f) (hg : Gl X "reversed" := by rfl) (hs : starEach [a] X.env = [(false, eval a X.env)] := by rfl) (hs1 : starEach [a] X.env = (false, eval a X.env) :: starEach [] X.env := by rfl) :
  ID X EX tg (.Call (.Name "reversed" p) [a] [] pos) (iRev f) :=
 PI.imp (df_2 hg hm (e_4 he n_9 hs1) hs) fun σ H Q ⟨G, δ, g0, s0, o⟩ => by
  refine ⟨G, δ, g0, s0, ?_⟩
  unfold iRev at o
  cases e1 : f δ with
  | ok w =>
   rw [e1] at o
   simp only [R.bind_ok] at o
   refine WP.intro fun v G' H' st r => ?_
   revert r o
   cases w.d with
   | lst ds =>
    intro o r
    cases r with
    | lst h r => exact ⟨_, _, rfl, st.gh.seq h, o _ G' H' st (cu_6 h r)⟩
   | _ => intro o _; exact False.elim o
  | ex x => rw [e1] at o; exact o
  | no => rw [e1] at o; exact o
theorem HasL.rep {G : Hp} {ds : List D} (r : HasL K G vs ds) : ∀ n : Nat, HasL K G (List.replicate n vs).flatten (List.replicate n ds).flatten
 | 0 => .nil
 | n + 1 => by rw [List.replicate_succ, List.replicate_succ, List.flatten_cons, List.flatten_cons]; exact r.append (HasL.rep r n)
def repD (ds : List D) : D → R W
 | .int k => if k.natAbs < 4611686018427387904 ∧ ds.length * k.toNat ≤ 16777216 then .ok (.ow (.lst (List.replicate k.toNat ds).flatten)) else .no
 | _ => .no
def eRep (fa : FA) (f : FE) : FE := fun δ => (fa δ).bind fun ds => if ds.length ≤ 16777216 then (f δ).bind fun w => repD ds w.d else .no
theorem df_4 {es : List Expr} {ft : Pos} (ha : AD X EX es fa) (hb : ED X EX b f) : ED X EX (.BinOp (.List es ft) .Mult b pos) (eRep fa f) :=
 PE.imp (cz_2 dd_7 (ch_8 ha) hb) fun σ H Q ⟨G, δ, g0, s0, o⟩ => tDa.seq g0 s0 o fun ds vs G' H' _ st r o' => by
  split at o'
  ·rename_i hz
   refine ⟨by rw [r.length, sizeLine_eq]; exact hz, fun q hq => ?_⟩
   have so := Step.own st.gh hq (.lst vs)
   refine tD.seq so.gh (s0.mono st.gg) (Out.mono so o') fun w v G2 H2 _ st2 r2 o2 => ?_
   revert r2 o2
   cases w.d with
   | int k =>
    intro r2 o2
    cases r2
    simp only [repD] at o2
    split at o2
    ·rename_i hk
     exact ⟨q, k, vs, rfl, rfl, st2.hh _ _ b_1, by have := hk.1; omega, by have := hk.1; omega, by rw [r.length, sizeLine_eq]; exact hk.2, y_9 o2 st2.gh ((r.mono st2.gg).rep k.toNat)⟩
    ·exact o2.elim
   | _ => intro _ o2; exact False.elim o2
  ·exact o'.elim
def aw_7 : List D → Option (List Int)
 | [] => some []
 | .int i :: ds => (aw_7 ds).map (i :: ·)
 | _ => none
def sumD : List D → R W
 | [.lst ds] => match aw_7 ds with
  | some is => .ok (.sh (.int is.sum))
  | none => .no
 | _ => .no
theorem bw_9 {G : Hp} : ∀ {vs : List V} {ds : List D} {us : List Value} {is : List Int}, HasL K G vs ds → Vals vs us → aw_7 ds = some is → us.length = is.length ∧ ∀ (j : Nat) (v : Value), us[j]? = some v → ∃ t, v = .int (is.getD j 0) t
 | _, _, _, _, .nil, r, e => by cases r; cases e; exact ⟨rfl, fun j v h => by simp at h⟩
 | _, _, _, _, .cons h t, r, e => by
  cases r with
  | cons r1 r2 =>
   cases h with
   | int x =>
    obtain ⟨tk, rfl⟩ := r1
    simp only [aw_7] at e
    obtain ⟨zs, q, rfl⟩ := Option.map_eq_some_iff.mp e
    obtain ⟨h1, h2⟩ := bw_9 t r2 q
    refine ⟨by simp [h1], fun j v hj => ?_⟩
    cases j with
    | zero => simp at hj; subst hj; exact ⟨tk, rfl⟩
    | succ j =>
     obtain ⟨t', e'⟩ := h2 j v (by simpa using hj)
     exact ⟨t', by rw [e']; simp⟩
   | _ => cases e
theorem ai_8 (is : List Int) : ∀ j, preSum (fun i => is.getD i 0) j = (is.take j).sum
 | 0 => by simp [preSum]
 | j + 1 => by rw [preSum, ai_8 is j, PySem.sum_take_succ]
theorem aw_8 (hc : X.calm = true) : t_9 X (.builtin "sum") sumD := by
 intro zd s σ H vs us Q I rv q
 obtain ⟨EX, G, ds, g, r, o⟩ := q
 cases r with
 | nil => exact False.elim o
 | cons h t =>
  cases t with
  | cons _ _ => cases h <;> exact False.elim o
  | nil =>
   cases h with
   | lst h r =>
    rename_i l _ _
    simp only [sumD] at o
    split at o
    ·rename_i is e
     obtain ⟨u, rfl, ru⟩ := rv.one
     cases ru
     obtain ⟨its, rv', pl, hz⟩ := I.list (g.seq h)
     obtain ⟨el, ev⟩ := bw_9 r rv' e
     have nl : l ≠ s.heap.objs.size := fun z => by
      obtain ⟨o', ho, _⟩ := pl.isList
      exact absurd (Heap.lt_size ho) (by rw [← z]; exact Nat.lt_irrefl _)
     have ll : l < s.heap.objs.size := by
      obtain ⟨o', ho, _⟩ := pl.isList
      exact Heap.lt_size ho
     refine call_sum_walkAnyS (wpAny_pyIter_list pl.isList ⟨s.heap.objs.size, _, _, _, _, _, _, fun i => is.getD i 0, rfl, (Walks.list (A := X.A.in1) (I.ok.hd hc) s.heap.objs.size l nl its.toArray).toS, ⟨⟨_, Heap.get?_push_size _ rfl, rfl, rfl⟩, ?_⟩, fun b hb => ?_, fun i v hP => ev i v (by simpa using hP), fun s' t' mv => ?_⟩)
     ·exact pl.isList.at fun o z => Heap.get?_push_of_some _ z
     ·rw [Heap.size_push]
      have hb' : b = s.heap.objs.size ∨ b = l := by simpa using hb
      rcases hb' with rfl | rfl
      ·exact Nat.lt_succ_self _
      ·exact Nat.lt_succ_of_lt ll
     ·have en : its.toArray.size = is.length := by simp [el]
      rw [en, ai_8, List.take_length]
      obtain ⟨m1, m2, m3, m4, m5⟩ := mv
      have e' : s' = { s with heap := s'.heap, toks := s'.toks } := by
       cases s'
       simp only at m2 m3 m4
       subst m2 m3 m4
       rfl
      rw [e']
      refine ⟨.int _, H, I.kept (t' := s'.toks) fun b o' z => m1 b o' (by
       have hb : b ≠ s.heap.objs.size := Nat.ne_of_lt (Heap.lt_size z)
       simpa using hb) (Heap.get?_push_of_some _ z), ⟨t', rfl⟩, c_9 o g (.int _)⟩
    ·exact o.elim
   | _ => exact False.elim o
def bx_0 (i : Nat) (js : List Nat) (fi fe : FE) : FS := fun Δ => match (gsome js Δ)[i]? with
 | some (.ow (.lst ds)) => (match fe (vsh (gsome js Δ)) with
  | .ok w => (match fi (vall (gsome js Δ)) with
   | .ok z => (match z.d with
    | .int k => (match ixN ds.length k with
     | some j => .nx ((gsome js Δ).set i (.ow (.lst (ds.set j w.d))))
     | none => .no)
    | _ => .no)
   | _ => .no)
  | _ => .no)
 | _ => .no
theorem cu_8 {i : Nat} (js : List Nat) {x : Str} {e ie : Expr} {fe fi : FE} {p1 zj pos : Pos} (he : ED X EX e fe) (hi : ED X EX ie fi) (hN : X.N[i]? = some x := by rfl) (hv : Vis X.env.scope x := by first | exact Or.inl rfl | exact Or.inr (Or.inl rfl) | exact Or.inr (Or.inr rfl)) (hd : (x == ("__debug__" : Str)) = false := by decide)
  (hcd : (x == ("__classdict__" : Str)) = false := by decide)
  (ha : ∀ v, assign (.Subscript (.Name x p1) ie zj) X.env v = (do
   let ov ← holding [v] (eval (.Name x p1) X.env)
   let iv ← holding [v, ov] (eval ie X.env)
   standAt zj
   holding [v, ov, iv] (setItem ov iv v)
   release [v, ov, iv] []) := by intro _; rfl)
  (hs : swapsWithSole [.Subscript (.Name x p1) ie zj] e pos.line X.env = pure false := by rfl) (hw : swappedStores [.Subscript (.Name x p1) ie zj] e X.env = pure none := by rfl)
  (h1 : (assignEach [.Subscript (.Name x p1) ie zj] X.env).map (·.2) = [assign (.Subscript (.Name x p1) ie zj) X.env] := by rfl) :
  SD X EX (.Assign [.Subscript (.Name x p1) ie zj] e pos) (bx_0 i js fi fe) :=
 PS.imp (db_9 he (db_8 (i_9 hN hv hd hcd) hi ch_9 ha) hs hw h1) fun D σ H ⟨H0, G0, G, Δ, O, E, q⟩ => by
  obtain ⟨G1, O1, sg, E1⟩ := E.gsome js
  unfold bx_0 at q
  generalize gsome js Δ = Δ1 at q E1
  split at q
  ·rename_i ds e1
   obtain ⟨v0, s1, t⟩ := E1.ow i _ _ e1 rfl
   obtain ⟨a, vs, rfl, m, hH, rl⟩ := t.list_of
   ·skip
    refine ⟨G1, vsh Δ1, E1.st.gh, E1.gsh, ?_⟩
    cases e2 : fe (vsh Δ1) with
    | ex x => rw [e2] at q; exact q.elim
    | no => rw [e2] at q; exact q.elim
    | ok w =>
     simp only [e2] at q
     refine WP.intro fun v G' H' st r => ?_
     have E2 := E1.grow st
     refine ⟨.ref a, s1, s_1 G' H' O1, vall Δ1, E2.aH, E2.gall, ?_⟩
     cases e3 : fi (vall Δ1) with
     | ex x => simp only [e3] at q; exact q.elim
     | no => simp only [e3] at q; exact q.elim
     | ok z =>
      simp only [e3] at q
      refine WP.intro fun v2 G2 H2 st2 r2 => ?_
      revert q r2
      cases z.d with
      | int k =>
       intro q r2
       cases r2
       cases e4 : ixN ds.length k with
       | none => simp only [e4] at q; exact q.elim
       | some j =>
        simp only [e4] at q
        have hH2 : H2 a = some (.lst vs) := st2.hh _ _ (st.hh _ _ hH)
        refine ⟨a, vs, k, j, rfl, rfl, hH2, by rw [rl.length]; exact e4, ?_⟩
        exact q σ G' _ _ ((E2.keep st2.hh).writeL s1 m (HasL.set r j (rl.mono st.gg))) (sg.trans st.gg)
      | _ => intro q _; exact False.elim q
  ·exact q.elim
end
section
variable {K : Frag} {x qual : Str} {st : Stmt} {f : Addr} {fd : FuncData} {ps : List Str}
theorem Fun.binds1 (F : Fun K x qual st f fd) (hl : ps.length = 1) (h : ∀ (kV doc pm : Value) (an : Option Addr) (zq ct a : Value), bindArgs (fnOf x qual (g_2 st) (d_3 st) (b_2 st) .none kV doc pm an zq ct) ⟨[a], []⟩ = pure (ps.zip [a])) : Binds K fd ps [] :=
 F.binds fun kV doc pm an zq ct us hu => match us, hu.trans hl with | [a], _ => h kV doc pm an zq ct a
theorem Fun.binds2 (F : Fun K x qual st f fd) (hl : ps.length = 2) (h : ∀ (kV doc pm : Value) (an : Option Addr) (zq ct a b : Value), bindArgs (fnOf x qual (g_2 st) (d_3 st) (b_2 st) .none kV doc pm an zq ct) ⟨[a, b], []⟩ = pure (ps.zip [a, b])) : Binds K fd ps [] :=
 F.binds fun kV doc pm an zq ct us hu => match us, hu.trans hl with | [a, b], _ => h kV doc pm an zq ct a b
theorem Fun.binds3 (F : Fun K x qual st f fd) (hl : ps.length = 3) (h : ∀ (kV doc pm : Value) (an : Option Addr) (zq ct a b c : Value), bindArgs (fnOf x qual (g_2 st) (d_3 st) (b_2 st) .none kV doc pm an zq ct) ⟨[a, b, c], []⟩ = pure (ps.zip [a, b, c])) : Binds K fd ps [] :=
 F.binds fun kV doc pm an zq ct us hu => match us, hu.trans hl with | [a, b, c], _ => h kV doc pm an zq ct a b c
theorem Fun.binds4 (F : Fun K x qual st f fd) (hl : ps.length = 4) (h : ∀ (kV doc pm : Value) (an : Option Addr) (zq ct a b c d : Value), bindArgs (fnOf x qual (g_2 st) (d_3 st) (b_2 st) .none kV doc pm an zq ct) ⟨[a, b, c, d], []⟩ = pure (ps.zip [a, b, c, d])) : Binds K fd ps [] :=
 F.binds fun kV doc pm an zq ct us hu => match us, hu.trans hl with | [a, b, c, d], _ => h kV doc pm an zq ct a b c d
theorem Fun.binds5 (F : Fun K x qual st f fd) (hl : ps.length = 5) (h : ∀ (kV doc pm : Value) (an : Option Addr) (zq ct a b c d e : Value), bindArgs (fnOf x qual (g_2 st) (d_3 st) (b_2 st) .none kV doc pm an zq ct) ⟨[a, b, c, d, e], []⟩ = pure (ps.zip [a, b, c, d, e])) : Binds K fd ps [] :=
 F.binds fun kV doc pm an zq ct us hu => match us, hu.trans hl with | [a, b, c, d, e], _ => h kV doc pm an zq ct a b c d e
theorem Fun.binds6 (F : Fun K x qual st f fd) (hl : ps.length = 6) (h : ∀ (kV doc pm : Value) (an : Option Addr) (zq ct a b c d e g : Value), bindArgs (fnOf x qual (g_2 st) (d_3 st) (b_2 st) .none kV doc pm an zq ct) ⟨[a, b, c, d, e, g], []⟩ = pure (ps.zip [a, b, c, d, e, g])) : Binds K fd ps [] :=
 F.binds fun kV doc pm an zq ct us hu => match us, hu.trans hl with | [a, b, c, d, e, g], _ => h kV doc pm an zq ct a b c d e g
end
structure ZApart (z TI TO i1 i2 : Addr) : Prop where
 TIz : TI ≠ z
 TOz : TO ≠ z
 i1z : i1 ≠ z
 i2z : i2 ≠ z
 TITO : TI ≠ TO
 TIi1 : TI ≠ i1
 TIi2 : TI ≠ i2
 TOi1 : TO ≠ i1
 TOi2 : TO ≠ i2
 i12 : i1 ≠ i2
section
variable {X : Cx} {EX : EXS} {a b : Expr} {fa : FA} {elts : List Expr} {x1 : Nat} {tp p pos : Pos}
end
def met (is : List Int) : List Int := PyProof.Rows.firstMet (fun i => is.getD i 0) is.length
section
variable {X : Cx} {EX : EXS} {a : Expr} {f : FE} {p p' pos pos' : Pos}
end
def keyD : D → Option Key
 | .int i => some (.inl i)
 | .str x => some (.inr x)
 | _ => none
theorem v_4 {G : Hp} {d : D} {k : Key} (r : Has K G v d) (e : keyD d = some k) : v = kV k := by
 cases r <;> first | (cases e; rfl) | cases e
section
variable {α : Type}
def n_3 (kvs : List (Key × α)) (k : Key) : Option α := (kvs.find? fun kv => decide (kv.1 = k)).map (·.2)
def putA (kvs : List (Key × α)) (k : Key) (v : α) : List (Key × α) := if (kvs.any fun kv => decide (kv.1 = k)) = true then kvs.map (fun kv => if kv.1 = k then (kv.1, v) else kv) else kvs ++ [(k, v)]
def x_1 (kvs : List (Key × α)) (k : Key) : List (Key × α) := kvs.filter fun kv => decide (kv.1 ≠ k)
def hasA (kvs : List (Key × α)) (k : Key) : Bool := (n_3 kvs k).isSome
end
theorem bx_1 (kvs : List (Key × V)) (k : Key) (v : V) : z_9 kvs k v = putA kvs k v := rfl
theorem am_4 {G : Hp} : ∀ {kvs : List (Key × V)} {kds : List (Key × D)} (k : Key), kvs.map (·.1) = kds.map (·.1) → HasL K G (kvs.map (·.2)) (kds.map (·.2)) → (q_2 kvs k).isSome = hasA kds k ∧ ∀ d, n_3 kds k = some d → ∃ v, q_2 kvs k = some v ∧ Has K G v d
 | [], [], k, _, _ => ⟨rfl, fun d e => by cases e⟩
 | [], _ :: _, k, e, _ => by simp at e
 | _ :: _, [], k, e, _ => by simp at e
 | (x, v) :: kvs, (y, d) :: kds, k, e, r => by
  simp only [List.map_cons, List.cons.injEq] at e
  obtain ⟨e1, e2⟩ := e
  subst e1
  cases r with
  | cons h r =>
   obtain ⟨i1, i2⟩ := am_4 (kvs := kvs) (kds := kds) k e2 r
   by_cases q : x = k
   ·have a1 : q_2 ((x, v) :: kvs) k = some v := w_7 q
    have a2 : n_3 ((x, d) :: kds) k = some d := by unfold n_3; rw [List.find?_cons_of_pos (by simpa using q)]; rfl
    refine ⟨by unfold hasA; rw [a1, a2]; rfl, fun d' e' => ?_⟩
    rw [a2] at e'
    cases e'
    exact ⟨v, a1, h⟩
   ·have a1 : q_2 ((x, v) :: kvs) k = q_2 kvs k := w_8 q
    have a2 : n_3 ((x, d) :: kds) k = n_3 kds k := by unfold n_3; rw [List.find?_cons_of_neg (by simpa using q)]
    refine ⟨by unfold hasA at i1 ⊢; rw [a1, a2]; exact i1, fun d' e' => ?_⟩
    rw [a2] at e'
    rw [a1]
    exact i2 d' e'
theorem ap_1 {α β : Type} : ∀ {kvs : List (Key × α)} {kds : List (Key × β)} (k : Key), kvs.map (·.1) = kds.map (·.1) → (kvs.any fun kv => decide (kv.1 = k)) = kds.any fun kv => decide (kv.1 = k)
 | [], [], _, _ => rfl
 | [], _ :: _, k, e => by simp at e
 | _ :: _, [], k, e => by simp at e
 | (x, v) :: kvs, (y, d) :: kds, k, e => by
  simp only [List.map_cons, List.cons.injEq] at e
  obtain ⟨e1, e2⟩ := e
  subst e1
  rw [List.any_cons, List.any_cons, ap_1 k e2]
theorem bx_2 {G : Hp} {kvs : List (Key × V)} {kds : List (Key × D)} (k : Key) {d : D} (e : kvs.map (·.1) = kds.map (·.1)) (r : HasL K G (kvs.map (·.2)) (kds.map (·.2))) (h : Has K G v d) :
  (z_9 kvs k v).map (·.1) = (putA kds k d).map (·.1) ∧ HasL K G ((z_9 kvs k v).map (·.2)) ((putA kds k d).map (·.2)) := by
 rw [bx_1]
 unfold putA
 rw [ap_1 k e]
 split
 ·have all : ∀ {kvs : List (Key × V)} {kds : List (Key × D)}, kvs.map (·.1) = kds.map (·.1) → HasL K G (kvs.map (·.2)) (kds.map (·.2)) →
    (kvs.map (fun kv => if kv.1 = k then (kv.1, v) else kv)).map (·.1) = (kds.map (fun kv => if kv.1 = k then (kv.1, d) else kv)).map (·.1) ∧ HasL K G ((kvs.map (fun kv => if kv.1 = k then (kv.1, v) else kv)).map (·.2)) ((kds.map (fun kv => if kv.1 = k then (kv.1, d) else kv)).map (·.2)) := by
   intro kvs
   induction kvs with
   | nil =>
    intro kds e r
    cases kds with
    | nil => exact ⟨rfl, .nil⟩
    | cons _ _ => simp at e
   | cons p kvs ih =>
    intro kds e r
    cases kds with
    | nil => simp at e
    | cons q kds =>
     obtain ⟨x, u⟩ := p
     obtain ⟨y, w⟩ := q
     simp only [List.map_cons, List.cons.injEq] at e
     obtain ⟨e1, e2⟩ := e
     subst e1
     cases r with
     | cons h1 r =>
      obtain ⟨i1, i2⟩ := ih e2 r
      simp only [List.map_cons]
      by_cases z : x = k
      ·simp only [z, if_true]
       exact ⟨by rw [i1], .cons h i2⟩
      ·simp only [z, if_false]
       exact ⟨by rw [i1], .cons h1 i2⟩
  exact all e r
 ·refine ⟨by rw [List.map_append, List.map_append, e]; rfl, ?_⟩
  rw [List.map_append, List.map_append]
  exact r.append (.cons h .nil)
section
variable {X : Cx} {EX : EXS} {pos : Pos}
def ap_2 : FE := fun _ => .ok (.ow (.dic []))
theorem am_5 : ED X EX (.Dict [] [] pos) ap_2 := PE.imp bh_6 fun σ H Q ⟨G, δ, g, s, o⟩ => fun p hp =>
 o (.ref p) (fun b => b = p) G _ (Step.own g hp _) (fun a e => by subst e; exact ⟨hp, g.free hp, by rw [b_1]; simp⟩) (.dict b_1 rfl rfl .nil)
def inK (neg : Bool) : D → D → R W
 | d, .dic kvs => match keyD d with
  | some k => .ok (.sh (.bl (if neg then !hasA kvs k else hasA kvs k)))
  | none => .no
 | _, _ => .no
theorem DGet.rd {a : Addr} {kvs : List (Key × V)} {k : Key} (e : Rd H a (.dK kvs)) : DGet H a (kV k) (q_2 kvs k) := .inl ⟨kvs, k, e, rfl, rfl⟩
theorem df_5 (hu : X.A.units + 64 < cLine) : OpD X (compareOp .In) (inK false) := by
 intro zd s σ H x y v u Q I rx ry q
 obtain ⟨EX, G, a, b, g, ra, rb, o⟩ := q
 cases rb with
 | dic h hk r =>
  simp only [inK] at o
  split at o
  ·rename_i k ek
   have ex := v_4 ra ek
   subst ex
   cases ry
   refine d_in (by omega) I (DGet.rd (k := k) (Same.rdD g h)) rx fun s' I' => ⟨.bl _, H, I', rfl, ?_⟩
   rw [(am_4 k hk r).1]
   exact c_9 o g (.bl _)
  ·exact o.elim
 | _ => exact False.elim o
theorem ag_8 (hu : X.A.units + 64 < cLine) : OpD X (compareOp .NotIn) (inK true) := by
 intro zd s σ H x y v u Q I rx ry q
 obtain ⟨EX, G, a, b, g, ra, rb, o⟩ := q
 cases rb with
 | dic h hk r =>
  simp only [inK] at o
  split at o
  ·rename_i k ek
   have ex := v_4 ra ek
   subst ex
   cases ry
   refine ct_1 (by omega) I (DGet.rd (k := k) (Same.rdD g h)) rx fun s' I' => ⟨.bl _, H, I', rfl, ?_⟩
   rw [(am_4 k hk r).1]
   exact c_9 o g (.bl _)
  ·exact o.elim
 | _ => exact False.elim o
def getK : D → D → R W
 | .dic kvs, d => match keyD d with
  | some k => (match n_3 kvs k with
   | some x => .ok (.sh x)
   | none => .no)
  | none => .no
 | _, _ => .no
theorem bx_3 {o i : Expr} {f g : FE} (hu : X.A.units + 64 < cLine) (ho : ED X EX o f) (hi : ED X EX i g) (hs : NoSl i := by intro _ _; rfl) : ED X EX (.Subscript o i pos) (eOp getK f g) :=
 PE.imp (ba_7 (by omega) ho hi hs) fun σ H Q ⟨G, δ, g0, s0, o⟩ => tD.seq g0 s0 o fun w v G1 H1 _ st1 r1 o1 => tD.seq st1.gh (s0.mono st1.gg) o1 fun w2 v2 G2 H2 _ st2 r2 o2 => by
  have r1 := r1.mono st2.gg
  revert r1 o2
  cases w.d with
  | dic kvs =>
   intro o2 r1
   simp only [getK] at o2
   split at o2
   ·rename_i k ek
    split at o2
    ·rename_i x ex
     cases r1 with
     | dic h hk r =>
      obtain ⟨u, e1, e2⟩ := (am_4 k hk r).2 x ex
      have e3 := v_4 r2 ek
      subst e3
      refine ⟨_, u, rfl, ?_, c_9 o2 st2.gh e2⟩
      rw [← e1]
      exact DGet.rd (Same.rdD st2.gh h)
    ·exact o2.elim
   ·exact o2.elim
  | _ => intro o2 _; exact False.elim o2
def lenK : List D → R W
 | [.dic kvs] => .ok (.sh (.int kvs.length))
 | _ => .no
theorem cd_4 : t_9 X (.builtin "len") lenK := by
 intro zd s σ H vs us Q I rv q
 obtain ⟨EX, G, ds, g, r, o⟩ := q
 cases r with
 | nil => exact False.elim o
 | cons h t =>
  cases t with
  | cons _ _ => cases h <;> exact False.elim o
  | nil =>
   cases h with
   | dic h hk r =>
    rename_i kvs kds
    obtain ⟨u, rfl, ru⟩ := rv.one
    cases ru
    refine dk_0 I (Same.rdD g h) fun t s' I' => ⟨.int _, H, I', ⟨t, rfl⟩, ?_⟩
    have hl : kds.length = kvs.length := by
     have := congrArg List.length hk
     rw [List.length_map, List.length_map] at this
     exact this.symm
    rw [← hl]
    exact c_9 o g (.int _)
   | _ => exact False.elim o
def ae_1 (i : Nat) (js : List Nat) (fk fe : FE) : FS := fun Δ => match (gsome js Δ)[i]? with
 | some (.ow (.dic kvs)) => (match fe (vsh (gsome js Δ)) with
  | .ok w => (match fk (vall (gsome js Δ)) with
   | .ok z => (match keyD z.d with
    | some k => if kvs.length < 16777216 then .nx ((gsome js Δ).set i (.ow (.dic (putA kvs k w.d)))) else .no
    | none => .no)
   | _ => .no)
  | _ => .no)
 | _ => .no
theorem bb_8 {i : Nat} (js : List Nat) {x : Str} {e ie : Expr} {fe fk : FE} {p1 zj pos : Pos} (hu : X.A.units + 64 < cLine) (he : ED X EX e fe) (hi : ED X EX ie fk) (hN : X.N[i]? = some x := by rfl) (hv : Vis X.env.scope x := by first | exact Or.inl rfl | exact Or.inr (Or.inl rfl) | exact Or.inr (Or.inr rfl)) (hd : (x == ("__debug__" : Str)) = false := by decide)
  (hcd : (x == ("__classdict__" : Str)) = false := by decide) (hs : swapsWith e (some (.Subscript (.Name x p1) ie zj)) pos.line X.env = pure false := by rfl) :
  SD X EX (.Assign [.Subscript (.Name x p1) ie zj] e pos) (ae_1 i js fk fe) :=
 PS.imp (ba_8 (by omega) (i_9 hN hv hd hcd) hi he hs) fun D σ H ⟨H0, G0, G, Δ, O, E, q⟩ => by
  obtain ⟨G1, O1, sg, E1⟩ := E.gsome js
  unfold ae_1 at q
  generalize gsome js Δ = Δ1 at q E1
  split at q
  ·rename_i kds e1
   obtain ⟨v0, s1, t⟩ := E1.ow i _ _ e1 rfl
   obtain ⟨a, kvs, rfl, m, hH, hk, rl⟩ := t.dict_of
   refine ⟨G1, vsh Δ1, E1.st.gh, E1.gsh, ?_⟩
   cases e2 : fe (vsh Δ1) with
   | ex x => rw [e2] at q; exact q.elim
   | no => rw [e2] at q; exact q.elim
   | ok w =>
    simp only [e2] at q
    refine WP.intro fun v G' H' st r => ?_
    have E2 := E1.grow st
    refine ⟨.ref a, s1, s_1 G' H' O1, vall Δ1, E2.aH, E2.gall, ?_⟩
    cases e3 : fk (vall Δ1) with
    | ex x => simp only [e3] at q; exact q.elim
    | no => simp only [e3] at q; exact q.elim
    | ok z =>
     simp only [e3] at q
     refine WP.intro fun v2 G2 H2 st2 r2 => ?_
     split at q
     ·rename_i k ek
      split at q
      ·rename_i hl
       have e4 := v_4 r2 ek
       subst e4
       have hH2 : H2 a = some (.dK kvs) := st2.hh _ _ (st.hh _ _ hH)
       have hle : kvs.length = kds.length := by
        have := congrArg List.length hk
        rwa [List.length_map, List.length_map] at this
       obtain ⟨p1, p2⟩ := bx_2 k hk (rl.mono st.gg) r
       exact ⟨a, _, rfl, DPut.k hH2 (by rw [hle, sizeLine_eq]; exact hl), q σ G' _ _ ((E2.keep st2.hh).writeD s1 m p1 p2) (sg.trans st.gg)⟩
      ·exact q.elim
     ·exact q.elim
  ·exact q.elim
end
section
variable {K : Frag} {H0 H1 : HB} {G0 G H : Hp} {σ : Sg} {Δ : SE} {O : OS}
end
section
variable {X : Cx} {EX : EXS} {pos : Pos}
end
section
variable {X : Cx} {EX : EXS} {pos : Pos}
end
theorem df_6 (t : Tn) : Sl.any (.tr t) = some t.d := rfl
section
variable {X : Cx} {EX : EXS} {a b : Expr} {fa : FA} {p pos : Pos}
end
section
variable {K : Frag} {G H : Hp}
theorem OwL.append : ∀ {vs us : List V} {ts rs : List Tn} {S1 S2 S : AS}, OwL K G H vs ts S1 → OwL K G H us rs S2 → (∀ b, S1 b → S2 b → False) → (∀ b, S1 b → S b) → (∀ b, S2 b → S b) → OwL K G H (vs ++ us) (ts ++ rs) S
 | _, _, _, _, _, _, _, .nil, r, _, _, i2 => r.mono (Same.refl _) (fun _ _ _ q => q) i2
 | _, _, _, _, S1, S2, S, .cons (S1 := Sa) (S2 := Sb) h r dj s1 s2, q, d, i1, i2 =>
  .cons (S2 := fun b => Sb b ∨ S2 b) h (OwL.append r q (fun b z1 z2 => d b (s2 b z1) z2) (fun b z => .inl z) fun b z => .inr z) (fun b z1 z2 => by
   rcases z2 with z2 | z2
   ·exact dj b z1 z2
   ·exact d b (s1 b z1) z2) (fun b z => i1 b (s1 b z)) fun b z => by
   rcases z with z | z
   ·exact i1 b (s2 b z)
   ·exact i2 b z
end
section
variable {α : Type}
def repA : List (Key × α) → Key → α → List (Key × α)
 | [], _, _ => []
 | (x, v) :: r, k, v' => if x = k then (x, v') :: r else (x, v) :: repA r k v'
theorem ah_0 : ∀ (l : List (Key × α)) (k : Key) (v : α), (repA l k v).map (·.1) = l.map (·.1)
 | [], _, _ => rfl
 | (x, v0) :: r, k, v => by
  unfold repA
  split
  ·rfl
  ·rw [List.map_cons, List.map_cons, ah_0 r k v]
end
def unS : List (Key × Tn) → Option (List (Key × D))
 | [] => some []
 | (k, .sh d) :: r => (unS r).map ((k, d) :: ·)
 | _ => none
theorem ap_4 : ∀ {zn : List (Key × Tn)} {kds : List (Key × D)}, unS zn = some kds → zn = kds.map fun p => (p.1, Tn.sh p.2)
 | [], _, e => by cases e; rfl
 | (k, t) :: r, kds, e => by
  cases t with
  | sh d =>
   simp only [unS] at e
   cases q : unS r with
   | none => rw [q] at e; cases e
   | some l =>
    rw [q] at e
    cases e
    rw [ap_4 q]
    rfl
  | _ => cases e
theorem br_8 : ∀ kds : List (Key × D), unS (kds.map fun p => (p.1, Tn.sh p.2)) = some kds
 | [] => rfl
 | (k, d) :: r => by
  show (unS (r.map fun p => (p.1, Tn.sh p.2))).map ((k, d) :: ·) = _
  rw [br_8 r]; rfl
section
variable {K : Frag} {G H : Hp}
theorem OwL.focusK (k : Key) : ∀ {kvs : List (Key × V)} {zn : List (Key × Tn)} {S : AS} {t : Tn}, kvs.map (·.1) = zn.map (·.1) → OwL K G H (kvs.map (·.2)) (zn.map (·.2)) S → n_3 zn k = some t →
  ∃ v S1, q_2 kvs k = some v ∧ Ow K G H v t S1 ∧ (∀ b, S1 b → S b) ∧
   ∀ {H' : Hp} {t' : Tn}, (∀ b o, S b → ¬ S1 b → H b = some o → H' b = some o) → Ow K G H' v t' S1 → OwL K G H' (kvs.map (·.2)) ((repA zn k t').map (·.2)) S
 | [], [], _, _, _, _, e => by cases e
 | [], _ :: _, _, _, e, _, _ => by simp at e
 | _ :: _, [], _, _, e, _, _ => by simp at e
 | (x, v) :: kvs, (y, t0) :: zn, S, t, e, r, h => by
  simp only [List.map_cons, List.cons.injEq] at e
  obtain ⟨e1, e2⟩ := e
  subst e1
  cases r with
  | cons hh r dj s1 s2 =>
   rename_i S1 S2
   by_cases q : x = k
   ·have a2 : n_3 ((x, t0) :: zn) k = some t0 := by unfold n_3; rw [List.find?_cons_of_pos (by simpa using q)]; rfl
    rw [a2] at h
    cases h
    refine ⟨v, S1, w_7 q, hh, s1, fun {H' t'} f h' => ?_⟩
    unfold repA
    rw [if_pos q]
    exact .cons h' (r.mono (Same.refl _) (fun b o hb z => f b o (s2 b hb) (fun w => dj b w hb) z) fun _ z => z) dj s1 s2
   ·have a2 : n_3 ((x, t0) :: zn) k = n_3 zn k := by unfold n_3; rw [List.find?_cons_of_neg (by simpa using q)]
    rw [a2] at h
    obtain ⟨v', S', e1, h', i', f'⟩ := OwL.focusK k e2 r h
    refine ⟨v', S', by rw [w_8 q]; exact e1, h', fun b z => s2 b (i' b z), fun {H' t'} f h2 => ?_⟩
    unfold repA
    rw [if_neg q]
    exact .cons (hh.mono (Same.refl _) (fun b o hb z => f b o (s1 b hb) (fun w => dj b hb (i' b w)) z) fun _ z => z) (f' (fun b o hb nb z => f b o (s2 b hb) nb z) h2) dj s1 s2
end
def Sl.tree : Sl → Option (Tn × Bool)
 | .ow d => some (Tn.of d, false)
 | .tr t => some (t, false)
 | .lt t => some (t, true)
 | _ => none
def Sl.mk (b : Bool) (t : Tn) : Sl := if b then .lt t else .tr t
theorem Sl.tree_own {s : Sl} {t : Tn} {b : Bool} (e : s.tree = some (t, b)) : s.own = some t := by
 cases s <;> first | (cases e; rfl) | cases e
theorem Sl.mk_own (b : Bool) (t : Tn) : (Sl.mk b t).own = some t := by cases b <;> rfl
theorem Sl.mk_lk (b : Bool) (t : Tn) : ∀ d, Sl.mk b t ≠ .lk d := by intro d; cases b <;> (intro z; cases z)
theorem Ev.mk_lt {H0 : HB} {G0 G H : Hp} {σ : Sg} {Δ : SE} {O : OS} (E : Ev K H0 G0 G H σ Δ O) {i : Nat} {s : Sl} {t : Tn} {b : Bool} (e : Δ[i]? = some s) (q : s.tree = some (t, b)) (t' : Tn) : ∀ d, Sl.mk b t' = .lt d → σ[i]? = some (some (.ref (H0.b i))) := by
 intro d z
 cases b with
 | false => cases z
 | true =>
  cases s with
  | lt t0 => exact E.lt i t0 e
  | _ => cases q
theorem Ev.writeIn {H0 : HB} {G0 G H : Hp} {σ : Sg} {Δ : SE} {O : OS} (E : Ev K H0 G0 G H σ Δ O) {i : Nat} {s : Sl} {t t' : Tn} {b : Bool} {a : Addr} {o : HO} (e : Δ[i]? = some s) (q : s.tree = some (t, b)) (s1 : σ[i]? = some (some v)) (m : O i a) (t1 : Ow K G (upd H a o) v t' (O i)) :
  Ev K H0 G0 G (upd H a o) σ (Δ.set i (Sl.mk b t')) (setA O i (O i)) :=
 have ms := MStep.write E.st.gh m (E.out i a m).1 o
 E.step2 (Sl.mk_own b t') (Sl.mk_lk b t') (E.mk_lt e q t') ms.weak s1 (fun b hb => ⟨.inl hb, (E.out i b hb).1, ms.al b (E.out i b hb).2.2⟩) t1
theorem Ow.dic_of {G H : Hp} {zn : List (Key × Tn)} {S : AS} (t : Ow K G H v (.dic zn) S) : ∃ a kvs S1, v = .ref a ∧ S a ∧ H a = some (.dK kvs) ∧ kvs.map (·.1) = zn.map (·.1) ∧ (∀ b, S1 b → S b ∧ b ≠ a) ∧ OwL K G H (kvs.map (·.2)) (zn.map (·.2)) S1 := by
 cases t with
 | dic h hk ha sub r => exact ⟨_, _, _, rfl, ha, h, hk, sub, r⟩
section
variable {X : Cx} {EX : EXS} {pos : Pos}
def aw_9 (i : Nat) (f1 f2 fe : FE) : FS := fun Δ => match (Δ[i]?).bind Sl.tree with
 | some (.dic zn, lk) => (match fe (vsh Δ) with
  | .ok w => (match f1 (vall Δ) with
   | .ok z1 => (match keyD z1.d with
    | some k1 => (match n_3 zn k1 with
     | some (.dic kt2) => (match unS kt2 with
      | some kds => (match f2 (vall Δ) with
       | .ok z2 => (match keyD z2.d with
        | some k2 => if kds.length < 16777216 then .nx (Δ.set i (Sl.mk lk (.dic (repA zn k1 (Tn.of (.dic (putA kds k2 w.d))))))) else .no
        | none => .no)
       | _ => .no)
      | none => .no)
     | _ => .no)
    | none => .no)
   | _ => .no)
  | _ => .no)
 | _ => .no
theorem cu_9 {i : Nat} {x : Str} {e e1 e2 : Expr} {fe f1 f2 : FE} {p1 p2 zj pos : Pos} (hu : X.A.units + 64 < cLine) (he : ED X EX e fe) (h1 : ED X EX e1 f1) (h2 : ED X EX e2 f2) (hN : X.N[i]? = some x := by rfl) (hv : Vis X.env.scope x := by first | exact Or.inl rfl | exact Or.inr (Or.inl rfl) | exact Or.inr (Or.inr rfl)) (hd : (x == ("__debug__" : Str)) = false := by decide)
  (hcd : (x == ("__classdict__" : Str)) = false := by decide) (hn1 : NoSl e1 := by intro _ _; rfl) (hs : swapsWith e (some (.Subscript (.Subscript (.Name x p1) e1 p2) e2 zj)) pos.line X.env = pure false := by rfl) :
  SD X EX (.Assign [.Subscript (.Subscript (.Name x p1) e1 p2) e2 zj] e pos) (aw_9 i f1 f2 fe) :=
 PS.imp (ba_8 (by omega) (ba_7 (by omega) (i_9 hN hv hd hcd) h1 hn1) h2 he hs) fun D σ H ⟨H0, G0, G, Δ, O, E, q⟩ => by
  unfold aw_9 at q
  split at q
  ·rename_i zn lk e0
   obtain ⟨s, e1, etr⟩ := Option.bind_eq_some_iff.mp e0
   obtain ⟨v0, s1, t⟩ := E.ow i _ _ e1 (Sl.tree_own etr)
   obtain ⟨a, kvs, S1, rfl, m, hH, hk, sub, rl⟩ := t.dic_of
   refine ⟨G, vsh Δ, E.st.gh, E.gsh, ?_⟩
   cases e2 : fe (vsh Δ) with
   | ex x => simp only [e2] at q; exact q.elim
   | no => simp only [e2] at q; exact q.elim
   | ok w =>
    simp only [e2] at q
    refine WP.intro fun v G' H' st r => ?_
    have E2 := E.grow st
    refine ⟨.ref a, s1, s_1 G' H' O, vall Δ, E2.aH, E2.gall, ?_⟩
    cases e3 : f1 (vall Δ) with
    | ex x => simp only [e3] at q; exact q.elim
    | no => simp only [e3] at q; exact q.elim
    | ok z1 =>
     simp only [e3] at q
     refine WP.intro fun v1 G1 H1 st1 r1 => ?_
     split at q
     ·rename_i k1 ek1
      split at q
      ·rename_i kt2 ev
       split at q
       ·rename_i kds eu
        have hv1 := v_4 r1 ek1
        subst hv1
        have E3 := E2.keep st1.hh
        obtain ⟨vb, s1', t3⟩ := E3.ow i _ _ e1 (Sl.tree_own etr)
        obtain ⟨a', bt, S1', ea, m', hH', hk', ax, rl'⟩ := t3.dic_of
        rw [s1] at s1'
        cases s1'
        cases ea
        obtain ⟨vc, Sc, ec, tc, ic, fc⟩ := OwL.focusK k1 hk' rl' ev
        have tc' := tc
        rw [ap_4 eu] at tc'
        obtain ⟨c, kvc, rfl, mc, hHc, hkc, rlc⟩ := Ow.dict_of (kds := kds) tc'
        refine ⟨a, .ref c, rfl, ?_, ?_⟩
        ·exact Or.inl ⟨bt, k1, .inl hH', rfl, ec.symm⟩
        refine ⟨s_1 G' H1 O, vall Δ, E3.aH, E3.gall, ?_⟩
        cases e4 : f2 (vall Δ) with
        | ex x => simp only [e4] at q; exact q.elim
        | no => simp only [e4] at q; exact q.elim
        | ok z2 =>
         simp only [e4] at q
         refine WP.intro fun v2 G2 H2 st2 r2 => ?_
         split at q
         ·rename_i k2 ek2
          split at q
          ·rename_i hl
           have hv2 := v_4 r2 ek2
           subst hv2
           have E4 := E3.keep st2.hh
           have bg : H2 c = some (.dK kvc) := st2.hh _ _ hHc
           have hle : kvc.length = kds.length := by
            have := congrArg List.length hkc
            rwa [List.length_map, List.length_map] at this
           obtain ⟨p1, p2⟩ := bx_2 k2 hkc rlc r
           have hca : c ≠ a := (ax c (ic c mc)).2
           refine ⟨c, _, rfl, DPut.k bg (by rw [hle, sizeLine_eq]; exact hl), q σ G' _ _ (E4.writeIn e1 etr s1 (ax c (ic c mc)).1 ?_) st.gg⟩
           refine Ow.dic (S1 := S1') (by rw [a_8 (Ne.symm hca)]; exact st2.hh _ _ hH') (by rw [ah_0]; exact hk') m' ax ?_
           refine fc (fun b o hb nb z => ?_) (Ow.dict b_1 p1 mc p2)
           rw [a_8 (show b ≠ c from fun w => nb (by rw [w]; exact mc))]
           exact st2.hh _ _ z
          ·exact q.elim
         ·exact q.elim
       ·exact q.elim
      ·exact q.elim
     ·exact q.elim
  ·exact q.elim
end
theorem bi_9 {G : Hp} (k : Key) : ∀ {kvs : List (Key × V)} {kds : List (Key × D)}, kvs.map (·.1) = kds.map (·.1) → HasL K G (kvs.map (·.2)) (kds.map (·.2)) → (m_3 kvs k).map (·.1) = (x_1 kds k).map (·.1) ∧ HasL K G ((m_3 kvs k).map (·.2)) ((x_1 kds k).map (·.2))
 | [], [], _, _ => ⟨rfl, .nil⟩
 | [], _ :: _, e, _ => by simp at e
 | _ :: _, [], e, _ => by simp at e
 | (x, v) :: kvs, (y, d) :: kds, e, r => by
  simp only [List.map_cons, List.cons.injEq] at e
  obtain ⟨e1, e2⟩ := e
  subst e1
  cases r with
  | cons h r =>
   obtain ⟨i1, i2⟩ := bi_9 k (kvs := kvs) (kds := kds) e2 r
   by_cases q : x = k
   ·have a1 : m_3 ((x, v) :: kvs) k = m_3 kvs k := cc_7 q
    have a2 : x_1 ((x, d) :: kds) k = x_1 kds k := by unfold x_1; rw [List.filter_cons_of_neg (by simpa using q)]
    rw [a1, a2]
    exact ⟨i1, i2⟩
   ·have a1 : m_3 ((x, v) :: kvs) k = (x, v) :: m_3 kvs k := aw_0 q
    have a2 : x_1 ((x, d) :: kds) k = (x, d) :: x_1 kds k := by unfold x_1; rw [List.filter_cons_of_pos (by simpa using q)]
    rw [a1, a2]
    exact ⟨by rw [List.map_cons, List.map_cons, i1], .cons h i2⟩
section
variable {X : Cx} {EX : EXS} {pos : Pos}
def bx_4 (i : Nat) (f1 f2 : FE) : FS := fun Δ => match (Δ[i]?).bind Sl.tree with
 | some (.dic zn, lk) => (match f1 (vall Δ) with
   | .ok z1 => (match keyD z1.d with
    | some k1 => (match n_3 zn k1 with
     | some (.dic kt2) => (match unS kt2 with
      | some kds => (match f2 (vall Δ) with
       | .ok z2 => (match keyD z2.d with
        | some k2 => .nx (Δ.set i (Sl.mk lk (.dic (repA zn k1 (Tn.of (.dic (x_1 kds k2)))))))
        | none => .no)
       | _ => .no)
      | none => .no)
     | _ => .no)
    | none => .no)
   | _ => .no)
 | _ => .no
theorem cv_0 {i : Nat} {x : Str} {e1 e2 : Expr} {f1 f2 : FE} {j : Nat} {p1 p2 p3 zh zf pos : Pos} (hu : X.A.units + 64 < cLine) (h1 : ED X EX e1 f1) (h2 : ED X EX e2 f2) (hN : X.N[i]? = some x := by rfl) (hv : Vis X.env.scope x := by first | exact Or.inl rfl | exact Or.inr (Or.inl rfl) | exact Or.inr (Or.inr rfl)) (hd : (x == ("__debug__" : Str)) = false := by decide)
  (hcd : (x == ("__classdict__" : Str)) = false := by decide) (hn1 : NoSl e1 := by intro _ _; rfl) (hm : M2 X (.Subscript (.Name x p1) e1 p2) "pop" zh e2 (.Constant .none j p3) zf := by exact ⟨rfl, rfl, rfl, rfl⟩)
  (hs : swapsWith (.Call (.Attribute (.Subscript (.Name x p1) e1 p2) "pop" zh) [e2, .Constant .none j p3] [] zf) none pos.line X.env = pure false := by rfl) :
  SD X EX (.Expr (.Call (.Attribute (.Subscript (.Name x p1) e1 p2) "pop" zh) [e2, .Constant .none j p3] [] zf) pos) (bx_4 i f1 f2) :=
 PS.imp (ac_9 (cj_4 (ba_7 (by omega) (i_9 hN hv hd hcd) h1 hn1) h2 cg_8 hm) hs) fun D σ H ⟨H0, G0, G, Δ, O, E, q⟩ => by
  unfold bx_4 at q
  split at q
  ·rename_i zn lk e0
   obtain ⟨s, e1, etr⟩ := Option.bind_eq_some_iff.mp e0
   obtain ⟨v0, s1, t⟩ := E.ow i _ _ e1 (Sl.tree_own etr)
   obtain ⟨a, kvs, S1, rfl, m, hH, hk, sub, rl⟩ := t.dic_of
   refine ⟨.ref a, s1, s_1 G H O, vall Δ, E.aH, E.gall, ?_⟩
   cases e3 : f1 (vall Δ) with
   | ex x => simp only [e3] at q; exact q.elim
   | no => simp only [e3] at q; exact q.elim
   | ok z1 =>
    simp only [e3] at q
    refine WP.intro fun v1 G1 H1 st1 r1 => ?_
    split at q
    ·rename_i k1 ek1
     split at q
     ·rename_i kt2 ev
      split at q
      ·rename_i kds eu
       have hv1 := v_4 r1 ek1
       subst hv1
       have E3 := E.keep st1.hh
       obtain ⟨vb, s1', t3⟩ := E3.ow i _ _ e1 (Sl.tree_own etr)
       obtain ⟨a', bt, S1', ea, m', hH', hk', ax, rl'⟩ := t3.dic_of
       rw [s1] at s1'
       cases s1'
       cases ea
       obtain ⟨vc, Sc, ec, tc, ic, fc⟩ := OwL.focusK k1 hk' rl' ev
       have tc' := tc
       rw [ap_4 eu] at tc'
       obtain ⟨c, kvc, rfl, mc, hHc, hkc, rlc⟩ := Ow.dict_of (kds := kds) tc'
       refine ⟨a, .ref c, rfl, Or.inl ⟨bt, k1, .inl hH', rfl, ec.symm⟩, c, rfl, .inl ⟨kvc, .inl hHc⟩, ?_⟩
       refine ⟨s_1 G H1 O, vall Δ, E3.aH, E3.gall, ?_⟩
       cases e4 : f2 (vall Δ) with
       | ex x => simp only [e4] at q; exact q.elim
       | no => simp only [e4] at q; exact q.elim
       | ok z2 =>
        simp only [e4] at q
        refine WP.intro fun v2 G2 H2 st2 r2 => ?_
        split at q
        ·rename_i k2 ek2
         have hv2 := v_4 r2 ek2
         subst hv2
         have E4 := E3.keep st2.hh
         have bg : H2 c = some (.dK kvc) := st2.hh _ _ hHc
         have hca : c ≠ a := (ax c (ic c mc)).2
         obtain ⟨p1, p2⟩ := bi_9 k2 hkc rlc
         have fin : ∀ o : HO, o = .dK (m_3 kvc k2) → D.nx σ (upd H2 c o) := fun o eo => by
          subst eo
          refine q σ G _ _ (E4.writeIn e1 etr s1 (ax c (ic c mc)).1 ?_) (Same.refl _)
          refine Ow.dic (S1 := S1') (by rw [a_8 (Ne.symm hca)]; exact st2.hh _ _ hH') (by rw [ah_0]; exact hk') m' ax ?_
          refine fc (fun b o hb nb z => ?_) (Ow.dict b_1 p1 mc p2)
          rw [a_8 (show b ≠ c from fun w => nb (by rw [w]; exact mc))]
          exact st2.hh _ _ z
         refine ⟨kvc, k2, bg, rfl, fun v _ => fin _ rfl, fun en => ?_⟩
         have : H2 = upd H2 c (.dK (m_3 kvc k2)) := by
          rw [bh_7 (cj_5 en)]
          funext b
          by_cases z : b = c
          ·rw [z, b_1, bg]
          ·rw [a_8 z]
         show D.nx σ H2
         rw [this]
         exact fin _ rfl
        ·exact q.elim
      ·exact q.elim
     ·exact q.elim
    ·exact q.elim
  ·exact q.elim
def ax_0 (i : Nat) (f1 : FE) : FS := fun Δ => match (Δ[i]?).bind Sl.tree with
 | some (.dic zn, lk) => (match f1 (vall Δ) with
   | .ok z1 => (match keyD z1.d with
    | some k1 => if (n_3 zn k1).isSome then .no else if zn.length < 16777216 then .nx (Δ.set i (Sl.mk lk (.dic (zn ++ [(k1, .dic [])])))) else .no
    | none => .no)
   | _ => .no)
 | _ => .no
theorem cv_1 {i : Nat} {x : Str} {e1 : Expr} {f1 : FE} {p1 p2 zj pos : Pos} (hu : X.A.units + 64 < cLine) (h1 : ED X EX e1 f1) (hN : X.N[i]? = some x := by rfl) (hv : Vis X.env.scope x := by first | exact Or.inl rfl | exact Or.inr (Or.inl rfl) | exact Or.inr (Or.inr rfl)) (hd : (x == ("__debug__" : Str)) = false := by decide)
  (hcd : (x == ("__classdict__" : Str)) = false := by decide) (hs : swapsWith (.Dict [] [] p2) (some (.Subscript (.Name x p1) e1 zj)) pos.line X.env = pure false := by rfl) :
  SD X EX (.Assign [.Subscript (.Name x p1) e1 zj] (.Dict [] [] p2) pos) (ax_0 i f1) :=
 PS.imp (ba_8 (by omega) (i_9 hN hv hd hcd) h1 bh_6 hs) fun D σ H ⟨H0, G0, G, Δ, O, E, q⟩ => by
  unfold ax_0 at q
  split at q
  ·rename_i zn lk e0
   obtain ⟨s, e1, etr⟩ := Option.bind_eq_some_iff.mp e0
   intro p hp
   have E1 := E.keep (i_1 hp (.dK []))
   obtain ⟨v0, s1, t⟩ := E1.ow i _ _ e1 (Sl.tree_own etr)
   obtain ⟨a, kvs, S1, rfl, m, hH, hk, sub, rl⟩ := t.dic_of
   refine ⟨.ref a, s1, s_1 G (upd H p (.dK [])) O, vall Δ, E1.aH, E1.gall, ?_⟩
   cases e3 : f1 (vall Δ) with
   | ex x => simp only [e3] at q; exact q.elim
   | no => simp only [e3] at q; exact q.elim
   | ok z1 =>
    simp only [e3] at q
    refine WP.intro fun v1 G1 H1 st1 r1 => ?_
    split at q
    ·rename_i k1 ek1
     split at q
     ·exact q.elim
     ·rename_i hno
      split at q
      ·rename_i hl
       have hv1 := v_4 r1 ek1
       subst hv1
       have E3 := E1.keep st1.hh
       have hH1 : H1 a = some (.dK kvs) := st1.hh _ _ hH
       have hp1 : H1 p = some (.dK []) := st1.hh _ _ b_1
       have hle : kvs.length = zn.length := by
        have := congrArg List.length hk
        rwa [List.length_map, List.length_map] at this
       have npO : ∀ j b, O j b → b ≠ p := fun j b hb z => (E.out j b hb).2.2 (by rw [z]; exact hp)
       have hap : a ≠ p := npO i a m
       refine ⟨a, _, rfl, DPut.k hH1 (by rw [hle, sizeLine_eq]; exact hl), ?_⟩
       have dz : (kvs.any fun kv => decide (kv.1 = k1)) = false := by
        rw [ap_1 k1 hk]
        cases h : zn.any fun kv => decide (kv.1 = k1) with
        | false => rfl
        | true =>
         exfalso
         apply hno
         unfold n_3
         rw [Option.isSome_map, List.find?_isSome]
         exact List.any_eq_true.mp h
       have dw : z_9 kvs k1 (.ref p) = kvs ++ [(k1, .ref p)] := by
        rw [bx_1]; unfold putA; rw [dz]; rfl
       rw [dw]
       have Gp : G p = none := E.st.gh.free hp
       have old : ∀ b o, H b = some o → H1 b = some o := fun b o z => st1.hh _ _ (i_1 hp _ b o z)
       have ms : MStep2 (O i) G H G (upd H1 a (.dK (kvs ++ [(k1, .ref p)]))) := ⟨fun b o nb z => by rw [a_8 (fun w => nb (by rw [w]; exact m))]; exact old b o z, fun b o z => by
        have : b ≠ a := fun w => by rw [w, (E.out i a m).1] at z; cases z
        rw [a_8 this]; exact old b o (E.st.gh b o z), Same.refl _, fun b _ z _ => z⟩
       refine q σ G _ _ (E.step2 (S := fun b => O i b ∨ b = p) (Sl.mk_own lk _) (Sl.mk_lk lk _) (E.mk_lt e1 etr _) ms s1 (fun b hb => ?_) ?_) (Same.refl _)
       ·rcases hb with hb | hb
        ·refine ⟨.inl hb, (E.out i b hb).1, ?_⟩
         by_cases w : b = a
         ·rw [w, b_1]; simp
         ·rw [a_8 w]
          cases e : H b with
          | none => exact absurd e (E.out i b hb).2.2
          | some o => rw [old b o e]; simp
        ·subst hb
         exact ⟨.inr hp, Gp, by rw [a_8 (Ne.symm hap), hp1]; simp⟩
       ·refine Ow.dic (S1 := fun b => S1 b ∨ b = p) b_1 (by rw [List.map_append, List.map_append, hk]; rfl) (.inl m) (fun b hb => ?_) ?_
        ·rcases hb with hb | hb
         ·exact ⟨.inl (sub b hb).1, (sub b hb).2⟩
         ·subst hb; exact ⟨.inr rfl, Ne.symm hap⟩
        ·rw [List.map_append, List.map_append]
         refine OwL.append (S2 := fun b => b = p) (rl.mono (Same.refl _) (fun b o hb z => ?_) fun _ z => z) (.cons (S1 := fun b => b = p) (S2 := fun _ => False) (.dic (S1 := fun _ => False) (by rw [a_8 (Ne.symm hap)]; exact hp1) rfl rfl (fun _ z => z.elim) .nil) .nil (fun _ _ z => z) (fun _ z => z) fun _ z => z.elim) (fun b z1 z2 => npO i b (sub b z1).1 z2) (fun b z => .inl z) fun b z => .inr z
         rw [a_8 (sub b hb).2]
         exact st1.hh _ _ z
      ·exact q.elim
    ·exact q.elim
  ·exact q.elim
end
def kD : Key → D
 | .inl i => .int i
 | .inr x => .str x
theorem df_7 {G : Hp} (k : Key) : Has K G (kV k) (kD k) := by cases k <;> constructor
theorem bx_5 {G : Hp} : ∀ ks : List Key, HasL K G (ks.map kV) (ks.map kD)
 | [] => .nil
 | k :: ks => .cons (df_7 k) (bx_5 ks)
theorem cl_3 {w : World} {k : Key} {u : Value} (h : (e_6 P w).is k u = true) : RelV (kV k) u := by
 rcases f_0 h with ⟨i, t, rfl, rfl⟩ | ⟨x, t, rfl, rfl⟩
 ·exact ⟨t, rfl⟩
 ·exact ⟨t, rfl⟩
theorem ax_1 {w : World} : ∀ {kvs : List (Key × V)} {vs : List (Key × Value)} {us : List Value}, KV kvs vs → us.length = vs.length → (∀ (j : Nat) v, us[j]? = some v → ∃ k x, vs[j]? = some (k, x) ∧ (e_6 P w).is k v = true) → Vals ((kvs.map (·.1)).map kV) us
 | [], vs, us, r, hl, _ => by
  have := r.length
  simp at this
  have : us = [] := List.eq_nil_of_length_eq_zero (by omega)
  subst this
  exact .nil
 | (k, v) :: kvs, vs, us, r, hl, h => by
  cases r with
  | cons h1 r =>
   rename_i q vs
   obtain ⟨k', x⟩ := q
   cases us with
   | nil => simp at hl
   | cons u us =>
    obtain ⟨k2, x2, e, i⟩ := h 0 u rfl
    have e : (k', x) = (k2, x2) := by simpa using e
    cases e
    have e1 : k = k' := h1.1
    subst e1
    exact .cons (cl_3 i) (ax_1 r (by simpa using hl) fun j v e => by
     obtain ⟨a, b, c, d⟩ := h (j + 1) v (by simpa using e)
     exact ⟨a, b, by simpa using c, d⟩)
section
variable {X : Cx} {EX : EXS} {pos : Pos}
def bx_6 : List D → R W
 | [.dic kvs] => .ok (.ow (.lst (kvs.map fun p => kD p.1)))
 | _ => .no
theorem br_9 (hc : X.calm = true) : t_9 X (.type "list") bx_6 := by
 intro zd s σ H vs us Q I rv q
 obtain ⟨EX, G, ds, g, r, o⟩ := q
 cases r with
 | nil => exact False.elim o
 | cons h t =>
  cases t with
  | cons _ _ => cases h <;> exact False.elim o
  | nil =>
   cases h with
   | dic h hk r =>
    rename_i kvs kds
    obtain ⟨u, rfl, ru⟩ := rv.one
    cases ru
    obtain ⟨z, lo, ws, kv, dd⟩ := ad_5 I.hok (Same.rdD g h)
    obtain ⟨ep, da⟩ := dd.dictAt
    refine kdl_call (kdl_dict lo) (I.ok.hd hc) da (by rw [← kv.length]; exact z) fun h' tk zp c kk hat it => ?_
    have rv' : Vals ((kvs.map (·.1)).map kV) zp.toList := ax_1 kv (by rw [Array.length_toList]; exact it.1) fun j v e => it.2 j v (by rw [← Array.getElem?_toList]; exact e)
    have fr := I.hok.fresh (Nat.le_refl _)
    refine ⟨.ref _, upd H _ (.lst _), I.laid (t' := tk) kk (Nat.le_refl _) ⟨?_, zp.toList, c, rv', by simpa using hat⟩, rfl, ?_⟩
    ·rw [List.length_map, List.length_map]; exact z
    ·have e : (kds.map fun p => kD p.1) = (kvs.map (·.1)).map kD := by rw [hk, List.map_map]; rfl
     have o' : Out X.K EX G H (.ok (.ow (.lst ((kvs.map (·.1)).map kD)))) Q := by rw [← e]; exact o
     exact y_9 o' g (bx_5 _) _ fr
   | _ => exact False.elim o
def minK : List D → R W
 | [.dic kvs] => (match kvs with
  | [(.inl i, _)] => .ok (.sh (.int i))
  | _ => .no)
 | _ => .no
theorem cd_6 (hc : X.calm = true) : t_9 X (.builtin "min") minK := by
 intro zd s σ H vs us Q I rv q
 obtain ⟨EX, G, ds, g, r, o⟩ := q
 cases r with
 | nil => exact False.elim o
 | cons h t =>
  cases t with
  | cons _ _ => cases h <;> exact False.elim o
  | nil =>
   cases h with
   | dic h hk r =>
    rename_i kvs kds
    cases kds with
    | nil => exact False.elim o
    | cons p kds =>
     obtain ⟨k, d⟩ := p
     cases k with
     | inr x => exact False.elim o
     | inl i =>
      cases kds with
      | cons _ _ => exact False.elim o
      | nil =>
       obtain ⟨u, rfl, ru⟩ := rv.one
       cases ru
       obtain ⟨z, lo, ws, kv, dd⟩ := ad_5 I.hok (Same.rdD g h)
       obtain ⟨ep, da⟩ := dd.dictAt
       have hws : ∃ x, ws = [(.inl i, x)] := by
        have e1 := kv.keys
        rw [hk] at e1
        cases ws with
        | nil => simp at e1
        | cons q ws =>
         cases ws with
         | cons _ _ => simp at e1
         | nil =>
          obtain ⟨k', x⟩ := q
          have : (.inl i : Key) = k' := by simpa using e1
          subst this
          exact ⟨x, rfl⟩
       obtain ⟨x, rfl⟩ := hws
       obtain ⟨oI, St, hit, W, st⟩ := (kdl_dict (knd := e_6 X.prog X.w) lo).iter X.A.in1 s (I.ok.hd hc) da
       refine call_min_walk (hit _ _ ⟨_, _, _, _, _, _, fun a b => decide ((fun _ => i) a < (fun _ => i) b), rfl, W, st, fun b hb => ?_, Nat.zero_lt_one, CmpOf.ints_lt (fun _ => i) (fun j v hj => ?_), fun v h' tk hP hk' => ?_⟩)
       ·show b < (s.heap.push oI).objs.size
        rw [Heap.size_push]
        rcases List.mem_cons.mp hb with e | hb
        ·rw [e]; exact Nat.lt_succ_self _
        ·rw [List.mem_singleton.mp hb]; exact Nat.lt_succ_of_lt da.lt_size
       ·obtain ⟨k, y, e1, e2⟩ := hj
        cases j with
        | zero =>
         cases e1
         exact cl_3 e2
        | succ j => simp at e1
       ·obtain ⟨k, y, e1, e2⟩ := hP
        have e1 : ((.inl i, x) : Key × Value) = (k, y) := by simpa [argBest] using e1
        cases e1
        obtain ⟨t, rfl⟩ := cl_3 e2
        have old : ∀ b o, s.heap.get? b = some o → h'.get? b = some o := fun b o e =>
         hk' b o (fun hm => absurd (Heap.lt_size e) (by rw [List.mem_singleton.mp hm]; exact Nat.lt_irrefl _)) (Heap.get?_push_of_some _ e)
        exact ⟨.int i, H, I.kept (t' := tk) old, ⟨t, rfl⟩, c_9 o g (.int _)⟩
   | _ => exact False.elim o
end
theorem bs_0 (l b : Addr) (xs ys : Array Value) (n m : Nat) (dd : Option Addr) (sl : Array (Option Value)) (h0 : ¬ (!xs.isEmpty && Builtin.List.listTooLong (xs.size + ys.size)) = true) (h1 : xs.size ≤ sizeLine) (h2 : xs.size + ys.size ≤ sizeLine + 1) :
  Meets (Builtin.«list.extend» ⟨[.ref l, .ref b], []⟩) (fun _ R s => s.heap.get? l = some { cls := .type "list", data := .seq xs n } ∧ s.heap.get? b = some ⟨.type "tuple", dd, .seq ys m, sl⟩ ∧
   R (.ok (.ret Value.none)) { s with heap := s.heap.update l (Obj.mapSeq fun z => z ++ ys), toks := s.toks }) :=
 .of_wp fun prog w A R s h => by
  obtain ⟨hp, g, d, tk, os⟩ := s
  obtain ⟨ha, hc, h⟩ := h
  have g1 := AutoSeq1.idx_int
  have g2 := AutoSeq1.sub_tuple_tuple
  have g3 := AutoSeq1.sub_list_list
  have g4 := AutoSeq1.sub_tuple_list
  have g5 := AutoSeq1.sub_list_tuple
  have hz : (xs ++ ys).size ≤ sizeLine + 1 := by rw [Array.size_append]; exact h2
  wp_walk using (wpAny_updateSeq ha rfl (hz := h1) (_hz' := hz)), wpAny_loadPart' ha, wpAny_loadPart' hc
  exact ⟨_, rfl, h⟩
section
variable {X : Cx} {EX : EXS} {pos : Pos}
def dk_8 (K : Frag) : V → List V → Hp → VK → Prop := fun x vs H Q => ∃ l b xs zs, x = .ref l ∧ vs = [.ref b] ∧ H l = some (.lst xs) ∧ SqT K H b zs ∧ xs.length + zs.length ≤ sizeLine ∧ Q .non (upd H l (.lst (xs ++ zs)))
theorem cv_2 : MtM X "list.extend" (dk_8 X.K) := by
 intro zd s σ H x vs v us Q I rx rv h
 obtain ⟨l, b, xs, zs, rfl, rfl, hH, hB, hz, q⟩ := h
 cases rx
 obtain ⟨u, rfl, ru⟩ := rv.one
 cases ru
 obtain ⟨z, its, n, r, hl, e⟩ := I.lstM hH
 obtain ⟨its2, r2, ⟨o, e2, c2, n2, dat⟩, z2⟩ := I.tuple hB
 have hl2 := r2.length
 obtain ⟨cls, dd, data, sl⟩ := o
 simp only at c2 dat
 subst c2 dat
 have hsz : its.toArray.size + its2.toArray.size ≤ sizeLine := by rw [List.size_toArray, List.size_toArray]; omega
 have av : ¬ (!its.toArray.isEmpty && Builtin.List.listTooLong (its.toArray.size + its2.toArray.size)) = true := by
  rw [bh_1 hsz, Bool.and_false]; simp
 refine call_meets PySem.F.slot_list_extend ⟨_, e, rfl⟩ PySem.F.entry_list_extend (PySem.F.args_list_extend_2 _ _) (bs_0 l b its.toArray its2.toArray n n2 dd sl av (by rw [List.size_toArray]; omega) (by omega)) ⟨e, e2, ?_⟩
 refine ⟨.non, _, I.lset (its' := its ++ its2) hH e (by simp) (r.append r2) ?_, rfl, q⟩
 rw [List.length_append]
 omega
def sExt (i : Nat) (f : FE) : FS := fun Δ => match Δ[i]? with
 | some (.ow (.lst ds)) => (match f (vsh Δ) with
  | .ok w => (match w.d with
   | .tup es => if ds.length + es.length ≤ 16777216 then .nx (Δ.set i (.ow (.lst (ds ++ es)))) else .no
   | _ => .no)
  | _ => .no)
 | _ => .no
theorem df_8 {i : Nat} {x : Str} {e : Expr} {f : FE} {p1 zh zf : Pos} (he : ED X EX e f) (hN : X.N[i]? = some x := by rfl) (hv : Vis X.env.scope x := by first | exact Or.inl rfl | exact Or.inr (Or.inl rfl) | exact Or.inr (Or.inr rfl)) (hd : (x == ("__debug__" : Str)) = false := by decide)
  (hcd : (x == ("__classdict__" : Str)) = false := by decide) (hsw : swapsWith (.Call (.Attribute (.Name x p1) "extend" zh) [e] [] zf) none pos.line X.env = pure false := by rfl)
  (ae : attributeBase (.Name x p1) "extend" X.env (eval (.Name x p1) X.env) = eval (.Name x p1) X.env := by rfl)
  (au : ((backTo zf (starEach [e] X.env)).all (fun x => !x.1) && (backToKw zf (keywordEach [] X.env)).all (fun x => x.1.isSome)
   && decide ([e].length + ([] : List Keyword).length + (if ([] : List Keyword).isEmpty then 0 else 1) < 30)) = true := by rfl)
  (af : (zh.endLine == zf.line) = true := by rfl) (hs : starEach [e] X.env = (false, eval e X.env) :: starEach [] X.env := by rfl) (aa : (backTo zf (starEach [] X.env)).any (·.1) = false := by rfl) :
  SD X EX (.Expr (.Call (.Attribute (.Name x p1) "extend" zh) [e] [] zf) pos) (sExt i f) :=
 PS.imp (ac_9 (ci_2 PySem.F.plainAttrs_list PySem.F.slot_list_extend PySem.F.type_list_extend cv_2 (i_9 hN hv hd hcd) (e_4 he n_9 hs) ae au af hs aa) hsw) fun D σ H ⟨H0, G0, G, Δ, O, E, q⟩ => by
  unfold sExt at q
  split at q
  ·rename_i ds e1
   obtain ⟨v0, s1, t⟩ := E.ow i _ _ e1 rfl
   obtain ⟨a, vs, rfl, m, hH, rl⟩ := t.list_of
   refine ⟨.ref a, s1, .inl ⟨rfl, _, SqL.of hH⟩, G, vsh Δ, E.st.gh, E.gsh, ?_⟩
   cases e2 : f (vsh Δ) with
   | ex x => simp only [e2] at q; exact q.elim
   | no => simp only [e2] at q; exact q.elim
   | ok w =>
    simp only [e2] at q
    refine WP.intro fun v G' H' st r => ?_
    revert q r
    cases w.d with
    | tup es =>
     intro q r
     simp only at q
     split at q
     ·rename_i hz
      cases r with
      | tup h r => exact ⟨a, _, vs, _, rfl, rfl, st.hh _ _ hH, Same.tupS st.gh h, by rw [rl.length, r.length, sizeLine_eq]; exact hz, q σ G' _ _ ((E.grow st).writeL s1 m ((rl.mono st.gg).append r)) st.gg⟩
     ·exact q.elim
    | _ => intro q _; exact False.elim q
  ·exact q.elim
def bj_0 (i j : Nat) : FS := fun Δ => match Δ[j]? with
 | some (.ow (.lst ds)) => (match ds[ds.length - 1]? with
  | some d => .nx ((Δ.set j (.ow (.lst ds.dropLast))).set i (.sh d))
  | none => .no)
 | _ => .no
theorem HasL.dropLast {G : Hp} {ds : List D} (h : HasL K G vs ds) : HasL K G vs.dropLast ds.dropLast := by
 rw [List.dropLast_eq_take, List.dropLast_eq_take, h.length]
 exact h.take _
theorem cv_4 {i j : Nat} {x y : Str} {p1 p2 zh zf : Pos} (hN : X.N.Nodup) (hi : X.N[i]? = some x := by rfl) (hx : Loc X.env.scope x := by first | exact Or.inl rfl | exact Or.inr rfl) (hj : X.N[j]? = some y := by rfl) (hv : Vis X.env.scope y := by first | exact Or.inl rfl | exact Or.inr (Or.inl rfl) | exact Or.inr (Or.inr rfl)) (hd : (y == ("__debug__" : Str)) = false := by decide)
  (hcd : (y == ("__classdict__" : Str)) = false := by decide) (hs : swapsWith (.Call (.Attribute (.Name y p1) "pop" zh) [] [] zf) (some (.Name x p2)) pos.line X.env = pure false := by rfl)
  (hf : X.fn x = true ∨ X.env.scope.names.lookup x = some .local := by first | exact .inl rfl | exact .inr rfl | assumption)
  (ae : attributeBase (.Name y p1) "pop" X.env (eval (.Name y p1) X.env) = eval (.Name y p1) X.env := by rfl) (af : (zh.endLine == zf.line) = true := by rfl) :
  SD X EX (.Assign [.Name x p2] (.Call (.Attribute (.Name y p1) "pop" zh) [] [] zf) pos) (bj_0 i j) :=
 PS.imp (bp_1 hN hi hx (dd_5 PySem.F.plainAttrs_list PySem.F.slot_list_pop PySem.F.type_list_pop dd_6 (i_9 hj hv hd hcd) ae af) hs hf) fun D σ H ⟨H0, G0, G, Δ, O, E, q⟩ => by
  unfold bj_0 at q
  split at q
  ·rename_i ds e1
   obtain ⟨v0, s1, t⟩ := E.ow j _ _ e1 rfl
   obtain ⟨a, vs, rfl, m, hH, rl⟩ := t.list_of
   split at q
   ·rename_i d e2
    rw [← rl.length] at e2
    obtain ⟨v, e3, hv⟩ := rl.get e2
    exact ⟨.ref a, s1, .inl ⟨rfl, _, SqL.of hH⟩, a, vs, v, rfl, rfl, hH, e3, q _ G _ _ ((E.writeL s1 m rl.dropLast).put hv) (Same.refl _)⟩
   ·exact q.elim
  ·exact q.elim
theorem HasL.eraseIdx {G : Hp} : ∀ {vs : List V} {ds : List D} (n : Nat), HasL K G vs ds → HasL K G (vs.eraseIdx n) (ds.eraseIdx n)
 | _, _, _, .nil => .nil
 | _, _, 0, .cons _ r => r
 | _, _, n + 1, .cons h r => .cons h (HasL.eraseIdx n r)
def bj_1 (i : Nat) (f : FE) : FS := fun Δ => match f (vall Δ) with
 | .ok (.ow (.lst ds)) => if ds.all flatD = true then .nx (Δ.set i (.ow (.lst ds))) else .no
 | _ => .no
theorem HasL.ofFl {G G' : Hp} : ∀ {vs : List V} {ds : List D}, HasL K G vs ds → ds.all flatD = true → HasL K G' vs ds
 | _, _, .nil, _ => .nil
 | _, _, .cons h r, f => by
  rw [List.all_cons, Bool.and_eq_true] at f
  exact .cons (h.ofFl f.1) (HasL.ofFl r f.2)
theorem cv_5 {i : Nat} {x : Str} {e : Expr} {f : FE} {pos' : Pos} (he : ED X EX e f) (hN : X.N.Nodup) (hi : X.N[i]? = some x := by rfl) (hx : Loc X.env.scope x := by first | exact Or.inl rfl | exact Or.inr rfl) (hs : swapsWith e (some (.Name x pos')) pos.line X.env = pure false := by rfl)
  (hf : X.fn x = true ∨ X.env.scope.names.lookup x = some .local := by first | exact .inl rfl | exact .inr rfl | assumption) : SD X EX (.Assign [.Name x pos'] e pos) (bj_1 i f) :=
 PS.imp (bp_1 hN hi hx he hs hf) fun D σ H ⟨H0, G0, G, Δ, O, E, q⟩ => by
  unfold bj_1 at q
  refine ⟨s_1 G H O, vall Δ, E.aH, E.gall, ?_⟩
  split at q
  ·rename_i ds e1
   split at q
   ·rename_i fl
    rw [e1]
    intro v S G' H' st fr t
    obtain ⟨a, vs, rfl, m, hH, rl⟩ := t.list_of
    have nG : G a = none := E.st.gh.free (fr a m).1
    refine q _ G H' _ ((E.keep st.hh).putO (S := fun b => b = a) (fun b hb => ?_) rfl (fun _ z => by cases z) (Ow.list hH rfl (rl.ofFl fl)) fun j b hj hb => ?_) (Same.refl _)
    ·subst hb
     exact ⟨E.st.hh.free (fr b m).1, nG, by rw [hH]; simp⟩
    ·subst hb
     exact (E.out j b hj).2.2 (fr b m).1
   ·exact q.elim
  ·exact q.elim
end
def bb_9 (n : Nat) (ds : List D) (t : Tn) : SE := (start3 n ds).set ds.length (.lt t)
def bj_2 (n : Nat) (g : FS) (ds : List D) (t : Tn) : Option Tn := match g (bb_9 n ds t) with
 | .nx Δ => (match Δ[ds.length]? with
  | some (.lt t') => some t'
  | _ => none)
 | _ => none
def spM (K : Frag) (n : Nat) (F : List D → Tn → Option Tn) : Sp := fun vs H Q _ => ∃ vs0 a0, vs = vs0 ++ [.ref a0] ∧ vs0.length = n ∧ ∃ G ds t S t', Same G H ∧ HasL K G vs0 ds ∧ Ow K G H (.ref a0) t S ∧ (∀ a, S a → G a = none ∧ H a ≠ none) ∧ F ds t = some t' ∧
 ∀ G' H' S', MStep2 S G H G' H' → (∀ a, S' a → (S a ∨ H a = none) ∧ G' a = none ∧ H' a ≠ none) → Ow K G' H' (.ref a0) t' S' → Q .non H'
theorem cd_7 {G H h0 : Hp} {vs us : List V} {ds : List D} {N : List Str} {b : Nat → Addr} (g : Same G H) (i0 : Same h0 H) (r : HasL K G vs ds) (hl : (vs ++ us).length ≤ N.length) : Ev K ⟨h0, b⟩ G G H (l_0 N (vs ++ us)) (start3 N.length ds) (fun _ _ => False) := by
 have key : ∀ (i : Nat) (s : Sl), (start3 N.length ds)[i]? = some s → (∃ d, s = .sh d ∧ ds[i]? = some d) ∨ s = .no := fun i s e => by
  unfold start3 at e
  by_cases hi : i < ds.length
  ·rw [List.getElem?_append_left (by rw [List.length_map]; exact hi), List.getElem?_map] at e
   obtain ⟨d, e1, e2⟩ := Option.map_eq_some_iff.mp e
   exact .inl ⟨d, e2.symm, e1⟩
  ·rw [List.getElem?_append_right (by rw [List.length_map]; omega), List.getElem?_replicate] at e
   split at e
   ·cases e; exact .inr rfl
   ·cases e
 refine ⟨⟨i0, g, Same.refl _, fun _ n _ => n⟩, ?_, fun i d e => ?_, fun i z d e zo => ?_, fun _ _ ha => ha.elim, fun _ _ _ ha => ha.elim, fun i d e => ?_, fun i d e => ?_⟩
 ·unfold l_0 start3
  have := r.length
  simp only [List.length_append, List.length_map, List.length_replicate] at hl ⊢
  omega
 ·rcases key i _ e with ⟨d', q, q2⟩ | q
  ·cases q
   obtain ⟨v, e1, h⟩ := r.get q2
   refine ⟨v, ?_, h⟩
   unfold l_0
   have hi : i < vs.length := (List.getElem?_eq_some_iff.mp e1).1
   rw [List.getElem?_append_left (by rw [List.length_map, List.length_append]; omega), List.getElem?_map, List.getElem?_append_left hi, e1]
   rfl
  ·cases q
 ·rcases key i _ e with ⟨d', q, _⟩ | q <;> (subst q; cases zo)
 ·rcases key i _ e with ⟨d', q, _⟩ | q <;> cases q
 ·rcases key i _ e with ⟨d', q, _⟩ | q <;> cases q
open Classical in
theorem fn_M {c : Bool} {w : World} {x qual : Str} {st : Stmt} {f : Addr} {N ps : List Str} {k n : Nat} {g : FS} (F : Fun K x qual st f fd) (S : FnScope N ps (b_2 st)) (hn : ps.length = n + 1) (hle : ps.length ≤ N.length)
  (zk : ∀ (zq : Value) (A : Around) (outer : List Env) (s : Shared) (H : Hp) (E : XK), RoomC c k (A.deeper (envOfC qual (b_2 st) s.heap.objs.size f zq)) →
   BD (cxN c P w K mg base N qual (b_2 st) f zq A outer s H E) (fun _ => EXof K E) (d_3 st) g) : FnX P w K mg base c (k + 1) f fd ps (spM K n (bj_2 N.length g)) := by
 refine Fun.okX F S (fun vs H Q E h => ?_) fun zq A outer s H vs Q E hr h => ⟨_, zk zq A outer s H E hr, ?_⟩
 ·obtain ⟨vs0, a0, rfl, hl, _⟩ := h
  rw [List.length_append, hl, hn]; rfl
 obtain ⟨vs0, a0, rfl, hl, G, ds, t, S0, t', g0, r, tw, out, ef, q⟩ := h
 have i0 : Same (fun b => if S0 b then none else H b) H := fun b o e => by
  simp only at e
  split at e
  ·cases e
  ·exact e
 have E0 := cd_7 (N := N) (b := fun _ => a0) (us := [.ref a0]) g0 i0 r (by rw [List.length_append, hl]; show n + 1 ≤ _; omega)
 have zm : ds.length = n := by rw [← r.length]; exact hl
 have hs : (l_0 N (vs0 ++ [.ref a0]))[ds.length]? = some (some (.ref a0)) := by
  unfold l_0
  rw [List.getElem?_append_left (by rw [List.length_map, List.length_append, hl, zm]; exact Nat.lt_succ_self _), List.getElem?_map, List.getElem?_append_right (by rw [hl, zm]; exact Nat.le_refl _), hl, zm, Nat.sub_self]
  rfl
 have E1 := E0.putO (i := ds.length) (z := .lt t) (S := S0) (fun a ha => ⟨by simp only; rw [if_pos ha], (out a ha).1, (out a ha).2⟩) rfl (fun _ z => by cases z) tw (fun j a ha => ha.elim) (fun _ _ => rfl)
 rw [u_2 hs] at E1
 refine ⟨⟨fun b => if S0 b then none else H b, fun _ => a0⟩, G, G, _, _, E1, ?_⟩
 unfold bj_2 at ef
 have e2 : (start3 N.length ds).set ds.length (.lt t) = bb_9 N.length ds t := rfl
 rw [e2]
 cases e : g (bb_9 N.length ds t) with
 | nx Δ =>
  rw [e] at ef
  simp only at ef
  split at ef
  ·rename_i t2 e3
   cases ef
   intro σ G' H' O E' _
   obtain ⟨v, s1, t3⟩ := E'.ow _ _ _ e3 rfl
   have s2 := E'.lt _ _ e3
   rw [s1] at s2
   cases s2
   refine q G' H' (O ds.length) ⟨fun b o nb z => E'.st.hh b o (by simp only; rw [if_neg nb]; exact z), E'.st.gh, E'.st.gg, fun b nb z1 z2 => E'.st.nw b z1 (by simp only; rw [if_neg nb]; exact z2)⟩ (fun a ha => ?_) t3
   obtain ⟨k1, k2, k3⟩ := E'.out _ a ha
   refine ⟨?_, k1, k3⟩
   simp only at k2
   split at k2
   ·rename_i z; exact .inl z
   ·exact .inr k2
  ·cases ef
 | rt w => rw [e] at ef; cases ef
 | ex x Δ => rw [e] at ef; cases ef
 | bk Δ => rw [e] at ef; cases ef
 | ct Δ => rw [e] at ef; cases ef
 | no => rw [e] at ef; cases ef
def FnMd (P : Program) (w : World) (K : Frag) (mg : Str → Option Value) (base : Heap) (c : Bool) (x : Str) (k n : Nat) (ps : List Str) (F : List D → Tn → Option Tn) : Prop :=
 ∃ f fd, FnX P w K mg base c k f fd ps (spM K n F) ∧ mg x = some (.ref f) ∧ keepIn K (.ref f) = true ∧ Binds K fd ps []
theorem df_9 {c : Bool} {w : World} {x : Str} {st : Stmt} {f : Addr} {ps : List Str} {k n : Nat} {Fn : List D → Tn → Option Tn} (F : Fun K x x st f fd) (hm : mg x = some (.ref f)) (hb : Binds K fd ps [])
  (ok : FnX P w K mg base c k f fd ps (spM K n Fn)) : FnMd P w K mg base c x k n ps Fn := ⟨f, fd, ok, hm, F.kp, hb⟩
section
variable {X : Cx} {EX : EXS} {e : Expr} {es : List Expr} {x : Str} {pp pos : Pos} {c : Bool} {k k' : Nat} {ps : List Str}
theorem cl_4 {sp : Sp} {ta : TA} {f : Addr} (hr : RoomC c k' X.A) (lk : Lk X EX) (ok : FnX X.prog X.w X.K X.mg X.base c k f fd ps sp) (hm : X.mg x = some (.ref f)) (kp : keepIn X.K (.ref f) = true) (hb : Binds X.K fd ps []) (ha : PA X (e :: es) ta) (hk : k ≤ k') (hg : Gl X x) (hdb : (x == ("__debug__" : Str)) = false)
  (he : starEach (e :: es) X.env = (false, eval e X.env) :: starEach es X.env) (hpl : (backTo pos (starEach es X.env)).any (·.1) = false) :
  PE X (.Call (.Name x pp) (e :: es) [] pos) (fun σ H Q => ta σ H fun vs H1 => sp vs H1 Q (EXE X.K (EX σ))) := by
 intro zd s σ H Q I q
 refine wpAny_Call_Name_kw (s_3 I hg hm ?_ hdb)
 refine callWith_K (h₀ := X.base) I.ok.mod.kin kp (thn (ha pos zd s σ H _ I q) fun us s1 ⟨vs, H1, I1, r, q⟩ => ⟨I1.kIn, ?_⟩) he hpl
 exact am_2 ok (hr.mono hk) hb lk I1 r q
def ap_5 (i : Nat) (F : List D → Tn → Option Tn) (f1 f2 : FE) : FS := fun Δ => match (Δ[i]?).bind Sl.tree with
 | some (.dic zn, lk) => (match f1 (vsh Δ) with
  | .ok w1 => (match f2 (vsh Δ) with
   | .ok w2 => (match F [w1.d, w2.d] (.dic zn) with
    | some t' => .nx (Δ.set i (Sl.mk lk t'))
    | none => .no)
   | _ => .no)
  | _ => .no)
 | _ => .no
theorem cl_5 {i : Nat} {y : Str} {e1 e2 : Expr} {f1 f2 : FE} {F : List D → Tn → Option Tn} {p3 : Pos} (hr : RoomC c k' X.A) (lk : Lk X EX) (h : FnMd X.prog X.w X.K X.mg X.base c x k 2 ps F) (h1 : ED X EX e1 f1) (h2 : ED X EX e2 f2) (hk : k ≤ k' := by decide)
  (hN : X.N[i]? = some y := by rfl) (hv : Vis X.env.scope y := by first | exact Or.inl rfl | exact Or.inr (Or.inl rfl) | exact Or.inr (Or.inr rfl)) (hd : (y == ("__debug__" : Str)) = false := by decide) (hcd : (y == ("__classdict__" : Str)) = false := by decide)
  (hg : Gl X x := by rfl) (hdb : (x == ("__debug__" : Str)) = false := by decide) (hs1 : starEach [e1, e2, .Name y p3] X.env = (false, eval e1 X.env) :: starEach [e2, .Name y p3] X.env := by rfl) (hs2 : starEach [e2, .Name y p3] X.env = (false, eval e2 X.env) :: starEach [.Name y p3] X.env := by rfl) (hs3 : starEach [.Name y p3] X.env = (false, eval (.Name y p3) X.env) :: starEach [] X.env := by rfl)
  (hpl : (backTo pos (starEach [e2, .Name y p3] X.env)).any (·.1) = false := by rfl) (hsw : swapsWith (.Call (.Name x pp) [e1, e2, .Name y p3] [] pos) none pos.line X.env = pure false := by rfl) {cv : Pos} (gb : swapsWith (.Call (.Name x pp) [e1, e2, .Name y p3] [] pos) none cv.line X.env = pure false := by rfl) :
  SD X EX (.Expr (.Call (.Name x pp) [e1, e2, .Name y p3] [] pos) cv) (ap_5 i F f1 f2) := by
 obtain ⟨f, fd, ok, hm, kp, hb⟩ := h
 refine PS.imp (ac_9 (cl_4 hr lk ok hm kp hb (e_4 h1 (e_4 h2 (e_4 (i_9 hN hv hd hcd) n_9 hs3) hs2) hs1) hk hg hdb hs1 hpl) gb) fun D σ H ⟨H0, G0, G, Δ, O, E, q⟩ => ?_
 unfold ap_5 at q
 split at q
 ·rename_i zn lk e0
  obtain ⟨s, e1, etr⟩ := Option.bind_eq_some_iff.mp e0
  refine ⟨G, vsh Δ, E.st.gh, E.gsh, ?_⟩
  cases q1 : f1 (vsh Δ) with
  | ex x => simp only [q1] at q; exact q.elim
  | no => simp only [q1] at q; exact q.elim
  | ok w1 =>
   simp only [q1] at q
   refine WP.intro fun v1 G1 H1 st1 r1 => ?_
   have E1 := E.grow st1
   refine ⟨G1, vsh Δ, E1.st.gh, E1.gsh, ?_⟩
   cases q2 : f2 (vsh Δ) with
   | ex x => simp only [q2] at q; exact q.elim
   | no => simp only [q2] at q; exact q.elim
   | ok w2 =>
    simp only [q2] at q
    refine WP.intro fun v2 G2 H2 st2 r2 => ?_
    have E2 := E1.grow st2
    obtain ⟨v0, s1, t0⟩ := E2.ow i _ _ e1 (Sl.tree_own etr)
    refine ⟨v0, s1, ?_⟩
    split at q
    ·rename_i t' ef
     obtain ⟨a0, _, _, rfl, _⟩ := t0.dic_of
     refine ⟨[v1, v2], a0, rfl, rfl, G2, [w1.d, w2.d], .dic zn, O i, t', E2.st.gh, .cons (r1.mono st2.gg) (.cons r2 .nil), t0, fun a ha => ⟨(E2.out i a ha).1, (E2.out i a ha).2.2⟩, ef, fun G' H' S' ms fr t1 => ?_⟩
     exact q σ G' H' _ (E2.step2 (Sl.mk_own lk t') (Sl.mk_lk lk t') (E2.mk_lt e1 etr t') ms s1 fr t1) ((st1.gg.trans st2.gg).trans ms.gg)
    ·exact q.elim
 ·exact q.elim
def cl_6 (i j : Nat) : FS := fun Δ => if i = j then .no else match (Δ[i]?).bind Sl.tree, (Δ[j]?).bind Sl.tree with
 | some (t1, false), some (t2, false) => .rt (.tr (.tup [t1, t2]))
 | _, _ => .no
theorem cv_7 {i j x1 : Nat} {x y : Str} {p1 p2 p3 : Pos} (hN : X.N[i]? = some x := by rfl) (hv : Vis X.env.scope x := by first | exact Or.inl rfl | exact Or.inr (Or.inl rfl) | exact Or.inr (Or.inr rfl)) (hd : (x == ("__debug__" : Str)) = false := by decide)
  (hcd : (x == ("__classdict__" : Str)) = false := by decide) (hN2 : X.N[j]? = some y := by rfl) (hv2 : Vis X.env.scope y := by first | exact Or.inl rfl | exact Or.inr (Or.inl rfl) | exact Or.inr (Or.inr rfl)) (hd2 : (y == ("__debug__" : Str)) = false := by decide)
  (eg : (y == ("__classdict__" : Str)) = false := by decide) (hs1 : starEach [.Name x p1, .Name y p2] X.env = (false, eval (.Name x p1) X.env) :: starEach [.Name y p2] X.env := by rfl) (hs2 : starEach [.Name y p2] X.env = (false, eval (.Name y p2) X.env) :: starEach [] X.env := by rfl) :
  SD X EX (.Return (some (.Tuple [.Name x p1, .Name y p2] x1 p3)) pos) (cl_6 i j) :=
 PS.imp (bp_0 (bq_0 (e_4 (i_9 hN hv hd hcd) (e_4 (i_9 hN2 hv2 hd2 eg) n_9 hs2) hs1))) fun D σ H ⟨H0, G0, G, Δ, O, E, q⟩ => by
  unfold cl_6 at q
  split at q
  ·exact q.elim
  ·rename_i hij
   split at q
   ·rename_i t1 t2 e1 e2
    obtain ⟨z1, a1, b1⟩ := Option.bind_eq_some_iff.mp e1
    obtain ⟨z2, a2, b2⟩ := Option.bind_eq_some_iff.mp e2
    obtain ⟨v1, s1, w1⟩ := E.ow i _ _ a1 (Sl.tree_own b1)
    obtain ⟨v2, s2, w2⟩ := E.ow j _ _ a2 (Sl.tree_own b2)
    refine ⟨v1, s1, v2, s2, by rw [sizeLine_eq]; show 2 ≤ _; decide, fun p hp => ?_⟩
    have np : ∀ k b, O k b → b ≠ p := fun k b hb z => (E.out k b hb).2.2 (by rw [z]; exact hp)
    have grow : ∀ k b o, O k b → H b = some o → upd H p (.tup [v1, v2]) b = some o := fun k b o hb z => by rw [a_8 (np k b hb)]; exact z
    refine q (.ref p) (fun b => b = p ∨ O i b ∨ O j b) G _ (E.st.trans (Step.own E.st.gh hp _)) (fun a ha => ?_) ?_
    ·rcases ha with ha | ha | ha
     ·subst ha; exact ⟨E.st.hh.free hp, E.st.gh.free hp, by rw [b_1]; simp⟩
     ·obtain ⟨k1, k2, k3⟩ := E.out i a ha
      exact ⟨k2, k1, by rw [a_8 (np i a ha)]; exact k3⟩
     ·obtain ⟨k1, k2, k3⟩ := E.out j a ha
      exact ⟨k2, k1, by rw [a_8 (np j a ha)]; exact k3⟩
    ·refine Ow.tup (S1 := fun b => O i b ∨ O j b) b_1 (.inl rfl) (fun b hb => ⟨.inr hb, ?_⟩) (.cons (S1 := O i) (S2 := O j) (w1.mono (Same.refl _) (grow i) fun _ z => z) (.cons (S1 := O j) (S2 := fun _ => False) (w2.mono (Same.refl _) (grow j) fun _ z => z) .nil (fun _ _ z => z) (fun _ z => z) fun _ z => z.elim) (fun b z1 z2 => hij (E.dj i j b z1 z2)) (fun _ z => .inl z) fun _ z => .inr z)
     rcases hb with hb | hb
     ·exact np i b hb
     ·exact np j b hb
   ·exact q.elim
end
def OFld (K : Frag) (cs : List Str) (f : Str) : Prop := ∀ c, cs.contains c = true → ∀ C, ClsAt K c C → Cls K C ∧ NoAttr K C f
theorem OFld.nil {f : Str} : OFld K [] f := fun c h => by cases h
theorem ClsAt.same {c : Str} {C C' : Addr} (a : ClsAt K c C) (b : ClsAt K c C') : C' = C := by
 unfold ClsAt at a b
 rw [a] at b
 injection b with b
 injection b with b
 injection b with b
 exact b.symm
theorem OFld.one {c : Str} {C : Addr} {cs : List Str} {f : Str} (a : ClsAt K c C) (k : Cls K C) (n : NoAttr K C f) (r : OFld K cs f) : OFld K (c :: cs) f := fun c' h C' a' => by
 rw [List.contains_cons, Bool.or_eq_true] at h
 rcases h with h | h
 ·have e := beq_iff_eq.mp h
  subst e
  rw [a.same a']
  exact ⟨k, n⟩
 ·exact r c' h C' a'
def s_2 (cs : List Str) (f : Str) (fo : FE) : FE := fun δ => (fo δ).bind fun w => match w.d with
 | .obj c ns vs => if cs.contains c then (match (ns.zip vs).lookup f with
  | some d => .ok (.sh d)
  | none => .no) else .no
 | _ => .no
theorem am_6 {G : Hp} {f : Str} : ∀ {ns : List Str} {us : List V} {vs : List D}, HasL K G us vs → ns.length = us.length → (∀ d, (ns.zip vs).lookup f = some d → ∃ v, (ns.zip us).lookup f = some v ∧ Has K G v d) ∧ (ns.contains f = false → (ns.zip us).lookup f = none)
 | [], _, _, _, _ => ⟨fun d e => (by cases e), fun _ => rfl⟩
 | n :: ns, [], _, _, e => by simp at e
 | n :: ns, u :: us, _, .cons h r, e => by
  obtain ⟨i1, i2⟩ := am_6 (f := f) (ns := ns) r (by simpa using e)
  refine ⟨fun d q => ?_, fun q => ?_⟩
  ·rw [List.zip_cons_cons, List.lookup_cons] at q ⊢
   cases hb : f == n with
   | true => simp only [hb] at q ⊢; cases q; exact ⟨u, rfl, h⟩
   | false => simp only [hb] at q ⊢; exact i1 d q
  ·rw [List.contains_cons, Bool.or_eq_false_iff] at q
   rw [List.zip_cons_cons, List.lookup_cons]
   simp only [q.1]
   exact i2 q.2
section
variable {X : Cx} {EX : EXS} {e : Expr} {pos : Pos}
theorem t_1 {cs : List Str} {f : Str} {fo : FE} (k : OFld X.K cs f) (he : ED X EX e fo) (hb : attributeBase e f X.env (eval e X.env) = eval e X.env := by rfl) : ED X EX (.Attribute e f pos) (s_2 cs f fo) :=
 PE.imp (dd_0 he hb) fun σ H Q ⟨G, δ, g0, s0, o⟩ => tD.seq g0 s0 o fun w v G1 H1 _ st r o' => by
  revert o' r
  cases w.d with
  | obj c ns vs =>
   intro r o'
   simp only at o'
   split at o'
   ·rename_i hc
    split at o'
    ·rename_i d ed
     cases r with
     | obj hC hh hl rl =>
      obtain ⟨v1, e1, h1⟩ := (am_6 (f := f) rl hl).1 d ed
      obtain ⟨kc, kn⟩ := k c hc _ hC
      exact ⟨_, _, _, _, v1, rfl, st.gh _ _ hh, kc, kn, e1, c_9 o' st.gh h1⟩
    ·exact o'.elim
   ·exact o'.elim
  | _ => intro _ o'; exact False.elim o'
end
structure MethD (P : Program) (w : World) (K : Frag) (mg : Str → Option Value) (base : Heap) (cc : Bool) (k n : Nat) (m c : Str) (F : List D → R W) : Prop where
 ex : ∃ C f fd ps, ClsAt K c C ∧ Cls K C ∧ Meth K C m f ∧ FnX P w K mg base cc k f fd ps (spX K (n + 1) F) ∧ Binds K fd ps []
def MethT (P : Program) (w : World) (K : Frag) (mg : Str → Option Value) (base : Heap) (cc : Bool) (k n : Nat) (m : Str) (tb : List (Str × (List D → R W))) : Prop := ∀ c F, tb.lookup c = some F → MethD P w K mg base cc k n m c F
theorem MethT.nil {w : World} {cc : Bool} {k n : Nat} {m : Str} : MethT P w K mg base cc k n m [] := fun c F e => by cases e
theorem FnX.up {w : World} {c : Bool} {j k : Nat} {f : Addr} {ps : List Str} {sp : Sp} (F : FnX P w K mg base c j f fd ps sp) (h : j ≤ k) : FnX P w K mg base c k f fd ps sp :=
 ⟨F.len, fun A outer s H args us vs Q E hr => F.run A outer s H args us vs Q E (hr.mono h)⟩
theorem MethT.one {w : World} {cc : Bool} {j k n : Nat} {m c : Str} {F : List D → R W} {tb : List (Str × (List D → R W))} (d : MethD P w K mg base cc j n m c F) (hj : j ≤ k) (r : MethT P w K mg base cc k n m tb) : MethT P w K mg base cc k n m ((c, F) :: tb) := fun c' F' e => by
 rw [List.lookup_cons] at e
 cases hb : c' == c with
 | true =>
  simp only [hb] at e
  cases e
  have := beq_iff_eq.mp hb
  subst this
  obtain ⟨C, f, fd, ps, a1, a2, a3, a4, a5⟩ := d.ex
  exact ⟨C, f, fd, ps, a1, a2, a3, a4.up hj, a5⟩
 | false => simp only [hb] at e; exact r c' F' e
def h_5 (m : Str) (n : Nat) (tb : List (Str × (List D → R W))) (fo : FE) (fa : FA) : FE := fun δ => (fo δ).bind fun w => match w.d with
 | .obj c ns vs => if ns.contains m then .no else match tb.lookup c with
  | some F => (fa δ).bind fun ds => if ds.length = n then F (.obj c ns vs :: ds) else .no
  | none => .no
 | _ => .no
section
variable {X : Cx} {EX : EXS} {e o : Expr} {es : List Expr} {pos zh : Pos} {cc : Bool} {k k' n : Nat} {m : Str} {tb : List (Str × (List D → R W))} {fo : FE} {fa : FA}
def cl_7 (X : Cx) (EX : EXS) (cc : Bool) (k : Nat) (m : Str) (ta : TE) (t : TA) : TE := fun σ H Q => ta σ H fun x H1 => ∃ a C dx fs f fd ps sp, x = .ref a ∧ H1 a = some (.ins C dx fs) ∧ fs.lookup m = none ∧ Cls X.K C ∧ Meth X.K C m f ∧
 FnX X.prog X.w X.K X.mg X.base cc k f fd ps sp ∧ Binds X.K fd ps [] ∧ t σ H1 fun vs H2 => sp (.ref a :: vs) H2 Q (EXE X.K (EX σ))
theorem cv_8 {pl : Sem Bool} {ta : TE} {t : TA} (he : PE X o ta) (hr : RoomC cc k X.A) (lk : Lk X EX) (ha : PA X (e :: es) t)
  (hst : starEach (e :: es) X.env = (false, eval e X.env) :: starEach es X.env) (hpl : (backTo pos (starEach es X.env)).any (·.1) = false)
  (ht : eval (.Call (.Attribute o m zh) (e :: es) [] pos) X.env = (do
   let ov ← eval o X.env
   standAt zh.atName
   let (f, first) ← holding [ov] (getMethod ov m pl)
   callWith pos f first (backTo pos (starEach (e :: es) X.env)) (backToKw pos (keywordEach [] X.env)))) :
  PE X (.Call (.Attribute o m zh) (e :: es) [] pos) (cl_7 X EX cc k m ta t) := by
 intro zd s σ H Q I h
 refine methodCall_KW (pl := pl) (thn (he zd s σ H _ I h) fun u s1 ⟨x, H1, I1, rx, a, C, dx, fs, f, fd, ps, sp, ex, ea, l, c, hm, F, hb, q⟩ => ?_) ht
 subst ex
 obtain rfl : u = Value.ref a := rx
 refine an_7 I1 ea c hm l ?_
 refine callWith_K (first := [.ref a]) (h₀ := X.base) I.ok.mod.kin hm.kp (thn (ha pos zd s1 σ H1 _ I1 q) fun us s2 ⟨vs, H2, I2, r, q2⟩ => ⟨I2.kIn, ?_⟩) hst hpl
 exact am_2 (us := .ref a :: us) (vs := .ref a :: vs) F hr hb lk I2 (.cons rfl r) q2
theorem cl_8 {pl : Sem Bool} {ta : TE} (he : PE X o ta) (hr : RoomC cc k X.A) (lk : Lk X EX)
  (ht : eval (.Call (.Attribute o m zh) [] [] pos) X.env = (do
   let ov ← eval o X.env
   standAt zh.atName
   let (f, first) ← holding [ov] (getMethod ov m pl)
   callWith pos f first (backTo pos (starEach [] X.env)) (backToKw pos (keywordEach [] X.env)))) :
  PE X (.Call (.Attribute o m zh) [] [] pos) (cl_7 X EX cc k m ta tNil) := by
 intro zd s σ H Q I h
 refine methodCall_KW (pl := pl) (thn (he zd s σ H _ I h) fun u s1 ⟨x, H1, I1, rx, a, C, dx, fs, f, fd, ps, sp, ex, ea, l, c, hm, F, hb, q⟩ => ?_) ht
 subst ex
 obtain rfl : u = Value.ref a := rx
 refine an_7 I1 ea c hm l ?_
 exact callWith_K0 (first := [.ref a]) I1.kIn hm.kp (am_2 (us := [.ref a]) (vs := [.ref a]) F hr hb lk I1 (.cons rfl .nil) q)
theorem dg_0 {σ : Sg} {Q : VK} (hK : X.K = K) (T : MethT X.prog X.w X.K X.mg X.base cc k n m tb) (q : tD K EX (h_5 m n tb fo fa) σ H Q) : cl_7 X EX cc k m (tD K EX fo) (tDa K EX fa) σ H Q := by
 subst hK
 obtain ⟨G, δ, g0, s0, o⟩ := q
 refine tD.seq g0 s0 o fun w v G1 H1 _ st r o' => ?_
 revert o' r
 cases w.d with
 | obj c ns vs =>
  intro r o'
  simp only at o'
  split at o'
  ·exact o'.elim
  ·rename_i hn
   split at o'
   ·rename_i F ef
    cases r with
    | obj hC hh hl rl =>
     rename_i a0 C0 dx0 us0
     obtain ⟨C, f, fd, ps, a1, a2, a3, a4, a5⟩ := (T c F ef).ex
     have := a1.same hC
     subst this
     refine ⟨_, _, _, _, f, fd, ps, _, rfl, st.gh _ _ hh, (am_6 (f := m) rl hl).2 (by simpa using hn), a2, a3, a4, a5, ?_⟩
     refine tDa.seq st.gh (s0.mono st.gg) o' fun ds us G' H' _ st' r' o2 => ?_
     split at o2
     ·rename_i zm
      refine ⟨by rw [List.length_cons, r'.length, zm], G', .obj c ns vs :: ds, st'.gh, .cons (Has.mono st'.gg (.obj hC hh hl rl)) r', ?_⟩
      cases q : F (.obj c ns vs :: ds) with
      | ok w => rw [q] at o2; exact o2
      | ex x => rw [q] at o2; exact EXof.in o2
      | no => rw [q] at o2; exact o2.elim
     ·exact o2.elim
   ·exact o'.elim
 | _ => intro _ o'; exact False.elim o'
theorem ae_2 {pl : Sem Bool} (T : MethT X.prog X.w X.K X.mg X.base cc k n m tb) (hr : RoomC cc k' X.A) (lk : Lk X EX) (he : ED X EX o fo) (ha : AD X EX (e :: es) fa) (hk : k ≤ k' := by decide)
  (hst : starEach (e :: es) X.env = (false, eval e X.env) :: starEach es X.env := by rfl) (hpl : (backTo pos (starEach es X.env)).any (·.1) = false := by rfl)
  (ht : eval (.Call (.Attribute o m zh) (e :: es) [] pos) X.env = (do
   let ov ← eval o X.env
   standAt zh.atName
   let (f, first) ← holding [ov] (getMethod ov m pl)
   callWith pos f first (backTo pos (starEach (e :: es) X.env)) (backToKw pos (keywordEach [] X.env))) := by rfl) : ED X EX (.Call (.Attribute o m zh) (e :: es) [] pos) (h_5 m n tb fo fa) :=
 PE.imp (cv_8 he (hr.mono hk) lk ha hst hpl ht) fun _ _ _ q => dg_0 rfl T q
theorem bj_3 {pl : Sem Bool} (T : MethT X.prog X.w X.K X.mg X.base cc k 0 m tb) (hr : RoomC cc k' X.A) (lk : Lk X EX) (he : ED X EX o fo) (hk : k ≤ k' := by decide)
  (ht : eval (.Call (.Attribute o m zh) [] [] pos) X.env = (do
   let ov ← eval o X.env
   standAt zh.atName
   let (f, first) ← holding [ov] (getMethod ov m pl)
   callWith pos f first (backTo pos (starEach [] X.env)) (backToKw pos (keywordEach [] X.env))) := by rfl) : ED X EX (.Call (.Attribute o m zh) [] [] pos) (h_5 m 0 tb fo aNil) :=
 PE.imp (cl_8 he (hr.mono hk) lk ht) fun σ H Q ⟨G, δ, g0, s0, q⟩ => tD.seq g0 s0 q fun w v G1 H1 _ st r o' => by
  revert o' r
  cases w.d with
  | obj c ns vs =>
   intro r o'
   simp only at o'
   split at o'
   ·exact o'.elim
   ·rename_i hn
    split at o'
    ·rename_i F ef
     cases r with
     | obj hC hh hl rl =>
      obtain ⟨C, f, fd, ps, a1, a2, a3, a4, a5⟩ := (T c F ef).ex
      have := a1.same hC
      subst this
      refine ⟨_, _, _, _, f, fd, ps, _, rfl, st.gh _ _ hh, (am_6 (f := m) rl hl).2 (by simpa using hn), a2, a3, a4, a5, ?_⟩
      have o2 : Out X.K (EX σ) G1 H1 (F [.obj c ns vs]) Q := o'
      refine ⟨rfl, G1, [.obj c ns vs], st.gh, .cons (.obj hC hh hl rl) .nil, ?_⟩
      cases q : F [.obj c ns vs] with
      | ok w => rw [q] at o2; exact o2
      | ex x => rw [q] at o2; exact EXof.in o2
      | no => rw [q] at o2; exact o2.elim
    ·exact o'.elim
  | _ => intro _ o'; exact False.elim o'
end
def unT : List Tn → Option (List D)
 | [] => some []
 | .sh d :: r => (unT r).map (d :: ·)
 | _ => none
theorem bj_4 : ∀ {ts : List Tn} {ds : List D}, unT ts = some ds → ts = ds.map .sh
 | [], _, e => by cases e; rfl
 | t :: r, ds, e => by
  cases t with
  | sh d =>
   simp only [unT] at e
   cases q : unT r with
   | none => rw [q] at e; cases e
   | some l =>
    rw [q] at e
    cases e
    rw [bj_4 q]
    rfl
  | _ => cases e
def x_2 (n : Nat) (c : Str) (ds : List D) : SE := .lt (.obj c [] []) :: (ds.map Sl.sh ++ List.replicate (n - (ds.length + 1)) .no)
def ap_6 (n : Nat) (c : Str) (g : FS) (ds : List D) : R (List Str × List D) := match g (x_2 n c ds) with
 | .nx Δ => (match Δ[(0 : Nat)]? with
  | some (.lt (.obj c' ns ts)) => if c' = c then (match unT ts with
   | some rs => .ok (ns, rs)
   | none => .no) else .no
  | _ => .no)
 | .ex x _ => .ex x
 | _ => .no
def spI (K : Frag) (C : Addr) (n : Nat) (F : List D → R (List Str × List D)) : Sp := fun vs H Q E => ∃ x dx vs0 Hq G ds, vs = .ref x :: vs0 ∧ vs0.length = n ∧ Hq x = none ∧ Same Hq H ∧ H x = some (.ins C dx []) ∧ Same G Hq ∧ HasL K G vs0 ds ∧
 (match F ds with
 | .ok p => ∀ G' H' us dx', Step G Hq G' H' → G' x = none → H' x = some (.ins C dx' (p.1.zip us)) → p.1.length = us.length → HasL K G' us p.2 → Q .non H'
 | .ex e => (EXof K E).p e G Hq
 | .no => False)
theorem cd_8 {G H h0 : Hp} {v0 : V} {ds : List D} {N : List Str} {b : Nat → Addr} (g : Same G H) (i0 : Same h0 H) (r : HasL K G vs ds) (hl : vs.length + 1 ≤ N.length) : Ev K ⟨h0, b⟩ G G H (l_0 N (v0 :: vs)) (.no :: (ds.map Sl.sh ++ List.replicate (N.length - (ds.length + 1)) .no)) (fun _ _ => False) := by
 have key : ∀ (i : Nat) (s : Sl), (Sl.no :: (ds.map Sl.sh ++ List.replicate (N.length - (ds.length + 1)) .no))[i]? = some s → (∃ j d, i = j + 1 ∧ s = .sh d ∧ ds[j]? = some d) ∨ s = .no := fun i s e => by
  cases i with
  | zero => exact .inr (by simpa using e.symm)
  | succ i =>
   rw [List.getElem?_cons_succ] at e
   by_cases hi : i < ds.length
   ·rw [List.getElem?_append_left (by rw [List.length_map]; exact hi), List.getElem?_map] at e
    obtain ⟨d, e1, e2⟩ := Option.map_eq_some_iff.mp e
    exact .inl ⟨i, d, rfl, e2.symm, e1⟩
   ·rw [List.getElem?_append_right (by rw [List.length_map]; omega), List.getElem?_replicate] at e
    split at e
    ·cases e; exact .inr rfl
    ·cases e
 refine ⟨⟨i0, g, Same.refl _, fun _ n _ => n⟩, ?_, fun i d e => ?_, fun i z d e zo => ?_, fun _ _ ha => ha.elim, fun _ _ _ ha => ha.elim, fun i d e => ?_, fun i d e => ?_⟩
 ·unfold l_0
  have := r.length
  simp only [List.length_append, List.length_map, List.length_replicate, List.length_cons] at hl ⊢
  omega
 ·rcases key i _ e with ⟨j, d', rfl, q, q2⟩ | q
  ·cases q
   obtain ⟨v, e1, h⟩ := r.get q2
   refine ⟨v, ?_, h⟩
   unfold l_0
   have hi : j < vs.length := (List.getElem?_eq_some_iff.mp e1).1
   rw [List.getElem?_append_left (by rw [List.length_map, List.length_cons]; omega), List.getElem?_map, List.getElem?_cons_succ, e1]
   rfl
  ·cases q
 ·rcases key i _ e with ⟨j, d', _, q, _⟩ | q <;> (subst q; cases zo)
 ·rcases key i _ e with ⟨j, d', _, q, _⟩ | q <;> cases q
 ·rcases key i _ e with ⟨j, d', _, q, _⟩ | q <;> cases q
theorem fn_I {c : Bool} {w : World} {x qual cn : Str} {st : Stmt} {f C : Addr} {N ps : List Str} {k n : Nat} {g : FS} (F : Fun K x qual st f fd) (S : FnScope N ps (b_2 st)) (hC : ClsAt K cn C) (hn : ps.length = n + 1) (hle : ps.length ≤ N.length)
  (zk : ∀ (zq : Value) (A : Around) (outer : List Env) (s : Shared) (H : Hp) (E : XK), RoomC c k (A.deeper (envOfC qual (b_2 st) s.heap.objs.size f zq)) →
   BD (cxN c P w K mg base N qual (b_2 st) f zq A outer s H E) (fun _ => EXof K E) (d_3 st) g) : FnX P w K mg base c (k + 1) f fd ps (spI K C n (ap_6 N.length cn g)) := by
 refine Fun.okX F S (fun vs H Q E h => ?_) fun zq A outer s H vs Q E hr h => ⟨_, zk zq A outer s H E hr, ?_⟩
 ·obtain ⟨x, dx, vs0, Hq, G, ds, rfl, hl, _⟩ := h
  rw [List.length_cons, hl, hn]
 obtain ⟨x, dx, vs0, Hq, G, ds, rfl, hl, n1, i0, hx, g0, r, q⟩ := h
 have E0 := cd_8 (N := N) (b := fun _ => x) (v0 := .ref x) (g0.trans i0) i0 r (by rw [hl]; omega)
 have hs : (l_0 N (.ref x :: vs0))[0]? = some (some (.ref x)) := rfl
 have E1 := E0.putO (i := 0) (z := .lt (.obj cn [] [])) (v := .ref x) (S := fun b => b = x) (fun a ha => by subst ha; exact ⟨n1, g0.free n1, by rw [hx]; simp⟩) rfl (fun _ z => by cases z) (.obj (S1 := fun _ => False) hC (us := []) hx rfl rfl (fun _ z => z.elim) .nil) (fun j a ha => ha.elim) (fun _ _ => rfl)
 rw [u_2 hs] at E1
 refine ⟨⟨Hq, fun _ => x⟩, G, G, _, _, E1, ?_⟩
 unfold ap_6 at q
 have e2 : (Sl.no :: (ds.map Sl.sh ++ List.replicate (N.length - (ds.length + 1)) .no)).set 0 (.lt (.obj cn [] [])) = x_2 N.length cn ds := rfl
 rw [e2]
 cases e : g (x_2 N.length cn ds) with
 | nx Δ =>
  rw [e] at q
  intro σ G' H' O E' _
  simp only at q
  split at q
  ·rename_i p ep
   split at ep
   ·rename_i c2 ns ts e3
    split at ep
    ·rename_i hcc
     subst hcc
     split at ep
     ·rename_i rs eu
      cases ep
      obtain ⟨v, s1, t3⟩ := E'.ow _ _ _ e3 rfl
      have s2 := E'.lt _ _ e3
      rw [s1] at s2
      cases s2
      cases t3 with
      | obj hc h hl' ha sub rl =>
       rw [bj_4 eu] at rl
       have := hC.same hc
       subst this
       exact q G' H' _ _ E'.st (E'.out _ _ ha).1 h hl' rl.off
     ·cases ep
    ·cases ep
   ·cases ep
  ·rename_i x2 ep
   split at ep
   ·split at ep
    ·split at ep <;> cases ep
    ·cases ep
   ·cases ep
  ·rename_i ep
   exact q.elim
 | ex x Δ => rw [e] at q; exact fun σ G' H' O E' _ => (EXof K E).mono _ _ _ _ _ E'.st q
 | rt w => rw [e] at q; exact q.elim
 | bk Δ => rw [e] at q; exact q.elim
 | ct Δ => rw [e] at q; exact q.elim
 | no => rw [e] at q; exact q.elim
theorem bj_5 {f : Str} {y : V} : ∀ {ns : List Str} {us : List V}, ns.length = us.length → ns.contains f = false → v_2 f y (ns.zip us) = (ns ++ [f]).zip (us ++ [y])
 | [], [], _, _ => rfl
 | [], _ :: _, e, _ => by simp at e
 | _ :: _, [], e, _ => by simp at e
 | n :: ns, u :: us, e, h => by
  rw [List.contains_cons, Bool.or_eq_false_iff] at h
  have hn : ¬ n = f := fun z => by rw [z] at h; simp at h
  show v_2 f y ((n, u) :: ns.zip us) = (n, u) :: (ns ++ [f]).zip (us ++ [y])
  unfold v_2
  rw [if_neg hn, bj_5 (by simpa using e) h.2]
def r_3 (i : Nat) (cs : List Str) (f : Str) (js : List Nat) (fe : FE) : FS := fun Δ => match (gsome js Δ)[i]? with
 | some (.lt (.obj c ns ts)) => if cs.contains c = true ∧ ns.contains f = false ∧ ns.length < 1000 then (match fe (vsh (gsome js Δ)) with
  | .ok w => .nx ((gsome js Δ).set i (.lt (.obj c (ns ++ [f]) (ts ++ [.sh w.d]))))
  | .ex x => .ex x (gsome js Δ)
  | .no => .no) else .no
 | _ => .no
section
variable {X : Cx} {EX : EXS} {pos : Pos}
theorem s_6 {i : Nat} {cs : List Str} {f x : Str} (js : List Nat) {e : Expr} {fe : FE} {p1 p2 : Pos} (k : OFld X.K cs f) (he : ED X EX e fe) (hN : X.N[i]? = some x := by rfl) (hv : Vis X.env.scope x := by first | exact Or.inl rfl | exact Or.inr (Or.inl rfl) | exact Or.inr (Or.inr rfl)) (hd : (x == ("__debug__" : Str)) = false := by decide)
  (hcd : (x == ("__classdict__" : Str)) = false := by decide) (hs : swapsWith e (some (.Attribute (.Name x p1) f p2)) pos.line X.env = pure false := by rfl) : SD X EX (.Assign [.Attribute (.Name x p1) f p2] e pos) (r_3 i cs f js fe) :=
 PS.imp (dd_1 (i_9 hN hv hd hcd) he hs) fun D σ H ⟨H0, G0, G, Δ, O, E, q⟩ => by
  obtain ⟨G1, O1, sg, E1⟩ := E.gsome js
  unfold r_3 at q
  generalize gsome js Δ = Δ1 at q E1
  split at q
  ·rename_i c ns ts e1
   split at q
   ·rename_i hc
    obtain ⟨hc1, hc2, hc3⟩ := hc
    refine ⟨G1, vsh Δ1, E1.st.gh, E1.gsh, ?_⟩
    cases e2 : fe (vsh Δ1) with
    | ex y => simp only [e2] at q; exact q σ G1 H O1 E1 sg
    | no => simp only [e2] at q; exact q.elim
    | ok w =>
     simp only [e2] at q
     refine WP.intro fun v G2 H2 st r => ?_
     have E2 := E1.grow st
     obtain ⟨v0, s1, t⟩ := E2.ow i _ _ e1 rfl
     have s2 := E2.lt i _ e1
     generalize et : (Tn.obj c ns ts) = t0 at t
     cases t with
     | @obj a C dx c2 ns2 us ts2 S S1 hC h hl ha sub rl =>
      injection et with et1 et2 et3
      subst et1 et2 et3
      obtain ⟨kc, kn⟩ := k _ hc1 _ hC
      refine ⟨_, s1, _, _, _, _, rfl, h, kc, kn, by rw [List.length_zip, ← hl, Nat.min_self]; exact hc3, ?_⟩
      rw [bj_5 hl hc2]
      have ms := MStep.write (S := O1 i) E2.st.gh ha (E2.out i _ ha).1 (.ins C dx ((ns ++ [f]).zip (us ++ [v])))
      refine q σ G2 _ _ (E2.step2 (S := O1 i) (z := .lt _) rfl (fun _ z => by cases z) (fun _ _ => by rw [s1] at s2 ⊢; exact s2) ms.weak s1 (fun b hb => ⟨.inl hb, (E2.out i b hb).1, ms.al b (E2.out i b hb).2.2⟩) ?_) (sg.trans st.gg)
      refine .obj hC b_1 (by rw [List.length_append, List.length_append, hl]; rfl) ha sub ?_
      refine OwL.append (S2 := fun _ => False) (rl.mono (Same.refl _) (fun b o hb z => ?_) fun _ z => z) (.cons (S1 := fun _ => False) (S2 := fun _ => False) (.sh r) .nil (fun _ z _ => z) (fun _ z => z.elim) fun _ z => z.elim) (fun _ _ z => z) (fun _ z => z) fun _ z => z.elim
      rw [a_8 (sub b hb).2]
      exact z
     | _ => cases et
   ·exact q.elim
  ·exact q.elim
end
section
variable {X : Cx} {EX : EXS} {e : Expr} {es : List Expr} {x : Str} {pp pos : Pos} {cc : Bool} {k k' n : Nat} {ps : List Str} {C f : Addr} {fd : FuncData}
theorem cd_9 {zd : List (Addr × Obj)} {σ : Sg} {s : Shared} {Q : VK} {sp : Sp} (M : Mk X.K C f) (F : FnX X.prog X.w X.K X.mg X.base cc k f fd ps sp) (hr : RoomC cc (k + 1) X.A) (hb : Binds X.K fd ps []) (lk : Lk X EX) (I : Inv X zd σ H s) (r : Vals vs us)
  (h : ∀ x dx, H x = none → H dx = none → dx ≠ x → sp (.ref x :: vs) (upd (upd H dx (.own x)) x (.ins C dx [])) (fun v H2 => v = .non ∧ Q (.ref x) H2) (EXE X.K (EX σ))) : wpAny (model X.prog X.w) X.A (call (.ref C) us) (EP X zd σ Q) X.xe s := by
 have hq := h (s.heap.objs.size + 1) s.heap.objs.size (I.hok.fresh (Nat.le_succ _)) (I.hok.fresh (Nat.le_refl _)) (Nat.ne_of_lt (Nat.lt_succ_self _))
 have I2 := Inv.made (C := C) I
 have r2 : Vals (V.ref (s.heap.objs.size + 1) :: vs) (Value.ref (s.heap.objs.size + 1) :: us) := .cons rfl r
 have hl : (Value.ref (s.heap.objs.size + 1) :: us).length = ps.length := by
  rw [← r2.length]; exact F.len _ _ _ _ hq
 have hb' := hb _ (Value.ref (s.heap.objs.size + 1) :: us) I2.kIn (by rw [List.append_nil]; exact hl)
 rw [List.append_nil] at hb'
 refine wpAny_call (ch_7 (f := f) I.kIn M.makes M.init (beq_iff_eq.mp M.fn) (codeAny_mono (F.run _ X.stack _ _ ⟨Value.ref (s.heap.objs.size + 1) :: us, []⟩ (Value.ref (s.heap.objs.size + 1) :: us) _ _ _ (hr.make C us []) (I2.env0.make C us []) hb' r2 hq) fun r s' hq' => ?_))
 cases r with
 | error e => exact lk zd σ _ _ e s' I2 hq'
 | ok fl =>
  cases fl with
  | ret u =>
   obtain ⟨v, H', I3, rv, ev, q3⟩ := I2.after hq'
   subst ev
   exact ⟨rv, ⟨V.ref (s.heap.objs.size + 1), H', I3, rfl, q3⟩⟩
  | next => exact False.elim hq'
  | brk => exact False.elim hq'
  | cont => exact False.elim hq'
def MakD (P : Program) (w : World) (K : Frag) (mg : Str → Option Value) (base : Heap) (cc : Bool) (c : Str) (k n : Nat) (F : List D → R (List Str × List D)) : Prop :=
 ∃ C f fd ps, ClsAt K c C ∧ mg c = some (.ref C) ∧ Mk K C f ∧ FnX P w K mg base cc k f fd ps (spI K C n F) ∧ Binds K fd ps []
def ax_2 (c : Str) (n : Nat) (F : List D → R (List Str × List D)) (fa : FA) : FE := fun δ => (fa δ).bind fun ds => if ds.length = n then (F ds).bind fun p => .ok (.sh (.obj c p.1 p.2)) else .no
theorem bx_7 {F : List D → R (List Str × List D)} {fa : FA} (hr : RoomC cc k' X.A) (lk : Lk X EX) (h : MakD X.prog X.w X.K X.mg X.base cc x k n F) (ha : AD X EX (e :: es) fa) (hk : k + 1 ≤ k' := by decide) (hg : Gl X x := by rfl) (hdb : (x == ("__debug__" : Str)) = false := by decide)
  (he : starEach (e :: es) X.env = (false, eval e X.env) :: starEach es X.env := by rfl) (hpl : (backTo pos (starEach es X.env)).any (·.1) = false := by rfl) : ED X EX (.Call (.Name x pp) (e :: es) [] pos) (ax_2 x n F fa) := by
 obtain ⟨C, f, fd, ps, hC, hm, M, ok, hb⟩ := h
 intro zd s σ H Q I q
 obtain ⟨G, δ, g0, s0, o⟩ := q
 refine wpAny_Call_Name_kw (s_3 I hg hm ?_ hdb)
 have ta : tDa X.K EX fa σ H fun vs H1 => ∃ G1 ds, Same G1 H1 ∧ HasL X.K G1 vs ds ∧ ds.length = n ∧ Out X.K (EX σ) G1 H1 ((F ds).bind fun p => .ok (.sh (.obj x p.1 p.2))) Q := by
  refine tDa.seq g0 s0 o fun ds vs G' H' _ st r o' => ?_
  split at o'
  ·rename_i hl
   exact ⟨G', ds, st.gh, r, hl, o'⟩
  ·exact o'.elim
 refine callWith_K (h₀ := X.base) I.ok.mod.kin M.kp (thn (ha pos zd s σ H _ I ta) fun us s1 ⟨vs, H1, I1, r, G1, ds, sg, rl, hl, o'⟩ => ⟨I1.kIn, ?_⟩) he hpl
 refine cd_9 M ok (hr.mono hk) hb lk I1 r fun y dy ny ndy ne => ?_
 refine ⟨y, dy, vs, H1, G1, ds, rfl, by rw [rl.length]; exact hl, ny, (fun b o e => by rw [a_8 (b_9 e ny), a_8 (b_9 e ndy)]; exact e), b_1, sg, rl, ?_⟩
 cases ef : F ds with
 | ok p =>
  rw [ef] at o'
  intro G' H' us' dx' st gy hy zm rr
  refine ⟨rfl, ?_⟩
  have st2 : Step G1 H1 (upd G' y (.ins C dx' (p.1.zip us'))) H' := ⟨st.hh, fun b u z => by
   by_cases w : b = y
   ·subst w; rw [b_1] at z; rw [hy]; exact z
   ·rw [a_8 w] at z; exact st.gh b u z, st.gg.trans (i_1 gy _), fun b z1 z2 => by
   have w : b ≠ y := fun w => z2 (by rw [w]; exact ny)
   rw [a_8 w]; exact st.nw b z1 z2⟩
  exact o' _ _ _ st2 (.obj hC b_1 zm (rr.mono (i_1 gy _)))
 | ex z => rw [ef] at o'; exact EXof.in o'
 | no => rw [ef] at o'; exact o'
end
section
variable {K : Frag} {G : Hp} {a : Addr} {vs : List V} {ds : List D}
end
section
variable {X : Cx} {EX : EXS} {pos : Pos}
end
end L3
namespace L3
open PySem L2 Builtin Builtin.Str
variable {K : Frag} {fd : FuncData} {mg : Str → Option Value} {P : Program} {vs : List V} {us : List Value} {base : Heap} {H : Hp} {X : Cx} {pos : Pos} {v : V}
theorem cv_9 {x y : Str} (h : x.cps.toList = y.cps.toList) : x = y := by
 obtain ⟨a⟩ := x
 obtain ⟨b⟩ := y
 simp only at h
 have : a = b := by
  have := congrArg List.toArray h
  simpa using this
 rw [this]
theorem cw_0 (x : Str) : x.length = x.cps.toList.length := by simp [Str.length]
theorem cw_1 (x y : Str) : (x ++ y).cps.toList = x.cps.toList ++ y.cps.toList := by
 show (Str.append x y).cps.toList = _
 simp [Str.append]
end L3
namespace L3
open PySem L2
variable {K : Frag} {fd : FuncData} {mg : Str → Option Value} {P : Program} {vs : List V} {us : List Value} {base : Heap} {H : Hp} {X : Cx} {pos : Pos} {v : V}
theorem d_9 (i j : Int) : eqD (.int i) (.int j) = .ok (.sh (.bl (decide (i = j)))) := by
 have h : eqvD (.int i) (.int j) = decide (i = j) := by
  show (i == j) = decide (i = j)
  rw [Bool.beq_eq_decide_eq]
 show (if eqC (.int i) (.int j) = true then R.ok (W.sh (D.bl (eqvD (.int i) (.int j)))) else .no) = _
 rw [if_pos (by rfl), h]
theorem m_1 {i j : Int} (h1 : -18446744073709551616 < i) (h2 : i < 18446744073709551616) : mulC i j = true := decide_eq_true (.inl (by omega))
theorem ab_7 {i j : Int} (h1 : -18446744073709551616 < j) (h2 : j < 18446744073709551616) : mulC i j = true := decide_eq_true (.inr (by omega))
theorem f_8 {i j : Int} (h : mulC i j = true) : j_3 (.int i) (.int j) = .ok (.sh (.int (i * j))) := by unfold j_3 intD; simp only [h, if_true]
theorem e_2 (i j : Int) : d_7 (.int i) (.int j) = .ok (.sh (.int (i + j))) := rfl
theorem n_4 (i j : Int) : subD (.int i) (.int j) = .ok (.sh (.int (i - j))) := rfl
theorem f_9 {i j : Int} (h1 : 0 < j) (h2 : j < 1361129467683753853853498429727072845824) : r_0 (.int i) (.int j) = .ok (.sh (.int (i / j))) := by
 exact if_pos (show divC i j = true from decide_eq_true ⟨h1, by omega⟩)
theorem c_5 {i j : Int} (h1 : 0 < j) : h_4 (.int i) (.int j) = .ok (.sh (.int (i % j))) := by
 exact if_pos (show modC i j = true from decide_eq_true h1)
theorem ax_3 (i j : Int) : ltD (.int i) (.int j) = .ok (.sh (.bl (decide (i < j)))) := rfl
theorem cm_0 (i j : Int) : leD (.int i) (.int j) = .ok (.sh (.bl (decide (i ≤ j)))) := rfl
theorem bx_8 (i j : Int) : gtD (.int i) (.int j) = .ok (.sh (.bl (decide (j < i)))) := rfl
theorem bj_6 (i j : Int) : geD (.int i) (.int j) = .ok (.sh (.bl (decide (j ≤ i)))) := rfl
theorem dg_1 {x y : Str} (h : x.length + y.length ≤ 16777216) : d_7 (.str x) (.str y) = .ok (.sh (.str (x ++ y))) := if_pos h
theorem bs_1 {i j : Int} (h : powC i j = true) : powD (.int i) (.int j) = .ok (.sh (.int (i ^ j.toNat))) := by unfold powD intD; simp only [h, if_true]
theorem ap_7 {i j : Int} (h1 : 0 ≤ j) (h2 : j ≤ 1000000) (h3 : -18446744073709551616 < i) (h4 : i < 18446744073709551616) : powC i j = true := decide_eq_true ⟨h1, by omega, by omega⟩
theorem n_5 (ds : List D) : p_3 [.lst ds] = .ok (.sh (.int ds.length)) := rfl
theorem cm_1 {x : Str} (h : x.length ≤ 16777216) : p_3 [.str x] = .ok (.sh (.int x.length)) := if_pos h
theorem ap_8 (i j : Int) : maxD [.int i, .int j] = .ok (.sh (.int (max i j))) := by
 show R.ok (W.sh (D.int (if j > i then j else i))) = _
 rw [show (if j > i then j else i) = max i j by rw [Int.max_def]; split <;> split <;> omega]
theorem bc_0 (i j : Int) : minD [.int i, .int j] = .ok (.sh (.int (min i j))) := by
 show R.ok (W.sh (D.int (if j < i then j else i))) = _
 rw [show (if j < i then j else i) = min i j by rw [Int.min_def]; split <;> split <;> omega]
theorem ab_8 {ds : List D} {i : Int} {d : D} (h : atI ds i = some d) : ixD (.lst ds) (.int i) = .ok (.sh d) := by unfold ixD; simp only [h]
theorem bx_9 {ds : List D} {i : Int} {d : D} (h : atI ds i = some d) : ixD (.tup ds) (.int i) = .ok (.sh d) := by unfold ixD; simp only [h]
theorem cw_2 {x : Str} {i : Int} {c : Nat} (hz : x.length ≤ 16777216) (h : atI x.cps.toList i = some c) : ixD (.str x) (.int i) = .ok (.sh (.str ⟨#[c]⟩)) := by
 unfold ixD
 simp only [h, if_pos hz]
theorem bs_2 {α : Type} {xs : List α} {i : Int} {x : α} (h0 : 0 ≤ i) (h : xs[i.toNat]? = some x) : atI xs i = some x := by
 have hl : i.toNat < xs.length := (List.getElem?_eq_some_iff.mp h).1
 unfold atI ixN
 rw [if_pos h0, if_pos (by omega)]
 exact h
theorem u_5 (fg : FG) (g : FS) (I : Nat → SE → Prop) {n : Nat} {lo : Int} {Δ : SE} (h0 : I 0 Δ)
  (step : ∀ k Δ, k < n → I k Δ → ∃ Δ1, fg (.int (lo + (k : Int))) Δ = .ok Δ1 ∧ ∃ Δ2, (g Δ1 = .nx Δ2 ∨ g Δ1 = .ct Δ2) ∧ I (k + 1) Δ2) : ∃ Δ', j_1 fg g (g_8 lo n) Δ = .nx Δ' ∧ I n Δ' := by
 have all : ∀ (m k : Nat) (Δ : SE), k + m = n → I k Δ → ∃ Δ', j_1 fg g ((List.range' k m).map fun (j : Nat) => D.int (lo + (j : Int))) Δ = .nx Δ' ∧ I n Δ' := by
  intro m
  induction m with
  | zero => intro k Δ e h; exact ⟨Δ, rfl, by rw [← e]; exact h⟩
  | succ m ih =>
   intro k Δ e h
   obtain ⟨Δ1, e1, Δ2, e2, h2⟩ := step k Δ (by omega) h
   obtain ⟨Δ', e3, h3⟩ := ih (k + 1) Δ2 (by omega) h2
   refine ⟨Δ', ?_, h3⟩
   rw [List.range'_succ, List.map_cons]
   show (match fg (.int (lo + (k : Int))) Δ with
    | .ok Δ1 => (match g Δ1 with
     | .nx Δ2 => j_1 fg g _ Δ2
     | .ct Δ2 => j_1 fg g _ Δ2
     | .bk Δ2 => .nx Δ2
     | r => r)
    | .ex _ => .no
    | .no => .no) = _
   rw [e1]
   rcases e2 with e2 | e2
   ·simp only [e2]; exact e3
   ·simp only [e2]; exact e3
 obtain ⟨Δ', e, h⟩ := all n 0 Δ (by omega) h0
 refine ⟨Δ', ?_, h⟩
 unfold g_8
 rw [List.range_eq_range']
 exact e
theorem g_0 (fg : FG) (g : FS) (I : Nat → SE → Prop) {ds : List D} {Δ : SE} (h0 : I 0 Δ)
  (step : ∀ k d Δ, ds[k]? = some d → I k Δ → ∃ Δ1, fg d Δ = .ok Δ1 ∧ ∃ Δ2, (g Δ1 = .nx Δ2 ∨ g Δ1 = .ct Δ2) ∧ I (k + 1) Δ2) : ∃ Δ', j_1 fg g ds Δ = .nx Δ' ∧ I ds.length Δ' := by
 have all : ∀ (m k : Nat) (Δ : SE), k + m = ds.length → I k Δ → ∃ Δ', j_1 fg g (ds.drop k) Δ = .nx Δ' ∧ I ds.length Δ' := by
  intro m
  induction m with
  | zero =>
   intro k Δ e h
   rw [List.drop_eq_nil_of_le (by omega)]
   exact ⟨Δ, rfl, by rw [← e]; exact h⟩
  | succ m ih =>
   intro k Δ e h
   obtain ⟨d, d1, d2⟩ := w_9 (l := ds) (i := k) (by omega)
   obtain ⟨Δ1, e1, Δ2, e2, h2⟩ := step k d Δ d1 h
   obtain ⟨Δ', e3, h3⟩ := ih (k + 1) Δ2 (by omega) h2
   refine ⟨Δ', ?_, h3⟩
   rw [d2]
   show (match fg d Δ with
    | .ok Δ1 => (match g Δ1 with
     | .nx Δ2 => j_1 fg g (ds.drop (k + 1)) Δ2
     | .ct Δ2 => j_1 fg g (ds.drop (k + 1)) Δ2
     | .bk Δ2 => .nx Δ2
     | r => r)
    | .ex _ => .no
    | .no => .no) = _
   rw [e1]
   rcases e2 with e2 | e2
   ·simp only [e2]; exact e3
   ·simp only [e2]; exact e3
 have := all ds.length 0 Δ (by omega) h0
 rwa [List.drop_zero] at this
theorem ce_0 {fg : FGc} {p : FT} {f : FE} {δ : DE} {F : Int → D} : ∀ (n : Nat) (lo : Int), (∀ k : Nat, k < n → ∃ δ1 w, fg (.int (lo + (k : Int))) δ = .ok δ1 ∧ p δ1 = .ok true ∧ f δ1 = .ok w ∧ w.d = F (lo + (k : Int))) →
  j_2 fg p f δ (g_8 lo n) = .ok ((List.range n).map fun (k : Nat) => F (lo + (k : Int))) := by
 have all : ∀ (es : List Nat) (lo : Int), (∀ k ∈ es, ∃ δ1 w, fg (.int (lo + ((k : Nat) : Int))) δ = .ok δ1 ∧ p δ1 = .ok true ∧ f δ1 = .ok w ∧ w.d = F (lo + (k : Int))) →
   j_2 fg p f δ (es.map fun (k : Nat) => D.int (lo + (k : Int))) = .ok (es.map fun (k : Nat) => F (lo + (k : Int))) := by
  intro es lo
  induction es with
  | nil => intro _; rfl
  | cons k es ih =>
   intro h
   obtain ⟨δ1, w, e1, e2, e3, e4⟩ := h k List.mem_cons_self
   have e5 := ih fun j hj => h j (List.mem_cons_of_mem _ hj)
   rw [List.map_cons, List.map_cons]
   show ((fg (.int (lo + (k : Int))) δ).bind fun δ1 => (p δ1).bind fun b => if b = true then (f δ1).bind fun w => (j_2 fg p f δ _).bind fun rs => .ok (w.d :: rs) else j_2 fg p f δ _) = _
   rw [e1]
   simp only [R.bind_ok, e2, if_true, e3]
   rw [e5]
   simp only [R.bind_ok, e4]
 intro n lo h
 exact all (List.range n) lo fun k hk => h k (List.mem_range.mp hk)
theorem o_7 {j : Int} (h1 : -4611686018427387903 ≤ j) (h2 : j < 4611686018427387904) : p_4 [.int j] = .ok (g_8 0 j.toNat) := by
 have h : j.natAbs < 4611686018427387904 := by omega
 exact if_pos h
theorem by_0 {i j : Int} (h1 : -4611686018427387903 ≤ i) (h2 : i < 4611686018427387904) (h3 : -4611686018427387903 ≤ j) (h4 : j < 4611686018427387904) : rng2 [.int i, .int j] = .ok (g_8 i (j - i).toNat) := by
 have h : i.natAbs < 4611686018427387904 ∧ j.natAbs < 4611686018427387904 := ⟨by omega, by omega⟩
 exact if_pos h
theorem i_2 {m : Nat} {fi : FI} {fg : FGc} {p : FT} {f : FE} {δ : DE} {ds rs : List D} (h : fi δ = .ok ds) (hl : ds.length ≤ 16777216) (hc : j_2 fg p f (δ ++ List.replicate m none) ds = .ok rs) : c_6 m fi fg p f δ = .ok (.ow (.lst rs)) := by
 unfold c_6
 rw [h]
 simp only [R.bind_ok]
 rw [if_pos hl, hc]
 rfl
theorem cz_6 {fg : FGc} {p : FT} {f : FE} {δ : DE} : ∀ (n : Nat) (lo : Int), (∀ k : Nat, k < n → ∃ δ1 z, fg (.int (lo + (k : Int))) δ = .ok δ1 ∧ p δ1 = .ok true ∧ f δ1 = .ok (.sh (.int z))) →
  ∃ cs : List Int, cs.length = n ∧ j_2 fg p f δ (g_8 lo n) = .ok (cs.map D.int) := by
 have all : ∀ (es : List Nat) (lo : Int), (∀ k ∈ es, ∃ δ1 z, fg (.int (lo + ((k : Nat) : Int))) δ = .ok δ1 ∧ p δ1 = .ok true ∧ f δ1 = .ok (.sh (.int z))) →
   ∃ cs : List Int, cs.length = es.length ∧ j_2 fg p f δ (es.map fun (k : Nat) => D.int (lo + (k : Int))) = .ok (cs.map D.int) := by
  intro es lo
  induction es with
  | nil => intro _; exact ⟨[], rfl, rfl⟩
  | cons k es ih =>
   intro h
   obtain ⟨δ1, z, e1, e2, e3⟩ := h k List.mem_cons_self
   obtain ⟨cs, l5, e5⟩ := ih fun j hj => h j (List.mem_cons_of_mem _ hj)
   refine ⟨z :: cs, by simp [l5], ?_⟩
   rw [List.map_cons, List.map_cons]
   show ((fg (.int (lo + (k : Int))) δ).bind fun δ1 => (p δ1).bind fun b => if b = true then (f δ1).bind fun w => (j_2 fg p f δ _).bind fun rs => .ok (w.d :: rs) else j_2 fg p f δ _) = _
   rw [e1]
   simp only [R.bind_ok, e2, if_true, e3]
   rw [e5]
   rfl
 intro n lo h
 obtain ⟨cs, l, e⟩ := all (List.range n) lo fun k hk => h k (List.mem_range.mp hk)
 exact ⟨cs, by rw [l, List.length_range], e⟩
theorem cm_2 {js : List Nat} {p : FT} {g : FS} {n : Nat} {Δ Δ' : SE} (h1 : p (vall Δ) = .ok true) (h2 : g Δ = .nx Δ') : j_5 js p g (n + 1) Δ = j_5 js p g n Δ' := by
 show (match p (vall Δ) with
  | .ok b => if b = true then (match g Δ with
    | .nx Δ' => j_5 js p g n Δ'
    | .ct Δ' => j_5 js p g n Δ'
    | .bk Δ' => .nx Δ'
    | r => r) else .nx Δ
  | .ex _ => exT js p Δ
  | .no => .no) = _
 rw [h1]
 simp only [if_true, h2]
theorem ax_4 {js : List Nat} {p : FT} {g : FS} {n : Nat} {Δ : SE} (h1 : p (vall Δ) = .ok false) : j_5 js p g (n + 1) Δ = .nx Δ := by
 show (match p (vall Δ) with
  | .ok b => if b = true then (match g Δ with
    | .nx Δ' => j_5 js p g n Δ'
    | .ct Δ' => j_5 js p g n Δ'
    | .bk Δ' => .nx Δ'
    | r => r) else .nx Δ
  | .ex _ => exT js p Δ
  | .no => .no) = _
 rw [h1]
 simp only [Bool.false_eq_true, if_false]
theorem bs_3 (d : D) : Sl.pub (.sh d) = some d := rfl
theorem cm_3 (d : D) : Sl.pub (.ow d) = none := rfl
theorem cm_4 : Sl.pub .no = none := rfl
theorem bs_4 (d : D) : Sl.any (.sh d) = some d := rfl
theorem dg_2 (d : D) : Sl.any (.ow d) = some d := rfl
theorem dg_3 : Sl.any .no = none := rfl
theorem cw_3 (d : D) : Sl.give (.sh d) = .sh d := rfl
theorem cw_4 (d : D) : Sl.give (.ow d) = .sh d := rfl
theorem cw_5 : Sl.give .no = .no := rfl
theorem b_0 {g h : FS} {Δ Δ' : SE} (e : g Δ = .nx Δ') : sSeq g h Δ = h Δ' := by unfold sSeq; rw [e]
theorem l_6 {n : Nat} {g : FS} {ds : List D} {w : W} (e : g (start3 n ds) = .rt w) : bodyD n g ds = .ok w := by unfold bodyD; rw [e]
theorem q_6 {fg : FGc} {p : FT} {f : FE} {δ : DE} (P : D → Bool) (F : D → D) : ∀ (ds : List D), (∀ d ∈ ds, ∃ δ1, fg d δ = .ok δ1 ∧ p δ1 = .ok (P d) ∧ (P d = true → ∃ w, f δ1 = .ok w ∧ w.d = F d)) →
  j_2 fg p f δ ds = .ok ((ds.filter P).map F)
 | [], _ => rfl
 | d :: ds, h => by
  obtain ⟨δ1, e1, e2, e3⟩ := h d List.mem_cons_self
  have ih := q_6 P F ds fun x hx => h x (List.mem_cons_of_mem _ hx)
  show ((fg d δ).bind fun δ1 => (p δ1).bind fun b => if b = true then (f δ1).bind fun w => (j_2 fg p f δ ds).bind fun rs => .ok (w.d :: rs) else j_2 fg p f δ ds) = _
  rw [e1]
  simp only [R.bind_ok, e2]
  cases hP : P d with
  | true =>
   obtain ⟨w, e4, e5⟩ := e3 hP
   rw [if_pos rfl, e4, ih]
   simp only [R.bind_ok, e5, List.filter_cons_of_pos hP, List.map_cons]
  | false =>
   rw [if_neg Bool.false_ne_true, ih, List.filter_cons_of_neg (by rw [hP]; exact Bool.false_ne_true)]
theorem x_3 {fg : FGc} {f : FE} {δ : DE} (F : D → D) (ds : List D) (h : ∀ d ∈ ds, ∃ δ1 w, fg d δ = .ok δ1 ∧ f δ1 = .ok w ∧ w.d = F d) :
  j_2 fg (fun _ => .ok true) f δ ds = .ok (ds.map F) := by
 have := q_6 (fg := fg) (p := fun _ => .ok true) (f := f) (δ := δ) (fun _ => true) F ds fun d hd => by
  obtain ⟨δ1, w, e1, e2, e3⟩ := h d hd
  exact ⟨δ1, e1, rfl, fun _ => ⟨w, e2, e3⟩⟩
 rw [this, List.filter_eq_self.mpr fun _ _ => rfl]
theorem bj_7 : isT "int" .non = some false := rfl
theorem bs_5 (b : Bool) : isT "int" (.bl b) = some true := rfl
theorem bj_8 (i : Int) : isT "int" (.int i) = some true := rfl
theorem bj_9 (x : Str) : isT "int" (.str x) = some false := rfl
theorem bk_0 (l : List D) : isT "int" (.lst l) = some false := rfl
theorem bk_1 (l : List D) : isT "int" (.tup l) = some false := rfl
theorem bc_1 : isT "bool" .non = some false := rfl
theorem bk_2 (b : Bool) : isT "bool" (.bl b) = some true := rfl
theorem bc_2 (i : Int) : isT "bool" (.int i) = some false := rfl
theorem bc_3 (x : Str) : isT "bool" (.str x) = some false := rfl
theorem bc_4 (l : List D) : isT "bool" (.lst l) = some false := rfl
theorem bc_5 (l : List D) : isT "bool" (.tup l) = some false := rfl
theorem bk_3 : isT "str" .non = some false := rfl
theorem bs_6 (b : Bool) : isT "str" (.bl b) = some false := rfl
theorem bk_4 (i : Int) : isT "str" (.int i) = some false := rfl
theorem bk_5 (x : Str) : isT "str" (.str x) = some true := rfl
theorem bk_6 (l : List D) : isT "str" (.lst l) = some false := rfl
theorem bk_7 (l : List D) : isT "str" (.tup l) = some false := rfl
theorem bc_6 : isT "list" .non = some false := rfl
theorem bk_8 (b : Bool) : isT "list" (.bl b) = some false := rfl
theorem bc_7 (i : Int) : isT "list" (.int i) = some false := rfl
theorem bc_8 (x : Str) : isT "list" (.str x) = some false := rfl
theorem bc_9 (l : List D) : isT "list" (.lst l) = some true := rfl
theorem bd_0 (l : List D) : isT "list" (.tup l) = some false := rfl
theorem at_3 : isT "tuple" .non = some false := rfl
theorem bd_1 (b : Bool) : isT "tuple" (.bl b) = some false := rfl
theorem at_4 (i : Int) : isT "tuple" (.int i) = some false := rfl
theorem at_5 (x : Str) : isT "tuple" (.str x) = some false := rfl
theorem at_6 (l : List D) : isT "tuple" (.lst l) = some false := rfl
theorem at_7 (l : List D) : isT "tuple" (.tup l) = some true := rfl
end L3
namespace L3
open PySem PySem.Spec PyProof.Rows L2
variable {K : Frag} {fd : FuncData} {mg : Str → Option Value} {P : Program} {vs : List V} {us : List Value} {base : Heap} {H : Hp} {X : Cx} {pos : Pos} {v : V}
def bd_2 : List Value → Bool
 | .ref _ :: r => bd_2 r
 | l => l == [.type "ValueError", .type "Exception", .type "BaseException", .type "object"]
theorem aa_4 (self : Value) : ∀ {l : List Value}, bd_2 l = true → refuseLoop self "__setattr__" l = pure ()
 | [], e => by cases e
 | .ref c :: r, e => by rw [refuseLoop_ref]; exact aa_4 self e
 | .type n :: r, e => by
  have e' : (Value.type n :: r) = [.type "ValueError", .type "Exception", .type "BaseException", .type "object"] := eq_of_beq e
  rw [e']
  exact PySem.F.store_ValueError.passes self
 | .none :: r, e => by cases (eq_of_beq (show ((Value.none :: r) == [.type "ValueError", .type "Exception", .type "BaseException", .type "object"]) = true from e))
 | .bool b :: r, e => by cases (eq_of_beq (show ((Value.bool b :: r) == [.type "ValueError", .type "Exception", .type "BaseException", .type "object"]) = true from e))
 | .int b t :: r, e => by cases (eq_of_beq (show ((Value.int b t :: r) == [.type "ValueError", .type "Exception", .type "BaseException", .type "object"]) = true from e))
 | .str b t :: r, e => by cases (eq_of_beq (show ((Value.str b t :: r) == [.type "ValueError", .type "Exception", .type "BaseException", .type "object"]) = true from e))
 | .builtin b :: r, e => by cases (eq_of_beq (show ((Value.builtin b :: r) == [.type "ValueError", .type "Exception", .type "BaseException", .type "object"]) = true from e))
theorem ap_9 : ∀ {l : List Value}, bd_2 l = true → l.contains (.type "object") = true ∧ l.isEmpty = false
 | [], e => by cases e
 | .ref c :: r, e => ⟨by rw [List.contains_cons, (ap_9 (l := r) e).1, Bool.or_true], rfl⟩
 | .type n :: r, e => by
  have e' : (Value.type n :: r) = [.type "ValueError", .type "Exception", .type "BaseException", .type "object"] := eq_of_beq e
  rw [e']
  exact ⟨by decide, rfl⟩
 | .none :: r, e => by cases (eq_of_beq (show ((Value.none :: r) == [.type "ValueError", .type "Exception", .type "BaseException", .type "object"]) = true from e))
 | .bool b :: r, e => by cases (eq_of_beq (show ((Value.bool b :: r) == [.type "ValueError", .type "Exception", .type "BaseException", .type "object"]) = true from e))
 | .int b t :: r, e => by cases (eq_of_beq (show ((Value.int b t :: r) == [.type "ValueError", .type "Exception", .type "BaseException", .type "object"]) = true from e))
 | .str b t :: r, e => by cases (eq_of_beq (show ((Value.str b t :: r) == [.type "ValueError", .type "Exception", .type "BaseException", .type "object"]) = true from e))
 | .builtin b :: r, e => by cases (eq_of_beq (show ((Value.builtin b :: r) == [.type "ValueError", .type "Exception", .type "BaseException", .type "object"]) = true from e))
structure XCls (K : Frag) (C : Addr) : Prop where
 sa : findIn K (.ref C) "__setattr__" = some (some (.builtin "object.__setattr__"))
 over : (clsIn K C).any (fun cd => bd_2 cd.mro && cd.hasDict) = true
section
variable {prog : Program} {w : World} {A : Around} {E : Value → Shared → Prop} {s : Shared} {K : Frag} {x C : Addr} {R : Result → Shared → Prop}
theorem cw_6 {ox : Obj} {od : Option Obj} {name : Str} {tk : Tok} {v : Value} (X : K.In s.heap) (I : InstAt s.heap x ox C od) (xc : XCls K C) (ha : findIn K (.ref C) name = some none)
  (h : wpAny (model prog w) A.in1 (Builtin.ObjectAttr.storeInOwnDict (.ref x) (.ref C) (.str name tk) name v false)
   (fun fin s' => match fin with | .done f => R (.ok f) s' | .again c' => c'.quiet = true ∧ codeAny (model prog w) A c' R s') (fun e s' => R (.error e) s') s) :
  codeAny (model prog w) A (.call (.builtin "object.__setattr__") ⟨[.ref x, .str name tk, v], []⟩) R s := by
 have SF := PySem.F.store_object
 obtain ⟨cd, hc, ho⟩ := any_some xc.over
 rw [Bool.and_eq_true] at ho
 obtain ⟨hs1, hs2⟩ := ap_9 ho.1
 have sub : Looks (model prog w) s.heap (isInstance (.ref x) (.type "object")) true := I.type.andThen (looks_mroIn X (by unfold mroIn; rw [hc, Option.bind_some, if_neg (by rw [hs2]; decide), hs1]))
 refine codeAny_call_builtin SF.slot.plain SF.entry (@check_slot (model prog w) _ _ s "object.__setattr__" "object" "__setattr__" (.ref x) [.str name tk, v] [] _ SF.kind SF.split sub (SF.args (.ref x) (.str name tk) v) ?_)
 have hm : Looks (model prog w) s.heap (mroOf (.ref C)) cd.mro := (looks_clsIn X hc).andThen .now
 rw [osa_eq, refuse_eq]
 refine wpAny_bind (wpAny_bind (I.type.here (wpAny_bind (hm.here ?_))))
 rw [aa_4 _ ho.1]
 refine wpAny_pure (wpAny_bind (I.type.here (wpAny_bind ((looks_findIn X ha).here (wpAny_bind (wpAny_pure (a := (none : Option Value)) ?_))))))
 exact h
theorem ce_1 {D : Addr} {name : Str} {tk : Tok} {v : Value} {Q : PySem.Fin → Shared → Prop} (hD : s.heap.get? D = some { cls := .type "dict", data := .dict #[] })
  (h : ∀ h' tk, h'.Ns1 D (fun y => if y = name then some v else none) → Heap.SameBut D s.heap h' → Q (.done (.ret .none)) { s with heap := h', toks := tk }) : wpAny (model prog w) A (Builtin.ObjectAttr.storeInDict D (.str name tk) name v) Q E s := by
 have cj : s.heap.Ns D fun _ => none := ⟨_, #[], _, hD, rfl, fun _ he => (Array.not_mem_empty _ he).elim, fun _ => rfl⟩
 unfold Builtin.ObjectAttr.storeInDict Builtin.ObjectAttr.newKeyGuard
 wp_walk using wpAny_nsSet1 (Heap.Ns1.of_empty cj)
 intro h' n sb
 obtain ⟨o, es, ep, at1, is1, few⟩ := n.count (.cons name v .nil)
 have le : es.size ≤ sizeLine + 1 := Nat.le_trans few (by simp [sizeLine_eq])
 exact wpAny_bind (wpAny_lookBehind at1 (is1 ▸ pastItsLine_dict le) (wpAny_pure (h h' _ n sb)))
theorem bk_9 {name : Str} {v : Value} {us : Array Value} {Q : Unit → Shared → Prop} (X : K.In s.heap) (hx : s.heap.get? x = some ⟨.ref C, none, .fields us, #[]⟩) (xc : XCls K C) (ha : findIn K (.ref C) name = some none)
  (h : ∀ h' tk, h'.get? x = some ⟨.ref C, some s.heap.objs.size, .fields us, #[]⟩ → h'.Ns1 s.heap.objs.size (fun y => if y = name then some v else none) → (∀ b o, b ≠ x → s.heap.get? b = some o → h'.get? b = some o) → Q () { s with heap := h', toks := tk }) :
  wpAny (model prog w) A (setAttr (.ref x) name v) Q E s := by
 have I : InstAt s.heap x ⟨.ref C, none, .fields us, #[]⟩ C none := ⟨hx, rfl, rfl, True.intro⟩
 refine set_plain X I xc.sa (cw_6 (s := { s with toks := s.toks + 1 }) X I xc ha ?_)
 obtain ⟨cd, hc, hd'⟩ := any_some xc.over
 rw [Bool.and_eq_true] at hd'
 refine wpAny_bind (wpAny_pure (wpAny_bind (wpAny_bind (wpAny_loadPart (s := { s with toks := s.toks + 1 }) hx (wpAny_bind (Looks.here (s := { s with toks := s.toks + 1 }) (looks_clsIn X hc) ?_))))))
 rw [hd'.2]
 
 have neD : x ≠ s.heap.objs.size := Nat.ne_of_lt (Heap.lt_size hx)
 have old : ∀ b o, b ≠ x → s.heap.get? b = some o → ((s.heap.push { cls := .type "dict", data := .dict #[] }).update x fun o => { o with dict := some s.heap.objs.size }).get? b = some o := fun b o hb e => by
  rw [Heap.get?_update_ne _ _ _ _ hb]; exact Heap.get?_push_of_some _ e
 have itself := Heap.get?_update_self (fun o : Obj => { o with dict := some s.heap.objs.size }) (Heap.get?_push_of_some { cls := .type "dict", data := .dict #[] } hx) rfl
 have isD : ((s.heap.push { cls := .type "dict", data := .dict #[] }).update x fun o => { o with dict := some s.heap.objs.size }).get? s.heap.objs.size = some { cls := .type "dict", data := .dict #[] } := by
  rw [Heap.get?_update_ne _ _ _ _ (Ne.symm neD)]; exact Heap.get?_push_size _ rfl
 refine wpAny_bind (wpAny_alloc' (wpAny_bind (wpAny_update' (Heap.get?_push_of_some _ hx) (wpAny_pure (ce_1 isD fun h' tk n sb => h h' tk ?_ n fun b o hb e => ?_)))))
 ·rw [sb.2 x neD]; exact itself
 ·rw [sb.2 b (Nat.ne_of_lt (Heap.lt_size e))]; exact old b o hb e
end
def XE (a : Addr) (o : Obj) : HO := .ext fun h => h.get? a = some o
theorem XE.ok {w : World} {h : Heap} {a : Addr} {o : Obj} (e : h.get? a = some o) : ObjOk P w H h a (XE a o) := ⟨e, ⟨o, e⟩, fun _ _ p k => k _ p⟩
theorem XE.get {w : World} {h : Heap} {a : Addr} {o : Obj} (x : HOk P w H h) (e : H a = some (XE a o)) : h.get? a = some o := (x a _ e).1
theorem XO.ok {w : World} {h : Heap} {a C : Addr} {dx : Option Addr} {us : Array Value} {sl : Array (Option Value)} (e : h.get? a = some ⟨.ref C, dx, .fields us, sl⟩) : ObjOk P w H h a (XO a C dx) :=
 ⟨⟨us, sl, e⟩, ⟨_, e⟩, fun _ _ ⟨us, sl, p⟩ k => ⟨us, sl, k _ p⟩⟩
section
variable {X : Cx} {zd : List (Addr × Obj)} {σ : Sg} {H : Hp} {s : Shared}
theorem Inv.excSet {a : Addr} {o0 o1 : Obj} {h' : Heap} {t' : Nat} {fs : List (Str × V)} {mA : Str → Option Value} (I : Inv X zd σ H s) (e : H a = some (XE a o0)) (hx : h'.get? a = some o1) (hn : h'.Ns1 s.heap.objs.size mA) (hr : ∀ f, RelO (fs.lookup f) (mA f))
  (k : ∀ b o, b ≠ a → s.heap.get? b = some o → h'.get? b = some o) : Inv X zd σ (upd (upd H s.heap.objs.size (.xd fs)) a (XE a o1)) { s with heap := h', toks := t' } := by
 have hf : H s.heap.objs.size = none := I.hok.fresh (Nat.le_refl _)
 have other : ∀ b u, H b = some u → b ≠ a → (upd (upd H s.heap.objs.size (.xd fs)) a (XE a o1)) b = some u := fun b u q n => by
  rw [a_8 n, a_8 (b_9 q hf)]; exact q
 refine I.un (h' := h') ⟨fun b o q n _ _ => k b o (fun z => by subst z; rw [e] at n; cases n) q, fun b o q n _ _ => ⟨o.slots, k b o (fun z => by subst z; rw [e] at n; cases n) q⟩, fun b o q n _ => ?_, fun b o q _ => ?_, fun b xs q => ?_, fun b o u q => ?_, fun b ps q => ?_⟩ fun b u q => ?_
 ·rw [a_8 (fun z => by subst z; rw [e] at n; cases n), a_8 (Nat.ne_of_lt (Heap.lt_size q))]; exact n
 ·by_cases z : b = a
  ·subst z; exact ⟨_, hx⟩
  ·exact ⟨_, k b o z q⟩
 ·exact other b _ q fun z => by subst z; rw [e] at q; cases q
 ·exact other b _ q fun z => by subst z; rw [e] at q; cases q
 ·exact ⟨#[], by rw [other b _ q fun z => by subst z; rw [e] at q; cases q]; simp⟩
 ·by_cases z : b = a
  ·subst z
   rw [b_1] at q
   cases q
   exact XE.ok hx
  ·rw [a_8 z] at q
   by_cases z2 : b = s.heap.objs.size
   ·subst z2
    rw [b_1] at q
    cases q
    exact ⟨mA, hn, hr⟩
   ·rw [a_8 z2] at q
    refine (I.hok b u q).stay (fun c v hc z3 => k c v ?_ z3) (fun c z3 => other c _ z3 fun z4 => ?_) fun c xs z3 => other c _ z3 fun z4 => ?_
    ·rcases hc with rfl | hc
     ·exact z
     ·exact fun z4 => by subst z4; rw [e] at hc; cases hc
    ·subst z4; rw [e] at z3; cases z3
    ·subst z4; rw [e] at z3; cases z3
theorem Inv.forget {a : Addr} {φ : Heap → Prop} (I : Inv X zd σ (upd H a (.ext φ)) s) (hn : H a = none) : Inv X zd σ H s := by
 have sub : ∀ b u, H b = some u → upd H a (.ext φ) b = some u := fun b u e => by rw [a_8 (b_9 e hn)]; exact e
 have nf : ∀ b, upd H a (.ext φ) b = none → H b = none := fun b e => by
  by_cases z : b = a
  ·subst z; exact hn
  ·rw [a_8 z] at e; exact e
 have bk : ∀ b u, upd H a (.ext φ) b = some u → (∀ ψ, u ≠ .ext ψ) → H b = some u := fun b u e n => by
  by_cases z : b = a
  ·subst z; rw [b_1] at e; cases e; exact absurd rfl (n φ)
  ·rw [a_8 z] at e; exact e
 have B := I.base
 refine ⟨I.ok, I.os, I.bare, ⟨B.keep, B.slot, fun b u q n x => nf b (B.free b u q n x), B.there, fun b xs q => bk _ _ (B.tups b xs q) (fun _ z => nomatch z), fun b u v q => bk _ _ (B.frzs b u v q) (fun _ z => nomatch z), fun b ps q => ?_⟩, I.loc, I.cell, nf _ I.free, fun x c e => nf _ (I.freeC x c e), fun p hp => ?_, fun b u e => ?_, I.len⟩
 ·obtain ⟨more, z⟩ := B.tbls b ps q
  exact ⟨more, bk _ _ z (fun _ z => nomatch z)⟩
 ·obtain ⟨p1, p2, p3⟩ := I.pin p hp
  exact ⟨p1, nf _ p2, p3⟩
 ·exact (I.hok b u (sub b u e)).stay (fun _ _ _ q => q) (fun c q => bk _ _ q (fun _ z => nomatch z)) (fun c xs q => bk _ _ q (fun _ z => nomatch z))
end
def aq_0 (C : Addr) (f : Str) : Sp := fun vs H Q _ => ∃ a v us, vs = [.ref a, v] ∧ H a = some (XE a ⟨.ref C, none, .fields us, #[]⟩) ∧ ∀ d, H d = none → d ≠ a → Q .non (upd (upd H d (.xd [(f, v)])) a (XE a ⟨.ref C, some d, .fields us, #[]⟩))
section
variable {X : Cx} {C : Addr} {f : Str} {pos pos' p1 p2 : Pos} {x y : Str}
def cz_7 (C : Addr) (f : Str) : TS := fun D σ H => ∃ a v us, σ[0]? = some (some (.ref a)) ∧ σ[1]? = some (some v) ∧ H a = some (XE a ⟨.ref C, none, .fields us, #[]⟩) ∧ ∀ d, H d = none → d ≠ a → D.nx σ (upd (upd H d (.xd [(f, v)])) a (XE a ⟨.ref C, some d, .fields us, #[]⟩))
theorem by_1 (xc : XCls X.K C) (hn : findIn X.K (.ref C) f = some none) (ho : PE X (.Name x p1) (tVar 0)) (hv : PE X (.Name y p2) (tVar 1)) (hs : swapsWith (.Name y p2) (some (.Attribute (.Name x p1) f pos')) pos.line X.env = pure false := by rfl) :
  PS X (.Assign [.Attribute (.Name x p1) f pos'] (.Name y p2) pos) (cz_7 C f) := by
 intro zd s σ H D I h
 obtain ⟨a, v, us, e0, e1, ha, q⟩ := h
 refine plainObj_wpAny_Assign_Attribute (thn (hv zd s σ H (fun y H1 => y = v ∧ H1 = H) I ⟨v, e1, rfl, rfl⟩) fun u s1 ⟨y, H1, I1, ry, ey, eH⟩ => thn (ho zd s1 σ H1 (fun y H2 => y = .ref a ∧ H2 = H) I1 ⟨.ref a, e0, rfl, eH⟩) fun ov s2 ⟨x, H2, I2, rx, ex, eH2⟩ => ?_) hs
 subst ey ex eH eH2
 obtain rfl : ov = Value.ref a := rx
 refine bk_9 I2.kIn (XE.get I2.hok ha) xc hn fun h' tk g1 g2 g3 => ?_
 refine ⟨σ, _, Inv.excSet I2 (t' := tk) (fs := [(f, y)]) ha g1 g2 (fun g => ?_) g3, q _ (I2.hok.fresh (Nat.le_refl _)) ?_⟩
 ·show RelO ([(f, y)].lookup g) (if g = f then some u else none)
  by_cases z : g = f
  ·subst z; rw [if_pos rfl]; simp only [List.lookup_cons, beq_self_eq_true]; exact ry
  ·rw [if_neg z]
   have zb : (g == f) = false := by simpa using z
   simp only [List.lookup_cons, zb, List.lookup_nil]
   trivial
 ·exact Nat.ne_of_gt (Heap.lt_size (XE.get I2.hok ha))
end
abbrev bmVE : List Value := [.type "ValueError", .type "Exception", .type "BaseException", .type "object"]
def e_5 (es : Array DictEntry) : Bool := es.toList.all fun e => match e.key with | .str _ _ => true | _ => false
theorem bs_7 {es : Array DictEntry} (h : e_5 es = true) : StrKeys es := fun e he => by
 have q := List.all_eq_true.mp h e (Array.mem_toList_iff.mpr he)
 revert q
 cases hk : e.key with
 | str n t => intro _; exact ⟨n, t, rfl⟩
 | _ => intro q; cases q
theorem by_2 {N : Addr} {oc : Value} {od : Option Addr} {es : Array DictEntry} {ep : Nat} {sl : Array (Option Value)} (l : K.lookup N = some ⟨oc, od, .dict es ep, sl⟩) (k : e_5 es = true) {h : Heap} (X : K.In h) : h.Ns N (nsFind es) :=
 ⟨_, es, ep, X _ _ l, rfl, bs_7 k, fun _ => rfl⟩
def XMk (K : Frag) (C fI : Addr) : Prop := ∃ (nm q : Str) (N : Addr) (bs bm : List Value) (sn : List Str) (sub : List Value) (ab : Bool) (col : Option Bool) (dd : Option Addr) (k0 k1 k2 k3 k5 : Option Value) (mN : Str → Option Value),
 K.lookup C = some (excClassObj nm q C N bs bm true sn sub ab col dd k0 k1 k2 k3 k5 "ValueError.__new__") ∧ (∀ h : Heap, K.In h → OwnTail h bmVE bm) ∧ (∀ h : Heap, K.In h → h.Ns N mN) ∧ mN "__init__" = some (.ref fI)
theorem cm_5 {C fI N L : Addr} {nm q : Str} {bs : List Value} {sn : List Str} {sub : List Value} {ab : Bool} {col : Option Bool} {dd : Option Addr} {k0 k1 k2 k3 k5 : Option Value} {oc c0 oL : Value} {od ddL odL : Option Addr} {es esL : Array DictEntry} {ep epL : Nat} {sl sl0 slL : Array (Option Value)} {cd : ClassData}
  (lc : K.lookup C = some (excClassObj nm q C N bs (.ref L :: bmVE) true sn sub ab col dd k0 k1 k2 k3 k5 "ValueError.__new__")) (ln : K.lookup N = some ⟨oc, od, .dict es ep, sl⟩) (kn : e_5 es = true) (hi : nsFind es "__init__" = some (.ref fI))
  (ll : K.lookup L = some ⟨c0, ddL, .cls cd, sl0⟩) (lm : K.lookup cd.ns = some ⟨oL, odL, .dict esL epL, slL⟩) (km : e_5 esL = true) (hL : nsFind esL "__init__" = none) : XMk K C fI :=
 ⟨nm, q, N, bs, _, sn, sub, ab, col, dd, k0, k1, k2, k3, k5, nsFind es, lc, fun h X => .own (X _ _ ll) (by_2 lm km X) hL .base, fun h X => by_2 ln kn X, hi⟩
theorem by_3 {C N L : Addr} {nm q : Str} {bs : List Value} {sn : List Str} {sub : List Value} {ab : Bool} {col : Option Bool} {dd : Option Addr} {k0 k1 k2 k3 k5 : Option Value}
  (lc : K.lookup C = some (excClassObj nm q C N bs (.ref L :: bmVE) true sn sub ab col dd k0 k1 k2 k3 k5 "ValueError.__new__")) (sa : findIn K (.ref C) "__setattr__" = some (some (.builtin "object.__setattr__"))) : XCls K C :=
 ⟨sa, by unfold clsIn; rw [lc]; rfl⟩
theorem by_4 {c : Bool} {w : World} {x qual sf at_ fl : Str} {st : Stmt} {f C : Addr} {k : Nat} (F : Fun K x qual st f fd) (S : FnScope [sf, at_] [sf, at_] (b_2 st))
  (zk : ∀ (zq : Value) (A : Around) (outer : List Env) (s : Shared) (H : Hp) (E : XK), PSs (cxN c P w K mg base [sf, at_] qual (b_2 st) f zq A outer s H E) (d_3 st) (cz_7 C fl)) : FnX P w K mg base c (k + 1) f fd [sf, at_] (aq_0 C fl) := by
 refine Fun.okX F S (fun vs H Q E h => ?_) fun zq A outer s H vs Q E hr h => ⟨_, zk zq A outer s H E, ?_⟩
 ·obtain ⟨a, v, us, rfl, _⟩ := h
  rfl
 ·obtain ⟨a, v, us, rfl, ha, q⟩ := h
  exact ⟨a, v, us, rfl, rfl, ha, q⟩
theorem ah_1 {h : Heap} : ∀ {bm : List Value}, OwnTail h bmVE bm → bm.contains (.type "BaseException") = true
 | _, .base => by decide
 | _, .own _ _ _ t => by rw [List.contains_cons, ah_1 t, Bool.or_true]
structure XC (P : Program) (w : World) (K : Frag) (mg : Str → Option Value) (base : Heap) (c : Str) (f : Str) (C : Addr) : Prop where
 at_ : ClsAt K c C
 glob : mg c = some (.ref C)
 kp : keepIn K (.ref C) = true
 xc : XCls K C
 made : ∃ (fI : Addr) (fd : FuncData) (ps : List Str) (oI : Obj), XMk K C fI ∧ K.lookup fI = some oI ∧ oI.cls = .type "function" ∧ FnX P w K mg base false 1 fI fd ps (aq_0 C f) ∧ Binds K fd ps []
section
variable {X : Cx} {zd : List (Addr × Obj)} {σ : Sg} {H : Hp} {s : Shared} {C : Addr} {c f : Str}
theorem cm_6 {e d : Addr} {o0 o1 x : HO} : upd (upd (upd H e o0) d x) e o1 = upd (upd H d x) e o1 := by
 funext b
 unfold upd
 by_cases z : b = e
 ·rw [if_pos z, if_pos z]
 ·rw [if_neg z, if_neg z, if_neg z]
theorem ce_2 {u : Value} {Q : Value → Shared → Prop} {E : Value → Shared → Prop} (M : XC X.prog X.w X.K X.mg X.base c f C) (hr : RoomC false 2 X.A) (I : Inv X zd σ H s) (r : RelV v u)
  (h : ∀ a d t s', H a = none → H d = none → d ≠ a → s.heap.objs.size ≤ a → Inv X zd σ (upd (upd H d (.xd [(f, v)])) a (XE a ⟨.ref C, some d, .fields #[.ref t, .none, .none, .none, .bool false, .none], #[]⟩)) s' → Q (.ref a) s') :
  wpAny (model X.prog X.w) X.A (call (.ref C) [u]) Q E s := by
 obtain ⟨fI, fd, ps, oI, ⟨nm, q, N, bs, bm, sn, sub, ab, col, dd, k0, k1, k2, k3, k5, mN, lc, tl, hn, hi⟩, lI, hI, F, hb⟩ := M.made
 have KX := I.kIn
 obtain ⟨hh, g, dr, tk, os⟩ := s
 refine ci_7 PySem.F.excBase_ValueError (tl hh KX) (KX _ _ lc) (hn hh KX) hi (KX _ _ lI) hI (fun h' e me ze => ?_) (by show 1 ≤ sizeLine; rw [sizeLine_eq]; omega)
 obtain ⟨kk, new, t, et, _, _⟩ := me
 have I2 : Inv X zd σ (upd H e (XE e ⟨.ref C, none, .fields #[.ref t, .none, .none, .none, .bool false, .none], #[]⟩)) ⟨h', g, dr, tk, os⟩ := I.laid (h' := h') (t' := tk) kk ze (XE.ok et)
 have he : H e = none := I.hok.fresh ze
 have r2 : Vals [.ref e, v] [.ref e, u] := .cons rfl (.cons r .nil)
 have sp : aq_0 C f [.ref e, v] (upd H e (XE e ⟨.ref C, none, .fields #[.ref t, .none, .none, .none, .bool false, .none], #[]⟩)) (fun y H2 => y = .non ∧ ∃ d, H d = none ∧ d ≠ e ∧ H2 = upd (upd H d (.xd [(f, v)])) e (XE e ⟨.ref C, some d, .fields #[.ref t, .none, .none, .none, .bool false, .none], #[]⟩)) (fun _ _ _ => False) :=
  ⟨e, v, _, rfl, b_1, fun d hd ne => ⟨rfl, d, by rw [a_8 ne] at hd; exact hd, ne, cm_6⟩⟩
 have hl : [Value.ref e, u].length = ps.length := F.len _ _ _ _ sp
 have hb' := hb ⟨h', g, dr, tk, os⟩ [.ref e, u] I2.kIn (by rw [List.append_nil]; exact hl)
 rw [List.append_nil] at hb'
 refine wpAny_call (codeAny_mono (F.run _ X.stack _ _ ⟨[.ref e, u], []⟩ [.ref e, u] [.ref e, v] _ _ (hr.make C [u] []) (I2.env0.make C [u] []) hb' r2 sp) fun r s' hq => ?_)
 cases r with
 | error x =>
  obtain ⟨a, C', dx, T, H', _, _, _, _, _, _, _, _, _, _, z⟩ := hq
  exact z.elim
 | ok fl =>
  cases fl with
  | ret y =>
   obtain ⟨v', H', I3, rv, ev, d, hd, ne, eH⟩ := I2.after hq
   subst ev eH
   exact ⟨rv, h e d t s' he hd ne ze I3⟩
  | next => exact False.elim hq
  | brk => exact False.elim hq
  | cont => exact False.elim hq
def Lk1 (X : Cx) (EX : EXS) : Prop := ∀ (zd : List (Addr × Obj)) (σ : Sg) (H H' : Hp) (s s' : Shared) (a C : Addr) (dx : Option Addr) (o : Obj) (us : Array Value), Inv X zd σ H s → Inv X zd σ H' s' → s'.heap.get? a = some o → o.cls = .ref C → o.dict = dx → o.data = .fields us → us[1]? = some .none →
 H' a = none → s.heap.objs.size ≤ a → EXE X.K (EX σ) (.ref C) dx H' → X.xe (.ref a) s'
theorem z_1 {cm : Bool} {w : World} {N : List Str} {qual : Str} {scope : Scope} {f : Addr} {cd : Value} {A : Around} {outer : List Env} {s : Shared} {E : XK} :
  Lk1 (cxN cm P w K mg base N qual scope f cd A outer s H E) (fun _ => EXof K E) := fun zd σ H H' s s' a C dx o us I I' he hc hx hd h1 n1 z1 q => ba_5 I I' he hc hx hd h1 n1 z1 q.of
def ah_2 (c f : Str) (js : List Nat) (fe : FE) : FS := fun Δ => match fe (vsh (gsome js Δ)) with
 | .ok w => .ex ⟨c, [f], [w.d]⟩ (gsome js Δ)
 | .ex x => .ex x (gsome js Δ)
 | .no => .no
theorem aq_2 {EX : EXS} (js : List Nat) {e : Expr} {fe : FE} {np zf pos : Pos} (M : XC X.prog X.w X.K X.mg X.base c f C) (hr : RoomC true 2 X.A) (l1 : Lk1 X EX) (he : ED X EX e fe) (hg : Gl X c := by rfl) (hdb : (c == ("__debug__" : Str)) = false := by decide)
  (hs : starEach [e] X.env = (false, eval e X.env) :: starEach [] X.env := by rfl) (hpl : (backTo zf (starEach [] X.env)).any (·.1) = false := by rfl) :
  SD X EX (.Raise (some (.Call (.Name c np) [e] [] zf)) none pos) (ah_2 c f js fe) := by
 intro zd s σ H D I q
 obtain ⟨H0, G0, G, Δ, O, E, q⟩ := q
 obtain ⟨G', O', sg, E'⟩ := E.gsome js
 obtain ⟨fI, fd, ps, oI, ⟨nm, qn, N, bs, bm, sn, sub, ab, col, dd, k0, k1, k2, k3, k5, mN, lc, tl, hn, hi⟩, lI, hI, F, hb⟩ := M.made
 have hB : bm.contains (.type "BaseException") = true := ah_1 (tl s.heap I.kIn)
 rw [arm_exec_Raise]
 have tD0 : tD X.K EX fe σ H fun v H1 => ∃ v' w G1, [v] = [v'] ∧ fe (vsh (gsome js Δ)) = .ok w ∧ Step G' H G1 H1 ∧ Has X.K G1 v' w.d := by
  refine ⟨G', vsh (gsome js Δ), E'.st.gh, E'.gsh, ?_⟩
  unfold ah_2 at q
  cases e1 : fe (vsh (gsome js Δ)) with
  | ok w => exact WP.intro fun v G1 H1 st r => ⟨v, w, G1, rfl, rfl, st, r⟩
  | ex x => rw [e1] at q; exact q σ G' H O' E' sg
  | no => rw [e1] at q; exact q
 have mk : wpAny (model X.prog X.w) X.A (eval (.Call (.Name c np) [e] [] zf) X.env) (fun v s1 => ∃ a t dx, v = .ref a ∧ s1.heap.get? C = some (excClassObj nm qn C N bs bm true sn sub ab col dd k0 k1 k2 k3 k5 "ValueError.__new__") ∧
   s1.heap.get? a = some { cls := .ref C, dict := dx, data := .fields #[.ref t, .none, .none, .none, .bool false, .none] } ∧ X.xe (.ref a) s1) X.xe s := by
  refine wpAny_Call_Name_kw (s_3 I hg M.glob ?_ hdb)
  refine callWith_K (h₀ := X.base) I.ok.mod.kin M.kp (thn (e_4 he n_9 hs zf zd s σ H (fun vs H1 => ∃ v' w G1, vs = [v'] ∧ fe (vsh (gsome js Δ)) = .ok w ∧ Step G' H G1 H1 ∧ Has X.K G1 v' w.d) I tD0) fun us s1 ⟨vs, H1, I1, r, v, w, G1, ev, ew, st, hv⟩ => ⟨I1.kIn, ?_⟩) hs hpl
  subst ev
  obtain ⟨u, rfl, ru⟩ := r.one
  refine ce_2 M hr.loose I1 ru fun a d t s2 ha hd ne za I2 => ?_
  have ga := XE.get I2.hok b_1
  refine ⟨a, t, some d, rfl, I2.kIn _ _ lc, ga, ?_⟩
  have I3 : Inv X zd σ (upd H1 d (.xd [(f, v)])) s2 := Inv.forget I2 (by rw [a_8 ne.symm]; exact ha)
  refine l1 zd σ H1 _ s1 s2 a C (some d) _ _ I1 I3 ga rfl rfl rfl rfl (by rw [a_8 ne.symm]; exact ha) za ?_
  have st2 : Step G1 H1 (upd G1 d (.xd [(f, v)])) (upd H1 d (.xd [(f, v)])) := Step.new st.gh hd _
  refine ⟨⟨c, [f], [w.d]⟩, upd G1 d (.xd [(f, v)]), st2.gh, .with_ M.at_ b_1 rfl (.cons (hv.mono st2.gg) .nil), ?_⟩
  unfold ah_2 at q
  rw [ew] at q
  exact q σ _ _ O' ((E'.grow st).grow st2) (sg.trans (st.gg.trans st2.gg))
 refine wpAny_bind (wpAny_standAt (av_7 hB (hr.hd rfl) (wpAny_bind (wpAny_mono mk (fun v s3 h3 => wpAny_bind (wpAny_standAt (wpAny_pure h3))) fun _ _ x => x))))
end
section
variable {X : Cx} {zd : List (Addr × Obj)} {σ : Sg} {H : Hp} {s : Shared}
theorem z_2 {M : Model} {A : Around} {E : Value → Shared → Prop} {i : Nat} {n : Str} {Q : Unit → Shared → Prop} (I : Inv X zd σ H s) (hN : X.N.Nodup) (hi : X.N[i]? = some n) (hk : X.env.scope.names.lookup n = some .local)
  (h : ∀ s', Inv X zd (σ.set i none) H s' → Q () s') : wpAny M A (do bindName X.env n .none; unbindBehindTheSuite X.env n pos) Q E s := by
 obtain ⟨m, hn, hl⟩ := id I.loc
 have bo : (X.env.scope.kind == .class || (X.env.scope.kind == .module && X.env.locals != X.env.globals)) = false := by rw [I.ok.kind]; rfl
 have hiσ : i < σ.length := by rw [I.len]; exact (List.getElem?_eq_some_iff.mp hi).1
 have cne := I.cne
 have tracked : ∀ {a : Addr} {h' : Heap}, (∃ o, s.heap.get? a = some o ∧ H a = none) → Heap.SameBut a s.heap h' → HOk X.prog X.w H h' := fun {a h'} ha hs b ob e => by
  obtain ⟨_, _, ao⟩ := ha
  refine (I.hok b ob e).stay (fun c w' hc q => (hs.2 c ?_).trans q) (fun _ q => q) fun _ _ q => q
  rintro rfl
  rcases hc with rfl | hc
  ·rw [ao] at e; cases e
  ·rw [ao] at hc; cases hc
 refine wpAny_nameGoes_keeps hk hn bo fun h' v hn' hs => ?_
 obtain ⟨oL, _, _, hoL, _⟩ := id hn
 refine h _ ⟨I.ok, I.os, I.bare, ⟨fun b o e n hb hx => ?_, fun b o e n hb hx => ?_, I.base.free, fun b o e hx => ?_, I.base.tups, I.base.frzs, I.base.tbls⟩, ⟨_, hn', fun j y v' e1 e2 e3 => ?_⟩, fun y c e => ?_, I.free, I.freeC, fun p hp => ?_, tracked ⟨oL, hoL, I.free⟩ hs, by simpa using I.len⟩
 ·exact (hs.2 b (Nat.ne_of_lt (Nat.lt_of_lt_of_le (Heap.lt_size e) I.ok.above))).trans (I.base.keep b o e n hb hx)
 ·obtain ⟨sl, e1⟩ := I.base.slot b o e n hb hx
  exact ⟨sl, (hs.2 b (Nat.ne_of_lt (Nat.lt_of_lt_of_le (Heap.lt_size e) I.ok.above))).trans e1⟩
 ·obtain ⟨o', e1⟩ := I.base.there b o e hx
  exact ⟨o', (hs.2 b (Nat.ne_of_lt (Nat.lt_of_lt_of_le (Heap.lt_size e) I.ok.above))).trans e1⟩
 ·by_cases hj : j = i
  ·subst hj
   rw [List.getElem?_set_self hiσ] at e2
   cases e2
  ·rw [List.getElem?_set_ne (Ne.symm hj)] at e2
   obtain ⟨u', r', q⟩ := hl j y v' e1 e2 e3
   refine ⟨u', r', ?_⟩
   rcases q with ⟨k, e⟩ | ⟨k, c, e, z⟩
   ·refine .inl ⟨k, ?_⟩
    have : y ≠ n := fun e => hj (an_3 hN e1 (e ▸ hi))
    simp [this, e]
   ·exact .inr ⟨k, c, e, z.sameBut hs (cne y c e)⟩
 ·obtain ⟨w', z⟩ := I.cell y c e
  exact ⟨w', z.sameBut hs (cne y c e)⟩
 ·obtain ⟨e, n, ne, nf, d⟩ := I.pin p hp
  exact ⟨(hs.2 p.1 ne).trans e, n, ne, nf, d⟩
theorem Inv.speak {H' : Hp} {s' : Shared} {a C : Addr} {dx : Option Addr} {us : Array Value} {sl : Array (Option Value)} (I : Inv X zd σ H s) (I' : Inv X zd σ H' s') (za : s.heap.objs.size ≤ a) (e : s'.heap.get? a = some ⟨.ref C, dx, .fields us, sl⟩) (hn : H' a = none) : Inv X zd σ (upd H' a (XO a C dx)) s' := by
 have B := I'.base
 have ns : ∀ b o, X.s₀.heap.get? b = some o → b ≠ a := fun b o q z => absurd (Nat.lt_of_lt_of_le (Heap.lt_size q) (Nat.le_trans I.sz za)) (by rw [z]; exact Nat.lt_irrefl _)
 have lt : ∀ b : Addr, b < s.heap.objs.size → b ≠ a := fun b h z => absurd (Nat.lt_of_lt_of_le h za) (by rw [z]; exact Nat.lt_irrefl _)
 have up : ∀ b u, H' b = some u → upd H' a (XO a C dx) b = some u := fun b u q => by rw [a_8 (b_9 q hn)]; exact q
 refine ⟨I'.ok, I'.os, I'.bare, ⟨B.keep, B.slot, fun b o q n x => by rw [a_8 (ns b o q)]; exact B.free b o q n x, B.there, fun b xs q => up _ _ (B.tups b xs q), fun b o u q => up _ _ (B.frzs b o u q), fun b ps q => let ⟨m, z⟩ := B.tbls b ps q; ⟨m, up _ _ z⟩⟩, I'.loc, I'.cell, ?_, fun x c q => ?_, fun p hp => ?_, fun b u q => ?_, I'.len⟩
 ·rw [a_8 (lt _ I.lt)]; exact I'.free
 ·obtain ⟨v, hv⟩ := I.cell x c q
  rw [a_8 (lt _ hv.lt)]; exact I'.freeC x c q
 ·obtain ⟨p1, p2, p3⟩ := I'.pin p hp
  exact ⟨p1, by rw [a_8 (lt _ (Heap.lt_size (I.pin p hp).1))]; exact p2, p3⟩
 ·by_cases z : b = a
  ·subst z
   rw [b_1] at q
   cases q
   exact XO.ok e
  ·rw [a_8 z] at q
   exact (I'.hok b u q).stay (fun _ _ _ q => q) (fun c q => up _ _ q) fun c xs q => up _ _ q
end
def tryB (X : Cx) (zd : List (Addr × Obj)) (W : Value → Shared → Prop) : Cx := { X with pn := X.pn ++ zd, xe := W }
def hand (X : Cx) (e : Value) : Cx := { X with A := X.A.mark (some e), calm := false, xe := fun _ _ => False }
section
variable {X : Cx} {zd ai : List (Addr × Obj)} {σ : Sg} {H : Hp} {s : Shared} {W : Value → Shared → Prop} {e : Value}
theorem ok_tryB : (tryB X zd W).Ok ↔ X.Ok := ⟨fun ok => ⟨ok.mod, ok.kind, ok.glob, ok.blt, ok.above, ok.inj, ok.has, ok.cab, ok.hd, ok.frames, ok.stk, ok.exf, ok.bs, ok.bsz, ok.noex, ok.exfs, ok.funs, ok.frf⟩,
 fun ok => ⟨ok.mod, ok.kind, ok.glob, ok.blt, ok.above, ok.inj, ok.has, ok.cab, ok.hd, ok.frames, ok.stk, ok.exf, ok.bs, ok.bsz, ok.noex, ok.exfs, ok.funs, ok.frf⟩⟩
theorem Inv.toB (I : Inv X zd σ H s) : Inv (tryB X zd W) [] σ H s := ⟨ok_tryB.mpr I.ok, I.os, I.bare, I.base, I.loc, I.cell, I.free, I.freeC, fun p hp => I.pin p (by have hp : p ∈ (X.pn ++ zd) ++ [] := hp; rwa [List.append_nil] at hp), I.hok, I.len⟩
theorem Inv.ofB (I : Inv (tryB X zd W) ai σ H s) : Inv X zd σ H s := ⟨ok_tryB.mp I.ok, I.os, I.bare, I.base, I.loc, I.cell, I.free, I.freeC, fun p hp => I.pin p (List.mem_append_left _ hp), I.hok, I.len⟩
theorem SP.ofB {D : Ends} {f : Flow} (h : SP (tryB X zd W) ai D f s) : SP X zd D f s := by
 cases f with
 | next => obtain ⟨σ', H', I, q⟩ := h; exact ⟨σ', H', Inv.ofB I, q⟩
 | brk => obtain ⟨σ', H', I, q⟩ := h; exact ⟨σ', H', Inv.ofB I, q⟩
 | cont => obtain ⟨σ', H', I, q⟩ := h; exact ⟨σ', H', Inv.ofB I, q⟩
 | ret u => obtain ⟨v, σ', H', I, r, q⟩ := h; exact ⟨v, σ', H', Inv.ofB I, r, q⟩
theorem Inv.toH (I : Inv X zd σ H s) : Inv (hand X e) zd σ H s :=
 ⟨⟨I.ok.mod, I.ok.kind, I.ok.glob, I.ok.blt, I.ok.above, I.ok.inj, I.ok.has, I.ok.cab, fun z => absurd z Bool.false_ne_true, I.ok.frames, I.ok.stk, I.ok.exf, I.ok.bs, I.ok.bsz, I.ok.noex, I.ok.exfs, I.ok.funs, I.ok.frf⟩, I.os, I.bare, I.base, I.loc, I.cell, I.free, I.freeC, I.pin, I.hok, I.len⟩
theorem Inv.ofH (ok : X.Ok) (I : Inv (hand X e) zd σ H s) : Inv X zd σ H s := ⟨ok, I.os, I.bare, I.base, I.loc, I.cell, I.free, I.freeC, I.pin, I.hok, I.len⟩
end
def cm_7 (i : Nat) : Fl → Fl
 | .nx Δ => .nx (Δ.set i .no)
 | .bk Δ => .bk (Δ.set i .no)
 | .ct Δ => .ct (Δ.set i .no)
 | .rt w => .rt w
 | _ => .no
def Catches (K : Frag) (C2 : Addr) (tb : List (Str × Bool)) : Prop := ∀ c b, tb.lookup c = some b → ∀ C, ClsAt K c C → exmOne K (.ref C) (.ref C2) = some b
theorem Ev.drop {H0 : HB} {G0 G H : Hp} {σ : Sg} {Δ : SE} {O : OS} (E : Ev K H0 G0 G H σ Δ O) (i : Nat) : Ev K H0 G0 G H (σ.set i none) (Δ.set i .no) O := by
 refine ⟨E.st, by rw [List.length_set, List.length_set]; exact E.len, fun j d e => ?_, fun j z d e zo => ?_, E.out, E.dj, fun j d e => ?_, fun j d e => ?_⟩
 ·rcases g_4 e with ⟨rfl, q⟩ | ⟨n, q⟩
  ·cases q
  ·rw [List.getElem?_set_ne n]; exact E.sh j d q
 ·rcases g_4 e with ⟨rfl, q⟩ | ⟨n, q⟩
  ·subst q; cases zo
  ·rw [List.getElem?_set_ne n]; exact E.ow j z d q zo
 ·rcases g_4 e with ⟨rfl, q⟩ | ⟨n, q⟩
  ·cases q
  ·rw [List.getElem?_set_ne n]; exact E.lk j d q
 ·rcases g_4 e with ⟨rfl, q⟩ | ⟨n, q⟩
  ·cases q
  ·rw [List.getElem?_set_ne n]; exact E.lt j d q
section
variable {X : Cx} {EX : EXS} {i : Nat} {tb : List (Str × Bool)} {g h : FS} {c n : Str} {C2 : Addr} {body ah : List Stmt} {b₀ : Stmt} {np hp pos : Pos}
theorem Has.exc {G : Hp} {a C : Addr} {dx : Option Addr} {x : Xn} (hn : G a = none) (e : ExcAt K G (.ref C) dx x) : Has K (upd G a (XO a C dx)) (.ref a) (.exn x.c x.ns x.vs) := by
 cases e with
 | bare hc => exact .exn0 hc b_1
 | with_ hc hd hl r => exact .exn1 hc b_1 (by rw [a_8 (b_9 hd hn)]; exact hd) hl (r.mono (i_1 hn _))
theorem cm_8 {H0 : HB} {G0 G1 : Hp} {D : Ends} {r : Fl} (q : Fin K EX H0 G0 G1 D (cm_7 i r)) : Fin K m_9 H0 G0 G1 { nx := fun σ H => D.nx (σ.set i none) H, rt := D.rt, bk := fun σ H => D.bk (σ.set i none) H, ct := fun σ H => D.ct (σ.set i none) H } r := by
 cases r with
 | nx Δ => exact fun σ G H O E sg => q _ G H O (E.drop i) sg
 | bk Δ => exact fun σ G H O E sg => q _ G H O (E.drop i) sg
 | ct Δ => exact fun σ G H O E sg => q _ G H O (E.drop i) sg
 | rt w => exact q
 | ex x Δ => exact q.elim
 | no => exact q
end
structure XGet (K : Frag) (C : Addr) (f : Str) : Prop where
 ga : findIn K (.ref C) "__getattribute__" = some (some (.builtin "BaseException.__getattribute__"))
 gt : findIn K (.ref C) "__getattr__" = some none
 be : mroIn K C (.type "BaseException") = some true
 hd : hasDictIn K C = true
 no : findIn K (.ref C) f = some none
section
variable {prog : Program} {w : World} {A : Around} {E : Value → Shared → Prop} {s : Shared} {K : Frag} {x C dx : Addr} {f : Str}
structure XInst (K : Frag) (C : Addr) : Prop where
 ga : findIn K (.ref C) "__getattribute__" = some (some (.builtin "BaseException.__getattribute__"))
 gt : findIn K (.ref C) "__getattr__" = some none
 be : mroIn K C (.type "BaseException") = some true
 hd : hasDictIn K C = true
 cl : findIn K (.ref C) "__class__" = some (some (.builtin "object.__class__"))
 gs : specialIn K (.builtin "object.__class__") "__get__" = some (some (.builtin "getset_descriptor.__get__"))
 tk : takesIn K (.builtin "object.__class__") = some true
 ob : mroIn K C (.type "object") = some true
theorem ce_3 {Q : Option Value → Shared → Prop} {ox : Obj} {od : Option Obj} (X : K.In s.heap) (I : InstAt s.heap x ox C od) (g : XInst K C) (h : Q (some (.ref C)) { s with toks := s.toks + 1 }) : wpAny (model prog w) A (getAttr? (.ref x) "__class__") Q E s := by
 have hf : findObj K C od "__class__" = some (.bind (.builtin "getset_descriptor.__get__") (.builtin "object.__class__")) := by
  obtain ⟨cd, hc, _⟩ := any_some g.hd
  unfold findObj
  rw [hc, Option.bind_some, g.cl, Option.bind_some]
  simp [g.gs, g.tk]
 obtain ⟨hp, gg, d, t, os⟩ := s
 have L0 := I.type (M := model prog w)
 have L1 := looks_findIn (M := model prog w) X g.ga
 have L2 := looks_findIn (M := model prog w) X g.gt
 have LF := looks_find (M := model prog w) X I hf
 have sub : Looks (model prog w) hp (isInstance (.ref x) (.type "BaseException")) true := L0.andThen (looks_mroIn X g.be)
 have SL := PySem.F.attr_ValueError.ga
 unfold getAttr? getAttrBy? getAttrBy
 refine wpAny_bind (wpAny_mkText (wpAny_bind (wpAny_attempt (wpAny_holding (wpAny_bind (L0.at (wpAny_bind (L1.at ?_))))))))
 show wpAny _ _ (getAttrByItsOwn _ _ _ _ _ _) _ _ _
 unfold getAttrByItsOwn
 refine wpAny_bind (L2.at (wpAny_bind (wpAny_attempt ?_)))
 refine wpAny_holding ?_
 unfold callGetattribute
 rw [if_neg (by simp)]
 unfold boundAndCalled
 rw [SL.bind]
 refine wpAny_bind (wpAny_pure (wpAny_call (codeAny_call_builtin SL.plain PySem.F.entry_bexc_ga (@check_slot (model prog w) _ _ ⟨hp, gg, d, t + 1, os⟩ "BaseException.__getattribute__" "BaseException" "__getattribute__" (.ref x) [.str "__class__" t] [] _ (by decide +kernel) (by decide +kernel) sub (PySem.F.args_bexc_ga _ _) ?_))))
 refine wpAny_bind (wpAny_pure (wpAny_bind (wpAny_pure (wpAny_bind (L0.at (wpAny_bind (LF.at ?_)))))))
 show wpAny _ _ (Builtin.ObjectAttr.bindTo (.builtin "getset_descriptor.__get__") (.builtin "object.__class__") (.ref x) (.ref C)) _ _ _
 show wpAny _ _ (holding [.builtin "object.__class__"] (call (.builtin "getset_descriptor.__get__") [.builtin "object.__class__", .ref x, .ref C]) >>= ret) _ _ _
 refine wpAny_bind (wpAny_holding (wpAny_call (class_get (s := ⟨hp, gg, d, t + 1, os⟩) (ox := ox) (od := od) X I g.ob ?_)))
 refine wpAny_pure ?_
 show wpAny _ _ (handedOut (.ref C)) _ _ _
 exact handed_on rfl (wpAny_pure h)
theorem bl_2 {ox : Obj} {od : Option Obj} (g : XInst K C) : KitX K (.ref x) (.ref C) (fun h => InstAt h x ox C od) where
 ty := fun _ _ _ I => I.type
 it := fun _ _ X _ => by
  obtain ⟨cdD, hcD, _⟩ := any_some g.hd
  unfold clsIn at hcD
  split at hcD
  ·rename_i c' d' cd' sl' ho
   intro A' Q' E' s' k q
   unfold isType loadHead
   exact wpAny_bind (wpAny_loadPart (k _ _ (X _ _ ho)) (wpAny_pure q))
  ·cases hcD
 ne := fun h tp dd its n sl X htp => by
  obtain ⟨cdD, hcD, _⟩ := any_some g.hd
  refine Bool.eq_false_iff.mpr fun q => ?_
  have e : C = tp := Value.ref.inj (beq_iff_eq.mp q)
  subst e
  unfold clsIn at hcD
  split at hcD
  ·rename_i c' d' cd' sl' ho
   have z := (X _ _ ho).symm.trans htp
   cases z
  ·cases hcD
 ca := fun X I k => ce_3 X I g k
end
def eAttr (cs : List Str) (f : Str) (fo : FE) : FE := fun δ => (fo δ).bind fun w => match w.d with
 | .exn c ns vs => if cs.contains c = true then (match (ns.zip vs).lookup f with | some d => .ok (.sh d) | none => .no) else .no
 | _ => .no
section
variable {X : Cx} {EX : EXS} {o : Expr} {fo : FE} {f : Str} {cs : List Str} {pos : Pos}
end
def eIsC (tb : List (Str × Bool)) (fo : FE) : FE := fun δ => (fo δ).bind fun w => match w.d with
 | .exn c _ _ => (match tb.lookup c with | some b => .ok (.sh (.bl b)) | none => .no)
 | _ => .no
def IsOne (K : Frag) (v : Value) (tb : List (Str × Bool)) : Prop := ∀ c b, tb.lookup c = some b → ∀ C, ClsAt K c C → XInst K C ∧ kitOne K (.ref C) v = some b
def IsAny (K : Frag) (Cs : List Addr) (tb : List (Str × Bool)) : Prop := ∀ c b, tb.lookup c = some b → ∀ C, ClsAt K c C → XInst K C ∧ kitAny K (.ref C) (Cs.map Value.ref) = some b
theorem ax_5 : ∀ {Cs : List Addr} {its : List Value}, Vals (Cs.map V.ref) its → its = Cs.map Value.ref
 | [], _, r => by cases r; rfl
 | C :: Cs, _, .cons h1 h2 => by rw [ax_5 h2]; cases h1; rfl
section
variable {X : Cx} {EX : EXS} {zd : List (Addr × Obj)} {σ : Sg} {G H : Hp} {s : Shared}
theorem by_5 {a : Addr} {c : Str} {ns : List Str} {vs : List D} (I : Inv X zd σ H s) (g : Same G H) (h : Has X.K G (.ref a) (.exn c ns vs)) : ∃ C ox od, ClsAt X.K c C ∧ InstAt s.heap a ox C od := by
 cases h with
 | exn0 hc h1 =>
  obtain ⟨⟨us', sl, eo⟩, _⟩ := I.hok a _ (g _ _ h1)
  exact ⟨_, _, none, hc, eo, rfl, rfl, True.intro⟩
 | exn1 hc h1 hd1 hl1 r1 =>
  obtain ⟨⟨us', sl, eo⟩, _⟩ := I.hok a _ (g _ _ h1)
  obtain ⟨mA, ⟨od, es, ep, e, _⟩, hr⟩ := I.hok _ _ (g _ _ hd1)
  exact ⟨_, _, some od, hc, eo, rfl, rfl, e⟩
theorem bl_3 {v2 : V} {u2 : Value} (r2 : ∀ u, RelV v2 u → u = u2) {tb : List (Str × Bool)} (k : IsOne X.K u2 tb) : t_7 X (.builtin "isinstance") (fun xs H Q => ∃ G x c ns vs b, xs = [x, v2] ∧ Same G H ∧ Has X.K G x (.exn c ns vs) ∧ tb.lookup c = some b ∧ Q (.bl b) H) := by
 intro zd s σ H xs us Q I rv h
 obtain ⟨G, x, c, ns, vs, b, rfl, g, r, e, q⟩ := h
 obtain ⟨u, u2', rfl, r1, rr⟩ := rv.two
 obtain rfl := r2 _ rr
 have fin : ∀ tk, EP X zd σ Q (.bool b) { s with toks := tk } := fun tk => ⟨.bl b, H, I.tok _, rfl, q⟩
 obtain ⟨a, rfl⟩ : ∃ a, x = .ref a := by cases r <;> exact ⟨_, rfl⟩
 obtain rfl : u = Value.ref a := r1
 obtain ⟨C, ox, od, hc, io⟩ := by_5 I g r
 obtain ⟨xi, ko⟩ := k c b e C hc
 exact kia_one (bl_2 xi) I.kIn io ko (fun z => nomatch z) fin
theorem bs_8 {Cs : List Addr} {tb : List (Str × Bool)} (k : IsAny X.K Cs tb) : t_7 X (.builtin "isinstance") (fun xs H Q => ∃ G x p c ns vs b, xs = [x, .ref p] ∧ Same G H ∧ Has X.K G x (.exn c ns vs) ∧ SqT X.K H p (Cs.map V.ref) ∧ tb.lookup c = some b ∧ Q (.bl b) H) := by
 intro zd s σ H xs us Q I rv h
 obtain ⟨G, x, p, c, ns, vs, b, rfl, g, r, ht, e, q⟩ := h
 obtain ⟨u, u2', rfl, r1, rr⟩ := rv.two
 obtain rfl : u2' = Value.ref p := rr
 have fin : ∀ tk, EP X zd σ Q (.bool b) { s with toks := tk } := fun tk => ⟨.bl b, H, I.tok _, rfl, q⟩
 obtain ⟨a, rfl⟩ : ∃ a, x = .ref a := by cases r <;> exact ⟨_, rfl⟩
 obtain rfl : u = Value.ref a := r1
 obtain ⟨C, ox, od, hc, io⟩ := by_5 I g r
 obtain ⟨xi, ko⟩ := k c b e C hc
 obtain ⟨its, rv', ⟨o, e1, c1, n, d1⟩, _⟩ := I.tuple ht
 have ei : its = Cs.map Value.ref := ax_5 rv'
 subst ei
 obtain ⟨oc, odi, oda, osl⟩ := o
 simp only at c1 d1
 subst c1 d1
 exact kia_tup (bl_2 xi) I.kIn io e1 ko (fun z => nomatch z) fin
variable {a : Expr} {fo : FE} {tb : List (Str × Bool)} {pp pos : Pos}
theorem aq_3 {δ : DE} {Q : VK} {P : VK} (g0 : Same G H) (s0 : HasS K G σ δ) (o : Out K (EX σ) G H (eIsC tb fo δ) Q)
  (i : ∀ v G' H' c ns vs b, Step G H G' H' → Has K G' v (.exn c ns vs) → tb.lookup c = some b → WP K G' H' (.sh (.bl b)) Q → P v H') : tD K EX fo σ H P := by
 refine tD.seq g0 s0 o fun w v G1 H1 _ st1 r1 o1 => ?_
 revert r1 o1
 cases w.d with
 | exn c ns vs =>
  intro r1 o1
  have o1 : Out K (EX σ) G1 H1 (match tb.lookup c with | some b => .ok (.sh (.bl b)) | none => .no) Q := o1
  cases e : tb.lookup c with
  | none => rw [e] at o1; exact o1.elim
  | some b => rw [e] at o1; exact i v G1 H1 c ns vs b st1 r1 e o1
 | _ => intro _ o1; exact False.elim o1
theorem dg_4 {cn : Str} {C2 : Addr} {p3 : Pos} (k : IsOne X.K (.ref C2) tb) (ha : ED X EX a fo) (hm : X.mg "isinstance" = none) (hmC : X.mg cn = some (.ref C2)) (hg : Gl X "isinstance" := by rfl) (hgC : Gl X cn := by rfl) (hdC : (cn == ("__debug__" : Str)) = false := by decide)
  (he : starEach [a, .Name cn p3] X.env = (false, eval a X.env) :: starEach [.Name cn p3] X.env := by rfl) (hpl : (backTo pos (starEach [.Name cn p3] X.env)).any (·.1) = false := by rfl)
  (hs : starEach [.Name cn p3] X.env = (false, eval (.Name cn p3) X.env) :: starEach [] X.env := by rfl) : ED X EX (.Call (.Name "isinstance" pp) [a, .Name cn p3] [] pos) (eIsC tb fo) :=
 PE.imp (w_5 (bl_3 (v2 := .ref C2) (fun _ r => r) k) hg hm boot_isinstance (e_4 ha (e_4 (al_9 (v := .ref C2) hgC hmC rfl hdC) n_9 hs) he) (by decide) (by decide) he hpl) fun σ H Q ⟨G, δ, g0, s0, o⟩ =>
  aq_3 g0 s0 o fun v G' H' c ns vs b st r e q => ⟨G', v, c, ns, vs, b, rfl, st.gh, r, e, WP.use q st.gh (.bl b)⟩
theorem dg_5 {Tn : Str} {T : String} {p3 : Pos} (k : IsOne X.K (.type T) tb) (ha : ED X EX a fo) (hm : X.mg "isinstance" = none) (hmT : X.mg Tn = none) (hvT : bootBuiltins Tn = some (.type T)) (hg : Gl X "isinstance" := by rfl) (hgT : Gl X Tn := by rfl)
  (hn : Tn ≠ "__name__" := by decide) (hdT : (Tn == ("__debug__" : Str)) = false := by decide)
  (he : starEach [a, .Name Tn p3] X.env = (false, eval a X.env) :: starEach [.Name Tn p3] X.env := by rfl) (hpl : (backTo pos (starEach [.Name Tn p3] X.env)).any (·.1) = false := by rfl)
  (hs : starEach [.Name Tn p3] X.env = (false, eval (.Name Tn p3) X.env) :: starEach [] X.env := by rfl) : ED X EX (.Call (.Name "isinstance" pp) [a, .Name Tn p3] [] pos) (eIsC tb fo) :=
 PE.imp (w_5 (bl_3 (v2 := .ty T) (fun _ r => r) k) hg hm boot_isinstance (e_4 ha (e_4 (bv_0 (v := .ty T) hgT hmT hvT rfl hn hdT) n_9 hs) he) (by decide) (by decide) he hpl) fun σ H Q ⟨G, δ, g0, s0, o⟩ =>
  aq_3 g0 s0 o fun v G' H' c ns vs b st r e q => ⟨G', v, c, ns, vs, b, rfl, st.gh, r, e, WP.use q st.gh (.bl b)⟩
def by_6 (Cs : List Addr) : TA := fun _ H Q => Q (Cs.map V.ref) H
theorem by_7 : PA X [] (by_6 []) := n_9
theorem l_1 {cn : Str} {C2 : Addr} {p3 : Pos} {es : List Expr} {Cs : List Addr} (hmC : X.mg cn = some (.ref C2)) (hr : PA X es (by_6 Cs)) (hgC : Gl X cn := by rfl) (hdC : (cn == ("__debug__" : Str)) = false := by decide)
  (hs : starEach (.Name cn p3 :: es) X.env = (false, eval (.Name cn p3) X.env) :: starEach es X.env := by rfl) : PA X (.Name cn p3 :: es) (by_6 (C2 :: Cs)) := e_4 (al_9 (v := .ref C2) hgC hmC rfl hdC) hr hs
theorem bl_4 {Cs : List Addr} {es : List Expr} {x1} {p3 : Pos} (k : IsAny X.K Cs tb) (ha : ED X EX a fo) (hm : X.mg "isinstance" = none) (hes : PA X es (by_6 Cs)) (hz : Nat.ble Cs.length 64 = true := by rfl) (hg : Gl X "isinstance" := by rfl)
  (he : starEach [a, .Tuple es x1 p3] X.env = (false, eval a X.env) :: starEach [.Tuple es x1 p3] X.env := by rfl) (hpl : (backTo pos (starEach [.Tuple es x1 p3] X.env)).any (·.1) = false := by rfl)
  (hs : starEach [.Tuple es x1 p3] X.env = (false, eval (.Tuple es x1 p3) X.env) :: starEach [] X.env := by rfl) : ED X EX (.Call (.Name "isinstance" pp) [a, .Tuple es x1 p3] [] pos) (eIsC tb fo) :=
 PE.imp (w_5 (bs_8 k) hg hm boot_isinstance (e_4 ha (e_4 (bq_0 hes) n_9 hs) he) (by decide) (by decide) he hpl) fun σ H Q ⟨G, δ, g0, s0, o⟩ =>
  aq_3 g0 s0 o fun v G' H' c ns vs b st r e q => by
   show (Cs.map V.ref).length ≤ sizeLine ∧ ∀ p, H' p = none → _
   refine ⟨by have := Nat.le_of_ble_eq_true hz; rw [List.length_map, sizeLine_eq]; omega, fun p hp => ?_⟩
   have st2 : Step G' H' (upd G' p (.tup (Cs.map V.ref))) (upd H' p (.tup (Cs.map V.ref))) := Step.new st.gh hp _
   exact ⟨_, v, p, c, ns, vs, b, rfl, st2.gh, r.mono st2.gg, SqT.of b_1, e, WP.use (WP.mono st2 q) st2.gh (.bl b)⟩
end
theorem al_5 : bootBuiltins "ValueError" = some (.type "ValueError") := by decide +kernel
theorem RoomC.units {c : Bool} {k : Nat} {A : Around} (r : RoomC c k A) : A.units + 64 < cLine := by have := r.un; omega
section
variable {X : Cx} {c : Bool} {k : Nat} {zd : List (Addr × Obj)} {W : Value → Shared → Prop} {e : Value}
theorem bl_5 (h : RoomC c k (Cx.A X)) : RoomC c k (Cx.A (tryB X zd W)) := h
theorem ce_4 (h : RoomC c k (Cx.A X)) : RoomC false k (Cx.A (hand X e)) := h.mark _
theorem cm_9 (h : Cx.calm X = true) : Cx.calm (Cx.nox X) = true := h
theorem c_2 {cm : Bool} {w : World} {N : List Str} {qual : Str} {scope : Scope} {f : Addr} {cd : Value} {A : Around} {outer : List Env} {s : Shared} {E : XK} :
  PassesOwn (model P w) (Cx.A (cxN cm P w K mg base N qual scope f cd A outer s H E)) (Cx.env (cxN cm P w K mg base N qual scope f cd A outer s H E)) (Cx.xe (cxN cm P w K mg base N qual scope f cd A outer s H E)) :=
 fun e s' h => wpAny_leaving_again (SameStack.refl _) h
theorem Catches.one {C2 : Addr} {c : Str} {C : Addr} {b : Bool} (a : ClsAt K c C) (h : exmOne K (.ref C) (.ref C2) = some b) {tb : List (Str × Bool)} (r : Catches K C2 tb) : Catches K C2 ((c, b) :: tb) := fun c' b' e C' a' => by
 rw [List.lookup_cons] at e
 cases z : (c' == c) with
 | true =>
  rw [z] at e
  cases e
  have : c' = c := eq_of_beq z
  subst this
  unfold ClsAt at a a'
  rw [a] at a'
  cases a'
  exact h
 | false => rw [z] at e; exact r c' b' e C' a'
theorem Catches.nil {C2 : Addr} : Catches K C2 [] := fun _ _ e => by cases e
theorem IsOne.nil {v : Value} : IsOne K v [] := fun _ _ e => by cases e
theorem IsOne.one {v : Value} {c : Str} {C : Addr} {b : Bool} (a : ClsAt K c C) (x : XInst K C) (h : kitOne K (.ref C) v = some b) {tb : List (Str × Bool)} (r : IsOne K v tb) : IsOne K v ((c, b) :: tb) := fun c' b' e C' a' => by
 rw [List.lookup_cons] at e
 cases z : (c' == c) with
 | true =>
  rw [z] at e
  cases e
  have : c' = c := eq_of_beq z
  subst this
  unfold ClsAt at a a'
  rw [a] at a'
  cases a'
  exact ⟨x, h⟩
 | false => rw [z] at e; exact r c' b' e C' a'
theorem IsAny.nil {v : List Addr} : IsAny K v [] := fun _ _ e => by cases e
theorem IsAny.one {v : List Addr} {c : Str} {C : Addr} {b : Bool} (a : ClsAt K c C) (x : XInst K C) (h : kitAny K (.ref C) (v.map Value.ref) = some b) {tb : List (Str × Bool)} (r : IsAny K v tb) : IsAny K v ((c, b) :: tb) := fun c' b' e C' a' => by
 rw [List.lookup_cons] at e
 cases z : (c' == c) with
 | true =>
  rw [z] at e
  cases e
  have : c' = c := eq_of_beq z
  subst this
  unfold ClsAt at a a'
  rw [a] at a'
  cases a'
  exact ⟨x, h⟩
 | false => rw [z] at e; exact r c' b' e C' a'
end
structure Hd where
 i : Option Nat
 tb : List (Str × Bool)
 h : FS
def hdGo (d : Hd) (x : Xn) (Δ : SE) : Fl := match d.i with
 | some i => cm_7 i (d.h (Δ.set i (.sh (.exn x.c x.ns x.vs))))
 | none => (match d.h Δ with
  | .ex _ _ => .no
  | r => r)
def tryH : List Hd → Xn → SE → Fl
 | [], _, _ => .no
 | d :: r, x, Δ => match d.tb.lookup x.c with
  | some true => hdGo d x Δ
  | some false => tryH r x Δ
  | none => .no
def w_1 (g : FS) (hs : List Hd) : FS := fun Δ => match g Δ with
 | .ex x Δ1 => tryH hs x Δ1
 | r => r
inductive HOk3 (X : Cx) : List ExceptHandler → List Hd → Prop where
 | nil : HOk3 X [] []
 | as_ {c n : Str} {C2 : Addr} {b₀ : Stmt} {ah : List Stmt} {np hp : Pos} {i : Nat} {tb : List (Str × Bool)} {h : FS} {hs : List ExceptHandler} {ds : List Hd} (hc : X.mg c = some (.ref C2)) (ct : Catches X.K C2 tb) (hh : ∀ e, BD (hand X e) m_9 (b₀ :: ah) h) (r : HOk3 X hs ds)
   (hi : X.N[i]? = some n := by rfl) (hk : X.env.scope.names.lookup n = some .local := by rfl) (hg : Gl X c := by rfl) (hdb : (c == ("__debug__" : Str)) = false := by decide) :
   HOk3 X (.ExceptHandler (some (.Name c np)) (some n) (b₀ :: ah) hp :: hs) (⟨some i, tb, h⟩ :: ds)
 | bare {c : Str} {C2 : Addr} {b₀ : Stmt} {ah : List Stmt} {np hp : Pos} {tb : List (Str × Bool)} {h : FS} {hs : List ExceptHandler} {ds : List Hd} (hc : X.mg c = some (.ref C2)) (ct : Catches X.K C2 tb) (hh : ∀ e, BD (hand X e) m_9 (b₀ :: ah) h) (r : HOk3 X hs ds)
   (hg : Gl X c := by rfl) (hdb : (c == ("__debug__" : Str)) = false := by decide) :
   HOk3 X (.ExceptHandler (some (.Name c np)) none (b₀ :: ah) hp :: hs) (⟨none, tb, h⟩ :: ds)
def EXh (K : Frag) (EX : EXS) (D : Ends) (ds : List Hd) : EXS := fun σ => ⟨fun x G H => ∃ H0 G0 Δ O, Ev K H0 G0 G H σ Δ O ∧ Fin K EX H0 G0 G D (tryH ds x Δ),
 fun _ _ _ _ _ s ⟨H0, G0, Δ, O, E, f⟩ => ⟨H0, G0, Δ, O, E.grow s, Fin.mono s.gg f⟩⟩
theorem cw_7 {EX : EXS} {H0 : HB} {G0 G1 : Hp} {D : Ends} {r : Fl} (q : Fin K EX H0 G0 G1 D (match r with | .ex _ _ => .no | r => r)) : Fin K m_9 H0 G0 G1 { nx := D.nx, rt := D.rt, bk := D.bk, ct := D.ct } r := by
 cases r with
 | nx Δ => exact q
 | bk Δ => exact q
 | ct Δ => exact q
 | rt w => exact q
 | ex x Δ => exact q.elim
 | no => exact q
section
variable {X : Cx} {EX : EXS} {g : FS} {body : List Stmt} {pos : Pos}
theorem ce_5 (hN : X.N.Nodup) {zd : List (Addr × Obj)} {D : Ends} {a C T2 : Addr} {dx : Option Addr} {σ1 σ0 : Sg} {H1 H2 : Hp} {s1 s2 : Shared} {h2 : Heap} {x : Xn} {H0' : HB} {G2 G0' : Hp} {Δ1 : SE} {O1 : OS} {oa : Obj} {ua : Array Value}
  (J1 : Inv X zd σ0 H1 s1) (J4 : Inv X zd σ1 (upd H2 a (XO a C dx)) { s2 with heap := h2 }) (st4 : Step G2 H2 (upd G2 a (XO a C dx)) (upd H2 a (XO a C dx)))
  (n1 : H2 a = none) (sg2 : Same G2 H2) (ea : ExcAt X.K G2 (.ref C) dx x) (LT : Looks (model X.prog X.w) h2 (typeOf (.ref a)) (.ref C)) (hcC : ClsAt X.K x.c C)
  (E1 : Ev X.K H0' G0' G2 H2 σ1 Δ1 O1)
  (flt : ∀ {A : Around} {E : Value → Shared → Prop} {Q : Unit → Shared → Prop}, (∀ h3, Inv X zd σ1 (upd H2 a (XO a C dx)) { s2 with heap := h3 } → Q () { s2 with heap := h3 }) → wpAny (model X.prog X.w) A (setFlight (.ref a) none) Q E { s2 with heap := h2 }) :
  ∀ {hs : List ExceptHandler} {ds : List Hd}, HOk3 X hs ds → Fin X.K EX H0' G0' G2 D (tryH ds x Δ1) → wpAny (model X.prog X.w) X.A (handleBy (.ref a) X.env hs) (SP X zd D) X.xe { s2 with heap := h2 } := by
 intro hs ds ho
 induction ho with
 | nil => intro q; exact False.elim q
 | as_ hc ct hh r hi hk hg hdb ih =>
  rename_i c n C2 b₀ ah np hp i tb h hs ds
  intro q
  refine wpAny_handleBy_cons (codeAny_handlers_test ?_) (by intro z; cases z)
  refine s_3 (X := hand X (.ref a)) (Inv.toH J4) hg hc ?_ hdb
  unfold tryH at q
  cases e2 : tb.lookup x.c with
  | none => simp only [e2] at q; exact q.elim
  | some b =>
   have em := ct _ _ e2 C hcC
   refine Looks.here (s := { s2 with heap := h2 }) (exm_one J4.kIn LT em) ?_
   cases b with
   | false => simp only [e2] at q; exact ih q
   | true =>
    simp only [e2, hdGo] at q
    show codeAny _ _ _ _ _
    refine codeAny_handlers_suite_as (flt fun h3 J5 => ?_)
    refine an_4 (X := hand X (.ref a)) (v := .ref a) (Inv.toH J5) hN hi (.inl hk) rfl (fun s6 I6 => ?_) (.inr hk)
    have E6 := (E1.grow st4).put (i := i) (Has.exc (sg2.free n1) ea)
    refine wpAny_mono (hh (.ref a) zd s6 _ _ _ I6 ⟨H0', G0', _, _, O1, E6, cm_8 (Fin.mono st4.gg q)⟩) (fun f s7 h7 => ?_) fun _ _ z => False.elim z
    show wpAny _ X.A (do bindName X.env n .none; unbindBehindTheSuite X.env n hp) (fun _ s₃ => SP X zd D f s₃) _ s7
    cases f with
    | next =>
     obtain ⟨σ7, H7, I7, q7⟩ := h7
     exact z_2 (Inv.ofH J1.ok I7) hN hi hk fun s8 I8 => ⟨_, H7, I8, q7⟩
    | brk =>
     obtain ⟨σ7, H7, I7, q7⟩ := h7
     exact z_2 (Inv.ofH J1.ok I7) hN hi hk fun s8 I8 => ⟨_, H7, I8, q7⟩
    | cont =>
     obtain ⟨σ7, H7, I7, q7⟩ := h7
     exact z_2 (Inv.ofH J1.ok I7) hN hi hk fun s8 I8 => ⟨_, H7, I8, q7⟩
    | ret u =>
     obtain ⟨v, σ7, H7, I7, r7, q7⟩ := h7
     exact z_2 (Inv.ofH J1.ok I7) hN hi hk fun s8 I8 => ⟨v, _, H7, I8, r7, q7⟩
 | bare hc ct hh r hg hdb ih =>
  rename_i c C2 b₀ ah np hp tb h hs ds
  intro q
  refine wpAny_handleBy_cons (codeAny_handlers_test ?_) (by intro z; cases z)
  refine s_3 (X := hand X (.ref a)) (Inv.toH J4) hg hc ?_ hdb
  unfold tryH at q
  cases e2 : tb.lookup x.c with
  | none => simp only [e2] at q; exact q.elim
  | some b =>
   have em := ct _ _ e2 C hcC
   refine Looks.here (s := { s2 with heap := h2 }) (exm_one J4.kIn LT em) ?_
   cases b with
   | false => simp only [e2] at q; exact ih q
   | true =>
    simp only [e2, hdGo] at q
    show codeAny _ _ _ _ _
    refine codeAny_handlers_suite (flt fun h3 J5 => ?_)
    have E6 := E1.grow st4
    refine wpAny_mono (hh (.ref a) zd { s2 with heap := h3 } _ _ _ (Inv.toH J5) ⟨H0', G0', _, _, O1, E6, cw_7 (Fin.mono st4.gg q)⟩) (fun f s7 h7 => ?_) fun _ _ z => False.elim z
    cases f with
    | next =>
     obtain ⟨σ7, H7, I7, q7⟩ := h7
     exact ⟨_, H7, Inv.ofH J1.ok I7, q7⟩
    | brk =>
     obtain ⟨σ7, H7, I7, q7⟩ := h7
     exact ⟨_, H7, Inv.ofH J1.ok I7, q7⟩
    | cont =>
     obtain ⟨σ7, H7, I7, q7⟩ := h7
     exact ⟨_, H7, Inv.ofH J1.ok I7, q7⟩
    | ret u =>
     obtain ⟨v, σ7, H7, I7, r7, q7⟩ := h7
     exact ⟨v, _, H7, Inv.ofH J1.ok I7, r7, q7⟩
theorem by_8 {hd0 : ExceptHandler} {hs0 : List ExceptHandler} {ds : List Hd} (hN : X.N.Nodup) (hfr : X.env.frame = some X.env.locals) (hst : X.stack = X.env :: X.outer) (hb : ∀ zd W EXB, Lk (tryB X zd W) EXB → BD (tryB X zd W) EXB body g) (ho : HOk3 X (hd0 :: hs0) ds) :
  SD X EX (.Try body (hd0 :: hs0) [] [] pos) (w_1 g ds) := by
 intro zd s σ H D I q
 obtain ⟨H0, G0, G, Δ, O, E, q⟩ := q
 refine wpAny_Try_except ?_
 have lk : Lk (tryB X zd fun e s₁ => wpAny (model X.prog X.w) X.A (noteFrame e X.env) (fun _ s₂ => wpAny (model X.prog X.w) X.A (setFlight e none) (fun _ s₃ => wpAny (model X.prog X.w) X.A (handleBy e X.env (hd0 :: hs0)) (SP X zd D) X.xe s₃) X.xe s₂) X.xe s₁) (EXh X.K EX D ds) := by
  intro ai σ1 H1 s1 e s2 I1 cx
  obtain ⟨a, C, dx, T, H2, rfl, I2, tr, n1, n2, z1, z2, x, G2, sg2, ea, H0', G0', Δ1, O1, E1, f1⟩ := Inv.raised I1 cx
  show wpAny _ X.A (noteFrame (.ref a) X.env) _ _ s2
  have J1 := Inv.ofB I1
  have J2 := Inv.ofB I2
  refine av_6 (outer := X.outer) (by rw [← hst]; exact J2.ok.frames) (by rw [← hst]; exact J2.stack) hfr tr fun h1 T2 z3 k1 t1 => ?_
  refine s_4 t1 fun h2 k2 t2 => ?_
  have zT2 : H2 T2 = none := J2.hok.fresh z3
  have J3 : Inv X zd σ1 H2 { s2 with heap := h2 } := by
   refine Inv.settle (ch := [a, T] ++ [T2]) J1 J2 (fun b hb => ?_) ?_
   ·have : b = a ∨ b = T ∨ b = T2 := by simpa using hb
    rcases this with rfl | rfl | rfl
    ·exact ⟨z1, n1⟩
    ·exact ⟨z2, n2⟩
    ·exact ⟨Nat.le_trans z1 (Nat.le_trans (Nat.le_of_lt (Heap.lt_size tr.ob.choose_spec.choose_spec.1)) z3), zT2⟩
   ·rw [hst]; exact k1.trans (KeepX.of_same k2)
  obtain ⟨⟨oa, ua, ga, gc, gd, gf, g1⟩, ne, tbk⟩ := id t2
  have goa : h2.get? a = some ⟨.ref C, dx, .fields ua, oa.slots⟩ := by
   obtain ⟨c1, d1, e1, s1⟩ := oa
   simp only at gc gd gf
   subst gc gd gf
   exact ga
  have J4 : Inv X zd σ1 (upd H2 a (XO a C dx)) { s2 with heap := h2 } := Inv.speak J1 J3 z1 goa n1
  have st4 : Step G2 H2 (upd G2 a (XO a C dx)) (upd H2 a (XO a C dx)) := Step.new sg2 n1 _
  have LT : Looks (model X.prog X.w) h2 (typeOf (.ref a)) (.ref C) := gc ▸ (Looks.ld ga).andThen .now
  obtain ⟨hcC⟩ : Nonempty (ClsAt X.K x.c C) := by cases ea with | bare hc => exact ⟨hc⟩ | with_ hc _ _ _ => exact ⟨hc⟩
  refine ce_5 (oa := oa) (ua := ua) (T2 := T2) hN J1 J4 st4 n1 sg2 ea LT hcC E1 (fun {A E Q} hq => ?_) ho f1
  refine s_4 t2 fun h3 k3 t3 => hq h3 ?_
  refine Inv.settle (ch := [T2]) (s' := { s2 with heap := h2 }) J1 J4 (fun b hb => ?_) (KeepX.of_same k3)
  have : b = T2 := by simpa using hb
  subst this
  exact ⟨Nat.le_trans z1 (Nat.le_trans (Nat.le_of_lt (Heap.lt_size tr.ob.choose_spec.choose_spec.1)) z3), by rw [a_8 ne]; exact zT2⟩
 refine wpAny_mono (hb zd _ _ lk [] s σ H D (Inv.toB I) ⟨H0, G0, G, Δ, O, E, ?_⟩) (fun f s1 hs => ?_) fun _ _ z => z
 ·unfold w_1 at q
  cases e1 : g Δ with
  | ex x Δ1 =>
   rw [e1] at q
   exact fun σ1 G1 H1 O1 E1 sg => ⟨H0, G0, Δ1, O1, E1, Fin.mono sg q⟩
  | nx Δ1 => rw [e1] at q; exact q
  | bk Δ1 => rw [e1] at q; exact q
  | ct Δ1 => rw [e1] at q; exact q
  | rt w => rw [e1] at q; exact q
  | no => rw [e1] at q; exact q
 ·have hs' := SP.ofB hs
  cases f with
  | next => exact wpAny_execs_nil hs'
  | brk => exact hs'
  | cont => exact hs'
  | ret u => exact hs'
end
section
variable {prog : Program} {w : World} {A : Around} {E : Value → Shared → Prop} {h : Heap} {g : Array GenState} {d : Drawn} {t : Nat} {os : OsState}
variable {nm q : Str} {C N : Addr} {bs bm bmB : List Value} {az : Bool} {sn : List Str} {sub : List Value} {ab : Bool} {col : Option Bool} {dd : Option Addr} {k0 k1 k2 k3 k5 : Option Value} {B newId ag : String}
theorem bs_9 (FB : ExcBaseFacts B newId ag bmB) (T : OwnTail h bmB bm) {mN : Str → Option Value} {Q : PySem.Fin → Shared → Prop}
  (hC : h.get? C = some (excClassObj nm q C N bs bm az sn sub ab col dd k0 k1 k2 k3 k5 newId)) (hn : h.Ns N mN) (hi : mN "__init__" = none)
  (z : ∀ h' e, Heap.MadeExcOf h h' e (.ref C) [] → h.objs.size ≤ e → Q (.done (.ret (.ref e))) ⟨h', g, d, t, os⟩) :
  wpAny (model prog w) A (Builtin.«type.__call__» ⟨[.ref C], []⟩) Q E ⟨h, g, d, t, os⟩ := by
 wp_walk using wpAny_loadPart_at hC, wpAny_madeBy_exc hC
 refine codeAny_call_builtin_code (Code.quiet_builtin _ FB.quiet) (wpAny_check_new_subT FB T hC ?_)
 refine codeAny_exc_new_subT FB T hC ?_ (by show 0 ≤ sizeLine; exact Nat.zero_le _)
 show wpAny _ _ _ _ _ _
 generalize e1 : ({ cls := .type "tuple", data := .seq ([] : List Value).toArray } : Obj) = o1
 generalize e2 : ({ cls := .ref C, data := .fields #[.ref h.objs.size, .none, .none, .none, .bool false, .none] } : Obj) = o2
 have up : ∀ b o, h.get? b = some o → ((h.push o1).push o2).get? b = some o := fun b o e => Heap.get?_push_of_some _ (Heap.get?_push_of_some _ e)
 have ge : ((h.push o1).push o2).get? (h.objs.size + 1) = some o2 := by
  have := Heap.get?_push_size (h.push o1) (o := o2) (by rw [← e2]; rfl)
  rwa [Heap.size_push] at this
 have hC1 := up _ _ hC
 have hn1 : ((h.push o1).push o2).Ns N mN := hn.keeps up
 have T1 := T.keeps up
 have cl : o2.cls = .ref C := by rw [← e2]
 have hcC : List.contains (Value.ref C :: bm) (.ref C) = true := List.contains_iff_mem.mpr (.head _)
 unfold isInstance
 repeat (first | (with_reducible refine wpAny_loadPart_at ge ?_; rw [cl]) | (with_reducible refine wpAny_isSubtype_exc hC1 ?_; rw [hcC]) | wp_step)
 show wpAny _ _ (typeLookup (.ref C) _) _ _ _
 refine wpAny_typeLookup_tail hC1 hn1 T1 FB.mroIs FB.init.lookup ?_
 rw [hi]
 refine wpAny_holding (wpAny_bind (wpAny_of_eq (FB.init.bind _) ?_))
 refine wpAny_bind (wpAny_call (codeAny_call_builtin FB.init.plain FB.initEntry (wpAny_check_init_subT FB T1 hC1 ge cl ?_)))
 subst e1 e2
 wp_walk
 refine z _ (h.objs.size + 1) ⟨fun b o hb => ?_, Heap.get?_none_of_le (Nat.le_succ _), h.objs.size + 2, ?_, Heap.get?_none_of_le (by omega), ?_⟩ (Nat.le_succ _)
 ·rw [Heap.get?_update_other _ _ (Ne.symm (Nat.ne_of_lt (Nat.lt_succ_of_lt (Heap.lt_size hb))))]
  exact Heap.get?_push_of_some _ (up b o hb)
 ·rw [Heap.get?_update_self _ (Heap.get?_push_of_some _ ge) rfl, Heap.size_push, Heap.size_push]
  rfl
 ·rw [Heap.get?_update_other _ _ (Nat.ne_of_lt (Nat.lt_succ_self (h.objs.size + 1)))]
  exact Heap.get?_push_at (by rw [Heap.size_push, Heap.size_push]) rfl
theorem ce_6 (FB : ExcBaseFacts B newId ag bmB) (T : OwnTail h bmB bm) {mN : Str → Option Value} {Q : Value → Shared → Prop}
  (hC : h.get? C = some (excClassObj nm q C N bs bm az sn sub ab col dd k0 k1 k2 k3 k5 newId)) (hn : h.Ns N mN) (hi : mN "__init__" = none)
  (z : ∀ h' e, Heap.MadeExcOf h h' e (.ref C) [] → h.objs.size ≤ e → Q (.ref e) ⟨h', g, d, t, os⟩) :
  wpAny (model prog w) A (call (.ref C) []) Q E ⟨h, g, d, t, os⟩ := by
 have f1 := tc_lookup
 have f2 := tc_bind (.ref C)
 have isT : Shared.TypeIs ⟨h, g, d, t, os⟩ (.ref C) "type" := ⟨_, hC, rfl⟩
 refine wpAny_call (codeAny_of_tree (?_ : wpAny _ _ (callAny (.ref C) _) _ _ _))
 wp_walk using wpAny_loadPart_at hC
 refine ⟨rfl, ?_⟩
 exact codeAny_call_builtin_at (Code.quiet_builtin _ (by decide +kernel)) entry_typeCall (wpAny_check_type_call_sub hC (bs_9 FB T hC hn hi z))
end
def XMk0 (K : Frag) (C : Addr) : Prop := ∃ (nm q : Str) (N : Addr) (bs bm : List Value) (sn : List Str) (sub : List Value) (ab : Bool) (col : Option Bool) (dd : Option Addr) (k0 k1 k2 k3 k5 : Option Value) (mN : Str → Option Value),
 K.lookup C = some (excClassObj nm q C N bs bm true sn sub ab col dd k0 k1 k2 k3 k5 "ValueError.__new__") ∧ (∀ h : Heap, K.In h → OwnTail h bmVE bm) ∧ (∀ h : Heap, K.In h → h.Ns N mN) ∧ mN "__init__" = none
theorem bd_3 {C N L : Addr} {nm q : Str} {bs : List Value} {sn : List Str} {sub : List Value} {ab : Bool} {col : Option Bool} {dd : Option Addr} {k0 k1 k2 k3 k5 : Option Value} {oc c0 oL : Value} {od ddL odL : Option Addr} {es esL : Array DictEntry} {ep epL : Nat} {sl sl0 slL : Array (Option Value)} {cd : ClassData}
  (lc : K.lookup C = some (excClassObj nm q C N bs (.ref L :: bmVE) true sn sub ab col dd k0 k1 k2 k3 k5 "ValueError.__new__")) (ln : K.lookup N = some ⟨oc, od, .dict es ep, sl⟩) (kn : e_5 es = true) (hi : nsFind es "__init__" = none)
  (ll : K.lookup L = some ⟨c0, ddL, .cls cd, sl0⟩) (lm : K.lookup cd.ns = some ⟨oL, odL, .dict esL epL, slL⟩) (km : e_5 esL = true) (hL : nsFind esL "__init__" = none) : XMk0 K C :=
 ⟨nm, q, N, bs, _, sn, sub, ab, col, dd, k0, k1, k2, k3, k5, nsFind es, lc, fun h X => .own (X _ _ ll) (by_2 lm km X) hL .base, fun h X => by_2 ln kn X, hi⟩
structure XC0 (K : Frag) (mg : Str → Option Value) (c : Str) (C : Addr) : Prop where
 at_ : ClsAt K c C
 glob : mg c = some (.ref C)
 kp : keepIn K (.ref C) = true
 made : XMk0 K C
def ae_3 (c : Str) : FS := fun Δ => .ex ⟨c, [], []⟩ Δ
section
variable {X : Cx} {C : Addr} {c : Str}
theorem ah_3 {EX : EXS} {np zf pos : Pos} (M : XC0 X.K X.mg c C) (hr : RoomC true 2 X.A) (l1 : Lk1 X EX) (hg : Gl X c := by rfl) (hdb : (c == ("__debug__" : Str)) = false := by decide) :
  SD X EX (.Raise (some (.Call (.Name c np) [] [] zf)) none pos) (ae_3 c) := by
 intro zd s σ H D I q
 obtain ⟨H0, G0, G, Δ, O, E, q⟩ := q
 obtain ⟨nm, qn, N, bs, bm, sn, sub, ab, col, dd, k0, k1, k2, k3, k5, mN, lc, tl, hn, hi⟩ := M.made
 have hB : bm.contains (.type "BaseException") = true := ah_1 (tl s.heap I.kIn)
 rw [arm_exec_Raise]
 have mk : wpAny (model X.prog X.w) X.A (eval (.Call (.Name c np) [] [] zf) X.env) (fun v s1 => ∃ a t dx, v = .ref a ∧ s1.heap.get? C = some (excClassObj nm qn C N bs bm true sn sub ab col dd k0 k1 k2 k3 k5 "ValueError.__new__") ∧
   s1.heap.get? a = some { cls := .ref C, dict := dx, data := .fields #[.ref t, .none, .none, .none, .bool false, .none] } ∧ X.xe (.ref a) s1) X.xe s := by
  refine wpAny_Call_Name_kw (s_3 I hg M.glob ?_ hdb)
  refine callWith_K0 I.kIn M.kp ?_
  have KX := I.kIn
  obtain ⟨hh, gg, dr, tk, os⟩ := s
  refine ce_6 PySem.F.excBase_ValueError (tl hh KX) (KX _ _ lc) (hn hh KX) hi fun h' a me za => ?_
  obtain ⟨kk, new, t, et, _, _⟩ := me
  have I2 : Inv X zd σ H ⟨h', gg, dr, tk, os⟩ := I.kept (h' := h') (t' := tk) kk
  refine ⟨a, t, none, rfl, I2.kIn _ _ lc, et, ?_⟩
  exact l1 zd σ H H ⟨hh, gg, dr, tk, os⟩ ⟨h', gg, dr, tk, os⟩ a C none _ _ I I2 et rfl rfl rfl rfl (I.hok.fresh za) za ⟨⟨c, [], []⟩, G, E.st.gh, .bare M.at_, q σ G H O E (Same.refl _)⟩
 refine wpAny_bind (wpAny_standAt (av_7 hB (hr.hd rfl) (wpAny_bind (wpAny_mono mk (fun v s3 h3 => wpAny_bind (wpAny_standAt (wpAny_pure h3))) fun _ _ x => x))))
end
end L3
namespace L3
open PySem L2
variable {K : Frag} {fd : FuncData} {mg : Str → Option Value} {P : Program} {vs : List V} {us : List Value} {base : Heap} {H : Hp} {X : Cx} {pos : Pos} {v : V}
abbrev Ai {a b : Prop} (x : a) (y : b) : a ∧ b := ⟨x, y⟩
def evs := Ai @bodyD.eq_1 (Ai @start3.eq_1 (Ai @sSeq.eq_1 (Ai @sSet.eq_1 (Ai @gsome.eq_1 (Ai @give1.eq_1 (Ai @List.foldl_cons.{0,0} (Ai @List.foldl_nil.{0,0} (Ai @sRet.eq_1 (Ai @sRetV.eq_1 (Ai @sIf.eq_1 (Ai @sExpr.eq_1 (Ai @sNil.eq_1 (Ai @vsh.eq_1 (Ai @vall.eq_1 (Ai @gall.eq_1 (Ai @bs_3 (Ai @cm_3 (Ai @cm_4 (Ai @bs_4 (Ai @dg_2 (Ai @dg_3 (Ai @cw_3 (Ai @cw_4 (Ai @cw_5 (Ai @eOp.eq_1 (Ai @eVar.eq_1 (Ai @eC.eq_1 (Ai @eTest.eq_1 (Ai @eTruth.eq_1 (Ai @truthD.eq_1 (Ai @truthD.eq_2 (Ai @truthD.eq_3 (Ai @truthD.eq_4 (Ai @truthD.eq_5 (Ai @truthD.eq_6 (Ai @truthD.eq_7 (Ai @boolD.eq_1 (Ai @boolD.eq_2 (Ai @eCall.eq_1 (Ai @eFn.eq_1 (Ai @R.calm_ok (Ai @R.calm_no (Ai @R.calm_ex (Ai @sPut.eq_1 (Ai @sPut.eq_2 (Ai @sPut.eq_3 (Ai @sPut.eq_4 (Ai @sPut.eq_5 (Ai @eAttr.eq_1 (Ai @eIsC.eq_1 (Ai @isND.eq_1 (Ai @isND.eq_2 (Ai @nonB.eq_1 (Ai @nonB.eq_2 (Ai @aNil.eq_1 (Ai @aCons.eq_1 (Ai @eTup.eq_1 (Ai @eLst.eq_1 (Ai @eIf.eq_1 (Ai @eAnd.eq_1 (Ai @eOr.eq_1 (Ai @eNot.eq_1 (Ai @tAndF.eq_1 (Ai @tOrF.eq_1 (Ai @tNotF.eq_1 (Ai @eIs.eq_1 (Ai @bj_7 (Ai @bs_5 (Ai @bj_8 (Ai @bj_9 (Ai @bk_0 (Ai @bk_1 (Ai @bc_1 (Ai @bk_2 (Ai @bc_2 (Ai @bc_3 (Ai @bc_4 (Ai @bc_5 (Ai @bk_3 (Ai @bs_6 (Ai @bk_4 (Ai @bk_5 (Ai @bk_6 (Ai @bk_7 (Ai @bc_6 (Ai @bk_8 (Ai @bc_7 (Ai @bc_8 (Ai @bc_9 (Ai @bd_0 (Ai @at_3 (Ai @bd_1 (Ai @at_4 (Ai @at_5 (Ai @at_6 (Ai @at_7 (Ai @eSlice.eq_1 (Ai @oNone.eq_1 (Ai @oSome.eq_1 (Ai @intPart.eq_1 (Ai @intPart.eq_2 (Ai @eMeth.eq_1 (Ai @eMeth0.eq_1 (Ai @tyD.eq_1 (Ai @tyD.eq_2 (Ai @tyD.eq_3 (Ai @tyD.eq_4 (Ai @iArgs.eq_1 (Ai @iOf.eq_1 (Ai @itemsD.eq_1 (Ai @itemsD.eq_2 (Ai @itemsD.eq_3 (Ai @itemsD.eq_4 (Ai @R.bind_ok (Ai @R.bind_no (Ai @R.bind_ex (Ai @W.d_sh (Ai @W.d_ow (Ai @List.map_cons.{0,0} (Ai @List.map_nil.{0,0} (Ai @List.cons_append.{0} (Ai @List.nil_append.{0} (Ai @List.append_nil.{0} (Ai @List.replicate_succ.{0} (Ai @List.replicate_zero.{0} (Ai @List.length_cons.{0} (Ai @List.length_nil.{0} (Ai @List.set_cons_zero.{0} (Ai @List.set_cons_succ.{0} (Ai @List.getElem?_cons_zero.{0} (Ai @List.getElem?_cons_succ.{0} (Ai @if_true.{1} (Ai @if_false.{1} (Ai @flatD.eq_1 (Ai @flatD.eq_2 (Ai @flatD.eq_3 (Ai @flatD.eq_4 (Ai @flatD.eq_5 (Ai @Bool.false_eq_true (Ai @Bool.not_true (Ai @Bool.not_false (Ai @Bool.true_and (Ai @Bool.false_and (Ai @Nat.zero_add (Ai @decide_true (Ai @decide_false (Ai @gC.eq_1 (@gV.eq_1))))))))))))))))))))))))))))))))))))))))))))))))))))))))))))))))))))))))))))))))))))))))))))))))))))))))))))))))))))))))))))))))))))))))))))))))))))
end L3
namespace L3
open PySem PySem.Spec PyProof.Rows L2
variable {K : Frag} {fd : FuncData} {mg : Str → Option Value} {P : Program} {vs : List V} {us : List Value} {base : Heap} {H : Hp} {X : Cx} {pos : Pos} {v : V}
abbrev HBd (c : Bool) (P : Program) (w : World) (K : Frag) (mg : Str → Option Value) (base : Heap) (N : List Str) (qual : Str) (st : Stmt) (f : Addr) (k : Nat) (g : FS) : Prop := ∀ (zq : Value) (A : Around) (outer : List Env) (s : Shared) (H : Hp) (E : XK), (cxN c P w K mg base N qual (b_2 st) f zq A outer s H E).calm = c → RoomC c k (Cx.A (cxN c P w K mg base N qual (b_2 st) f zq A outer s H E)) → (Cx.A (cxN c P w K mg base N qual (b_2 st) f zq A outer s H E)).units + 64 < cLine → N.Nodup → Lk (cxN c P w K mg base N qual (b_2 st) f zq A outer s H E) (fun _ => EXof K E) →
   BD (cxN c P w K mg base N qual (b_2 st) f zq A outer s H E) (fun _ => EXof K E) (d_3 st) g
theorem c_4 {c : Bool} {w : World} {x qual : Str} {st : Stmt} {f : Addr} {N ps : List Str} {k : Nat} {g : FS} (F : Fun K x qual st f fd)
  (zk : HBd c P w K mg base N qual st f k g) (S : FnScope N ps (b_2 st) := by exact ⟨rfl, rfl, rfl, by decide +kernel, rfl, by decide +kernel, by decide +kernel⟩) : FnX P w K mg base c (k + 1) f fd ps (spX K ps.length (bodyD N.length g)) :=
 fn_D F S fun zq A outer s H E hr => zk zq A outer s H E rfl hr (RoomC.units hr) S.nd br_2
theorem dk_9 {c : Bool} {w : World} {x qual : Str} {st : Stmt} {f : Addr} {N ps : List Str} {k n : Nat} {g : FS} (F : Fun K x qual st f fd) (hn : ps.length = n + 1) (hle : ps.length ≤ N.length)
  (zk : HBd c P w K mg base N qual st f k g) (S : FnScope N ps (b_2 st) := by exact ⟨rfl, rfl, rfl, by decide +kernel, rfl, by decide +kernel, by decide +kernel⟩) : FnX P w K mg base c (k + 1) f fd ps (spM K n (bj_2 N.length g)) :=
 fn_M F S hn hle fun zq A outer s H E hr => zk zq A outer s H E rfl hr (RoomC.units hr) S.nd br_2
theorem cz_8 {c : Bool} {w : World} {x qual cn : Str} {st : Stmt} {f C : Addr} {N ps : List Str} {k n : Nat} {g : FS} (F : Fun K x qual st f fd) (hC : ClsAt K cn C) (hn : ps.length = n + 1) (hle : ps.length ≤ N.length)
  (zk : HBd c P w K mg base N qual st f k g) (S : FnScope N ps (b_2 st) := by exact ⟨rfl, rfl, rfl, by decide +kernel, rfl, by decide +kernel, by decide +kernel⟩) : FnX P w K mg base c (k + 1) f fd ps (spI K C n (ap_6 N.length cn g)) :=
 fn_I F S hC hn hle fun zq A outer s H E hr => zk zq A outer s H E rfl hr (RoomC.units hr) S.nd br_2
def FnAt (K : Frag) (x qual : Str) (st : Stmt) (f : Addr) : Prop := ∃ fd, Fun K x qual st f fd
theorem FnAt.mk {x qual : Str} {st : Stmt} {f : Addr} {oc kV dc pm cd ct : Value} {od an : Option Addr} {sl : Array (Option Value)}
  (l : K.lookup f = some ⟨oc, od, .func (fnOf x qual (g_2 st) (d_3 st) (b_2 st) .none kV dc pm an cd ct), sl⟩) (c : codeIn K cd qual = true) (k : keepIn K (.ref f) = true) : FnAt K x qual st f := ⟨_, ba_4 l c k⟩
def FnTop (K : Frag) (x : Str) (st : Stmt) : Prop := ∃ f, nsIn K mainGlobals x = some (some (.ref f)) ∧ FnAt K x x st f
theorem FnTop.mk {x : Str} {st : Stmt} {f : Addr} {oc kV dc pm cd ct : Value} {od an : Option Addr} {sl : Array (Option Value)} (a : nsIn K mainGlobals x = some (some (.ref f)))
  (l : K.lookup f = some ⟨oc, od, .func (fnOf x x (g_2 st) (d_3 st) (b_2 st) .none kV dc pm an cd ct), sl⟩) (c : codeIn K cd x = true) (k : keepIn K (.ref f) = true) : FnTop K x st := ⟨f, a, FnAt.mk l c k⟩
def FnMet (K : Frag) (C : Addr) (x qual : Str) (st : Stmt) : Prop := ∃ f, findIn K (.ref C) x = some (some (.ref f)) ∧ FnAt K x qual st f ∧ keepIn K (.ref f) = true ∧ isFn K (.ref f) = true
theorem FnMet.mk {C : Addr} {x qual : Str} {st : Stmt} {f : Addr} {oc kV dc pm cd ct : Value} {od an : Option Addr} {sl : Array (Option Value)} (a : findIn K (.ref C) x = some (some (.ref f)))
  (l : K.lookup f = some ⟨oc, od, .func (fnOf x qual (g_2 st) (d_3 st) (b_2 st) .none kV dc pm an cd ct), sl⟩) (c : codeIn K cd qual = true) (k : keepIn K (.ref f) = true) (i : isFn K (.ref f) = true) : FnMet K C x qual st := ⟨f, a, FnAt.mk l c k, k, i⟩
theorem gcM {EX : EXS} {i : Nat} {x : Str} (hN : decide X.N.Nodup = true := by kernel_rfl) (hi : X.N[i]? = some x := by rfl) (hx : Loc X.env.scope x := by first | exact Or.inl rfl | exact Or.inr rfl)
  (hf : X.fn x = true ∨ X.env.scope.names.lookup x = some .local := by first | exact .inl rfl | exact .inr rfl | assumption) : GC X EX (.Name x pos) (gC i) := cu_0 (of_decide_eq_true hN) hi hx hf
end L3
namespace My
open PySem L2 L3
def ax_6 : FS :=
  (sSeq (sIf [0, 1] (eTest (eOp ltD (eVar 1) (eCall p_3 (aCons (eVar 0) aNil))))
   (sRet [0, 1] (eOp ixD (eVar 0) (eVar 1)))
   sNil)
  (sRet [] (eC (.int 0))))
def h_3 : List D → R W := bodyD 2 ax_6
def ax_7 : FS :=
  (sSeq (sSet 2 [0, 1] (eOp h_4 (eOp j_3 (eOp d_7 (eVar 0) (eC (.int 1))) (eOp d_7 (eC (.int 48271)) (eOp j_3 (eC (.int 118)) (eVar 1)))) (eC (.int 2147483629))))
  (sRet [1, 2] (eOp h_4 (eOp d_7 (eOp d_7 (eOp j_3 (eOp r_0 (eVar 2) (eC (.int 977))) (eC (.int 16807))) (eOp j_3 (eVar 2) (eOp d_7 (eOp j_3 (eVar 1) (eVar 1)) (eC (.int 7))))) (eVar 1)) (eC (.int 2147483587)))))
def f_4 : List D → R W := bodyD 3 ax_7
def aq_4 : FS :=
  (sRet [0, 1] (eFn 2 f_4 (aCons (eOp h_4 (eFn 2 h_3 (aCons (eVar 0) (aCons (eVar 1) aNil))) (eC (.int 2147483647))) (aCons (eOp d_7 (eVar 1) (eC (.int 101))) aNil))))
def f_5 : List D → R W := bodyD 2 aq_4
def ai_9 : FS :=
  (sRet [0] (eOp d_7 (eOp j_3 (eOp d_7 (eOp j_3 (eFn 2 f_4 (aCons (eVar 0) (aCons (eC (.int 1)) aNil))) (eC (.int 2147483587))) (eFn 2 f_4 (aCons (eVar 0) (aCons (eC (.int 2)) aNil)))) (eC (.int 2147483587))) (eFn 2 f_4 (aCons (eVar 0) (aCons (eC (.int 3)) aNil)))))
def j_7 : List D → R W := bodyD 1 ai_9
def t_2 : FE :=
  (eFn 2 h_3 (aCons (eVar 0) (aCons (eOp d_7 (eVar 1) (eVar 5)) aNil)))
def t_3 : FE :=
  (eFn 1 j_7 (aCons (eFn 2 f_4 (aCons (eFn 2 f_5 (aCons (eVar 0) (aCons (eOp d_7 (eVar 1) (eOp h_4 (eVar 5) (eCall maxD (aCons (eC (.int 1)) (aCons (eVar 3) aNil))))) aNil))) (aCons (eVar 5) aNil))) aNil))
def x_4 : FS :=
  (sSeq (sSet 3 [0, 1] (eCall maxD (aCons (eC (.int 0)) (aCons (eOp subD (eCall p_3 (aCons (eVar 0) aNil)) (eVar 1)) aNil))))
  (sSeq (sIf [0] (eTest (eOp eqD (eOp h_4 (eFn 2 h_3 (aCons (eVar 0) (aCons (eC (.int 0)) aNil))) (eC (.int 2))) (eC (.int 0))))
   (sRet [0, 1, 2, 3] (c_6 1 (iArgs p_4 (aCons (eCall minD (aCons (eVar 2) (aCons (eVar 3) aNil))) aNil)) (gC 5) (fun _ => .ok true) t_2))
   sNil)
  (sSeq (sSet 4 [0, 2, 3] (eCall minD (aCons (eVar 2) (aCons (eCall maxD (aCons (eVar 3) (aCons (eOp d_7 (eC (.int 1)) (eOp h_4 (eFn 2 f_5 (aCons (eVar 0) (aCons (eC (.int 0)) aNil))) (eVar 2))) aNil))) aNil))))
  (sRet [0, 1, 3, 4] (c_6 1 (iArgs p_4 (aCons (eVar 4) aNil)) (gC 5) (fun _ => .ok true) t_3)))))
def m_4 : List D → R W := bodyD 5 x_4
def x_5 : FS :=
  (sSeq (sSet 2 [2, 5] (eOp r_0 (eVar 2) (eOp ixD (eLst (aCons (eC (.int 12)) (aCons (eC (.int 39)) aNil))) (eCall aw_1 (aCons (eOp gtD (eVar 5) (eC (.int 0))) aNil)))))
  (sSet 3 [1, 2, 3] (eOp d_7 (eVar 3) (eOp ixD (eVar 1) (eOp h_4 (eVar 2) (eC (.int 39)))))))
def z_3 : FS :=
  (sSeq (sSet 1 [] (eC (.str "abcdefghijklmnopqrstuvwxyz0123456789-_ ")))
  (sSeq (sSet 2 [0] (eOp r_0 (eVar 0) (eC (.int 3))))
  (sSeq (sIf [0] (eTest (eOp eqD (eOp h_4 (eVar 0) (eC (.int 3))) (eC (.int 0))))
   (sRet [2] (eOp h_4 (eVar 2) (eOp powD (eC (.int 10)) (eC (.int 18)))))
   sNil)
  (sSeq (sIf [0] (eTest (eOp eqD (eOp h_4 (eVar 0) (eC (.int 3))) (eC (.int 2))))
   (sRet [2] (eOp h_4 (eVar 2) (eC (.int 50))))
   sNil)
  (sSeq (sSet 3 [] (eC (.str "")))
  (sSeq (sSet 4 [2] (eOp h_4 (eVar 2) (eC (.int 12))))
  (sSeq (h_2 [4] (iArgs p_4 (aCons (eVar 4) aNil)) (gV 5) x_5)
  (sRetV 3))))))))
def m_5 : List D → R W := bodyD 6 z_3
def q_3 : FS :=
  (sSeq (sSet 5 [4] (eFn 1 m_5 (aCons (eVar 4) aNil)))
  (sIf [3, 5] (eTest (eOp (inD true) (eVar 5) (eVar 3)))
   (sApp 3 (eVar 5))
   sNil))
def ab_9 : FS :=
  (sSeq (sSet 3 [] (eLst aNil))
  (sSeq (h_2 [0, 1, 2] (iOf (eFn 3 m_4 (aCons (eVar 0) (aCons (eVar 1) (aCons (eVar 2) aNil))))) (gV 4) q_3)
  (sSeq (sIf [3] (eTest (eOp eqD (eVar 3) (eLst aNil)))
   (sSet 3 [0] (eLst (aCons (eFn 1 m_5 (aCons (eOp r_0 (eFn 2 h_3 (aCons (eVar 0) (aCons (eC (.int 0)) aNil))) (eC (.int 2))) aNil)) aNil)))
   sNil)
  (sRetV 3))))
def o_0 : List D → R W := bodyD 6 ab_9
def l_7 : FE :=
  (eOp (inD false) (eVar 1) (eC (.str "abcdefghijklmnopqrstuvwxyz0123456789-_ ")))
def aa_5 : FS :=
  (sRet [0] (eAnd (eOp leD (eCall p_3 (aCons (eVar 0) aNil)) (eC (.int 11))) (eCall allD (aCons (c_6 1 (iOf (eVar 0)) (gC 1) (fun _ => .ok true) l_7) aNil))))
def l_2 : List D → R W := bodyD 1 aa_5
def aq_5 : FS :=
  (sSeq (sIf [0] (eTruth (eIs "bool" (eVar 0)))
   (sRet [] (eC (.bl false)))
   sNil)
  (sSeq (sIf [0] (eTruth (eIs "int" (eVar 0)))
   (sRet [0] (af_8 leD leD (eC (.int 0)) (eVar 0) (eC (.int 999999999999999999))))
   sNil)
  (sRet [0] (eAnd (eIs "str" (eVar 0)) (eFn 1 l_2 (aCons (eVar 0) aNil))))))
def r_4 : List D → R W := bodyD 1 aq_5
def n_6 : FS :=
  (sIf [2] (tNotF (eTruth (eFn 1 r_4 (aCons (eVar 2) aNil))))
   (ah_2 "NoKey" "at" [1] (eVar 1))
   sNil)
def w_2 : FS :=
  (h_2 [0] (ad_9 (eVar 0)) (gV2 1 2) n_6)
def g_1 : List D → R W := bodyD 3 w_2
def i_3 : FS :=
  (sSeq (sIf [1, 3] (eTest (eOp (inK false) (eVar 3) (eVar 1)))
   (ah_2 "Twice" "at" [2] (eVar 2))
   sNil)
  (ae_1 1 [] (eVar 3) (eC (.bl true))))
def aa_6 : FS :=
  (sSeq (sSet 1 [] ap_2)
  (h_2 [0] (ad_9 (eVar 0)) (gV2 2 3) i_3))
def l_3 : List D → R W := bodyD 4 aa_6
def aj_0 : FS :=
  (sSeq (sIf [0] (tOrF (eTest (eOp eqD (eCall p_3 (aCons (eVar 0) aNil)) (eC (.int 0)))) (eTest (eOp gtD (eCall p_3 (aCons (eVar 0) aNil)) (eC (.int 200)))))
   (ae_3 "NoKeys")
   sNil)
  (sSeq (sExpr [0] (eFn 1 g_1 (aCons (eVar 0) aNil)))
  (sSeq (sExpr [0] (eFn 1 l_3 (aCons (eVar 0) aNil)))
  (sRet [0] (eCall p_3 (aCons (eVar 0) aNil))))))
def j_8 : List D → R W := bodyD 1 aj_0
def x_6 : FS :=
  (sSeq (sIf [1] (eTest (eOp ltD (eVar 1) (eC (.int 3))))
   (sRet [0] (eOp d_7 (eOp d_7 (eVar 0) (eOp r_0 (eVar 0) (eC (.int 8)))) (eC (.int 1))))
   sNil)
  (sRet [0] (eOp d_7 (eOp r_0 (eOp j_3 (eC (.int 41)) (eVar 0)) (eC (.int 100))) (eC (.int 2)))))
def h_6 : List D → R W := bodyD 2 x_6
def ah_4 : FS :=
  (sSet 1 [1, 2] (eOp d_7 (eOp d_7 (eOp j_3 (eC (.int 40)) (eVar 1)) (eMeth "str" bi_6 (eC (.str "abcdefghijklmnopqrstuvwxyz0123456789-_ ")) (aCons (eVar 2) aNil))) (eC (.int 1))))
def by_9 : FS :=
  (sSeq (sSet 1 [] (eC (.int 0)))
  (sSeq (h_2 [0] (iOf (eVar 0)) (gV 2) ah_4)
  (sRetV 1)))
def ae_4 : List D → R W := bodyD 3 by_9
def bd_4 : FS :=
  (sSeq (sIf [0] (tNotF (eTruth (eFn 1 r_4 (aCons (eVar 0) aNil))))
   (ah_2 "NoKey" "at" [] (eC (.int 0)))
   sNil)
  (sSeq (sIf [0] (eTruth (eIs "str" (eVar 0)))
   (sRet [0] (eOp d_7 (eOp j_3 (eC (.int 2)) (eFn 1 ae_4 (aCons (eVar 0) aNil))) (eC (.int 1))))
   sNil)
  (sRet [0] (eOp j_3 (eC (.int 2)) (eVar 0)))))
def v_5 : List D → R W := bodyD 1 bd_4
def bz_0 : FS :=
  (sSeq (sIf [2] (eTest (eOp eqD (eVar 2) (eC (.int 0))))
   (sRet [] (eC (.int 0)))
   sNil)
  (sSeq (sSet 3 [1] (eOp d_7 (eC (.int 1)) (eOp h_4 (eOp d_7 (eOp j_3 (eC (.int 1103515245)) (eVar 1)) (eC (.int 12345))) (eOp subD (eC (.int 2305843009213693951)) (eC (.int 1))))))
  (sSeq (sSet 4 [1] (eOp h_4 (eOp d_7 (eOp j_3 (eOp j_3 (eC (.int 69069)) (eVar 1)) (eVar 1)) (eOp j_3 (eC (.int 7)) (eVar 1))) (eC (.int 2305843009213693951))))
  (sSeq (sSet 5 [0, 3, 4] (eOp h_4 (eOp d_7 (eOp j_3 (eVar 3) (eVar 0)) (eVar 4)) (eC (.int 2305843009213693951))))
  (sRet [2, 5] (eOp h_4 (eOp d_7 (eVar 5) (eOp r_0 (eVar 5) (eC (.int 2147483648)))) (eVar 2)))))))
def z_4 : List D → R W := bodyD 6 bz_0
def o_8 : FE :=
  (eOp d_7 (eOp j_3 (eVar 5) (eVar 3)) (eFn 3 z_4 (aCons (eVar 4) (aCons (eOp d_7 (eOp j_3 (eC (.int 4)) (eVar 1)) (eVar 5)) (aCons (eVar 3) aNil)))))
def aj_1 : FS :=
  (sSeq (sSet 4 [0] (eFn 1 v_5 (aCons (eVar 0) aNil)))
  (sRet [1, 2, 3, 4] (eCall cj_8 (aCons (c_6 1 (iArgs p_4 (aCons (eVar 2) aNil)) (gC 5) (fun _ => .ok true) o_8) aNil))))
def e_3 : List D → R W := bodyD 5 aj_1
def v_6 : FE :=
  (eFn 4 e_3 (aCons (eVar 4) (aCons (eVar 1) (aCons (eVar 2) (aCons (eVar 3) aNil)))))
def aq_6 : FS :=
  (sSeq (sSet 3 [0, 2] (eFn 2 h_6 (aCons (eFn 1 j_8 (aCons (eVar 0) aNil)) (aCons (eVar 2) aNil))))
  (sRet [0, 1, 2, 3] (c_6 1 (iOf (eVar 0)) (gC 4) (fun _ => .ok true) v_6)))
def o_1 : List D → R W := bodyD 4 aq_6
def i_4 : FS :=
  (sSeq (sIf [1, 4] (eTest (eOp (inK true) (eVar 4) (eVar 1)))
   (ax_0 1 (eVar 4))
   sNil)
  (aw_9 1 (eVar 4) (eVar 2) (eC (.bl true))))
def i_5 : FS :=
  (h_2 [3] (iOf (eVar 3)) (gV 4) i_4)
def t_4 : FS :=
  (sSeq (sSet 1 [] ap_2)
  (sSeq (h_2 [0] (ad_9 (eVar 0)) (gV2 2 3) i_5)
  (sRetV 1)))
def o_9 : List D → R W := bodyD 5 t_4
def t_5 : FS :=
  (bx_4 2 (eVar 3) (eVar 0))
def aj_2 : FS :=
  (h_2 [1] (iOf (eVar 1)) (gV 3) t_5)
def j_9 : List D → Tn → Option Tn := bj_2 4 aj_2
def v_7 : FT :=
  (eTest (eOp gtD (eCall p_3 (aCons (eVar 3) aNil)) (eC (.int 0))))
def o_2 : FS :=
  (sSeq (bj_0 7 3)
  (sIf [2, 7] (eTest (eOp eqD (eCall lenK (aCons (eOp getK (eVar 2) (eVar 7)) aNil)) (eC (.int 1))))
   (sSeq (sSet 8 [2, 7] (eCall minK (aCons (eOp getK (eVar 2) (eVar 7)) aNil)))
  (sSeq (sApp 4 (eTup (aCons (eVar 8) (aCons (eVar 7) aNil))))
  (sSeq (ae_1 5 [] (eVar 8) (eC (.bl true)))
  (sSeq (ap_5 2 j_9 (eVar 8) (eOp ixD (eVar 0) (eVar 8)))
  (sExt 3 (eOp ixD (eVar 0) (eVar 8)))))))
   sNil))
def i_0 : FT :=
  (eTest (eOp (inK true) (eVar 9) (eVar 5)))
def bl_7 : FS :=
  (sSeq (sSet 2 [0] (eFn 1 o_9 (aCons (eVar 0) aNil)))
  (sSeq (bj_1 3 (eCall bx_6 (aCons (eVar 2) aNil)))
  (sSeq (sSet 4 [] (eLst aNil))
  (sSeq (sSet 5 [] ap_2)
  (sSeq (j_5 [3] v_7 o_2 3000)
  (sSeq (sSet 6 [0, 5] (c_6 1 (iArgs p_4 (aCons (eCall p_3 (aCons (eVar 0) aNil)) aNil)) (gC 9) i_0 (eVar 9)))
  (cl_6 4 6)))))))
def ae_5 : List D → R W := bodyD 9 bl_7
def cn_2 : FS :=
  (sSeq (sSet 3 [0, 1, 2] (eFn 3 o_1 (aCons (eVar 0) (aCons (eVar 1) (aCons (eVar 2) aNil)))))
  (sRet [0, 2, 3] (eFn 2 ae_5 (aCons (eVar 3) (aCons (eOp j_3 (eVar 2) (eFn 2 h_6 (aCons (eCall p_3 (aCons (eVar 0) aNil)) (aCons (eVar 2) aNil)))) aNil)))))
def ac_0 : List D → R W := bodyD 4 cn_2
def aq_7 : FS :=
  (sSeq (sSet 3 [0, 1, 2] (eOp ixD (eFn 3 ac_0 (aCons (eVar 0) (aCons (eVar 1) (aCons (eVar 2) aNil)))) (eC (.int 1))))
  (sRet [3] (eOp eqD (eCall p_3 (aCons (eVar 3) aNil)) (eC (.int 0)))))
def g_6 : List D → R W := bodyD 4 aq_7
def i_8 : FS :=
  (sIf [0, 1, 3] (eTruth (eFn 3 g_6 (aCons (eVar 0) (aCons (eVar 3) (aCons (eVar 1) aNil)))))
   (sRetV 3)
   sNil)
def x_7 : FS :=
  (sSeq (sExpr [0] (eFn 1 j_8 (aCons (eVar 0) aNil)))
  (sSeq (h_2 [2] (iArgs p_4 (aCons (eVar 2) aNil)) (gV 3) i_8)
  (ae_3 "NoTry")))
def d_5 : List D → R W := bodyD 4 x_7
def aq_8 : FS :=
  (sRet [0, 1] (eAnd (eNot (eIs "bool" (eVar 0))) (af_8 leD ltD (eC (.int 0)) (eVar 0) (eVar 1))))
def o_3 : List D → R W := bodyD 2 aq_8
def aj_3 : FS :=
  (sRet [0, 1] (eIf (eTest (eOp eqD (eVar 1) (eC (.int 0)))) (eC (.int 0)) (eOp h_4 (eVar 0) (eVar 1))))
def m_6 : List D → R W := bodyD 2 aj_3
def r_5 : FE :=
  (eOp ixD (eVar 0) (eVar 4))
def r_6 : FT :=
  (eTruth (eFn 2 o_3 (aCons (eVar 4) (aCons (eCall p_3 (aCons (eVar 0) aNil)) aNil))))
def bl_8 : FS :=
  (sSeq (sSet 3 [0, 1] (c_6 1 (iOf (eVar 1)) (gC 4) r_6 r_5))
  (sRet [2, 3] (eFn 2 m_6 (aCons (eCall sumD (aCons (eVar 3) aNil)) (aCons (eVar 2) aNil)))))
def k_0 : List D → R W := bodyD 4 bl_8
def ac_1 : FS :=
  (sSeq (sSet 8 [0, 3, 4, 5, 6] (eOp subD (eOp ixD (eVar 3) (eVar 6)) (eFn 3 k_0 (aCons (eVar 5) (aCons (eOp ixD (eVar 0) (eVar 6)) (aCons (eVar 4) aNil))))))
  (sIf [1, 7] (eTruth (eFn 2 o_3 (aCons (eVar 7) (aCons (eVar 1) aNil))))
   (bx_0 5 [4, 8] (eVar 7) (eFn 2 m_6 (aCons (eVar 8) (aCons (eVar 4) aNil))))
   sNil))
def bl_9 : FS :=
  (sSeq (sSet 5 [1] (eRep (aCons (eC (.int 0)) aNil) (eVar 1)))
  (sSeq (h_2 [2] (iRev (eVar 2)) (gV2 6 7) ac_1)
  (sRetV 5)))
def x_8 : List D → R W := bodyD 9 bl_9
def ah_5 : FS :=
  (sSeq (r_3 0 ["Table"] "by_salt" [1] (eVar 1))
  (sSeq (r_3 0 ["Table"] "kind" [2] (eVar 2))
  (sSeq (r_3 0 ["Table"] "part" [3] (eVar 3))
  (sSeq (r_3 0 ["Table"] "modulus" [4] (eVar 4))
  (r_3 0 ["Table"] "listed" [5] (eVar 5))))))
def ae_6 : List D → R (List Str × List D) := ap_6 6 "Table" ah_5
def aj_4 : FS :=
  (sSeq (sSet 5 [0, 2] (eFn 2 h_6 (aCons (eCall p_3 (aCons (eVar 0) aNil)) (aCons (eVar 2) aNil))))
  (sSeq (sSet 6 [0, 1, 2] (eFn 3 o_1 (aCons (eVar 0) (aCons (eVar 1) (aCons (eVar 2) aNil)))))
  (sSeq (sSet 7 [0, 1, 2] (eOp ixD (eFn 3 ac_0 (aCons (eVar 0) (aCons (eVar 1) (aCons (eVar 2) aNil)))) (eC (.int 0))))
  (sRet [1, 2, 3, 4, 5, 6, 7] (ax_2 "Table" 5 ae_6 (aCons (eVar 1) (aCons (eVar 2) (aCons (eVar 5) (aCons (eVar 3) (aCons (eFn 5 x_8 (aCons (eVar 6) (aCons (eOp j_3 (eVar 2) (eVar 5)) (aCons (eVar 7) (aCons (eVar 4) (aCons (eVar 3) aNil)))))) aNil))))))))))
def m_7 : List D → R W := bodyD 8 aj_4
def ac_2 : FS :=
  (sSet 1 [1] (eOp j_3 (eVar 1) (eC (.int 2))))
def bm_0 : FS :=
  (sSeq (sSet 1 [] (eC (.int 1)))
  (sSeq (h_2 [0] (iArgs p_4 (aCons (eVar 0) aNil)) (gV 2) ac_2)
  (sRetV 1)))
def r_7 : List D → R W := bodyD 3 bm_0
def cn_3 : FS :=
  (sRet [0, 1] (eFn 3 z_4 (aCons (eFn 1 v_5 (aCons (eVar 0) aNil)) (aCons (eC (.int 3)) (aCons (eFn 1 r_7 (aCons (eVar 1) aNil)) aNil)))))
def ac_3 : List D → R W := bodyD 2 cn_3
def h_0 : FE :=
  (eFn 2 ac_3 (aCons (eVar 6) (aCons (eVar 2) aNil)))
def n_7 : FS :=
  (sSeq (sSet 5 [1, 3, 4] (eFn 3 d_5 (aCons (eVar 1) (aCons (eVar 3) (aCons (eVar 4) aNil)))))
  (sSeq (r_3 0 ["Marked"] "how_many" [1] (eCall p_3 (aCons (eVar 1) aNil)))
  (sSeq (r_3 0 ["Marked"] "width" [2] (eVar 2))
  (r_3 0 ["Marked"] "own_table" [1, 2, 3, 5] (eFn 5 m_7 (aCons (eVar 1) (aCons (eVar 5) (aCons (eVar 3) (aCons (eFn 1 r_7 (aCons (eVar 2) aNil)) (aCons (c_6 1 (iOf (eVar 1)) (gC 6) (fun _ => .ok true) h_0) aNil))))))))))
def l_4 : List D → R (List Str × List D) := ap_6 6 "Marked" n_7
def d_4 : FS :=
  (sSet 3 [0, 1, 2] (ax_2 "Marked" 4 l_4 (aCons (eVar 0) (aCons (eVar 1) (aCons (eVar 2) (aCons (eC (.int 20)) aNil))))))
def r_8 : FS :=
  (sSet 3 [] (eC .non))
def v_8 : FS :=
  (sSeq (w_1 d_4 [⟨none, [("NoKey", false), ("NoKeys", false), ("NoRange", false), ("NoTry", true), ("Twice", false)], r_8⟩])
  (sRetV 3))
def k_4 : List D → R W := bodyD 4 v_8
def p_0 : FE :=
  (eOp ixD (eVar 0) (eVar 3))
def aj_5 : FS :=
  (sRet [0, 1, 2] (eOp h_4 (eCall sumD (aCons (c_6 1 (iOf (eVar 1)) (gC 3) (fun _ => .ok true) p_0) aNil)) (eVar 2)))
def h_7 : List D → R W := bodyD 3 aj_5
def aj_6 : FS :=
  (sSeq (sSet 3 [] (eC (.int 2305843009213693951)))
  (sSeq (sSet 4 [1, 3] (eOp d_7 (eC (.int 1)) (eOp h_4 (eOp d_7 (eOp j_3 (eC (.int 1103515245)) (eVar 1)) (eC (.int 12345))) (eOp subD (eVar 3) (eC (.int 1))))))
  (sSeq (sSet 5 [1, 3] (eOp h_4 (eOp d_7 (eOp j_3 (eOp j_3 (eC (.int 69069)) (eVar 1)) (eVar 1)) (eOp j_3 (eC (.int 7)) (eVar 1))) (eVar 3)))
  (sSeq (sSet 6 [0, 3, 4, 5] (eOp h_4 (eOp d_7 (eOp j_3 (eVar 4) (eVar 0)) (eVar 5)) (eVar 3)))
  (sRet [2, 6] (eOp h_4 (eOp d_7 (eVar 6) (eOp r_0 (eVar 6) (eC (.int 2147483648)))) (eVar 2)))))))
def m_8 : List D → R W := bodyD 7 aj_6
def t_6 : FS :=
  (sSet 1 [1, 2] (eOp d_7 (eOp d_7 (eOp j_3 (eVar 1) (eC (.int 40))) (eMeth "str" ag_6 (eC (.str "abcdefghijklmnopqrstuvwxyz0123456789-_ ")) (aCons (eVar 2) aNil))) (eC (.int 1))))
def x_9 : FS :=
  (sSeq (sIf [0] (eTruth (eIs "int" (eVar 0)))
   (sRet [0] (eOp j_3 (eC (.int 2)) (eVar 0)))
   sNil)
  (sSeq (sSet 1 [] (eC (.int 0)))
  (sSeq (h_2 [0] (iOf (eVar 0)) (gV 2) t_6)
  (sRet [1] (eOp d_7 (eOp j_3 (eC (.int 2)) (eVar 1)) (eC (.int 1)))))))
def k_1 : List D → R W := bodyD 3 x_9
def aa_7 : FS :=
  (sRet [0] (eCall bb_3 (aCons (s_2 ["Table"] "listed" (eVar 0)) aNil)))
def g_7 : List D → R W := bodyD 1 aa_7
def y_0 : FS :=
  (sRet [0] (h_5 "table" 0 [("Table", g_7)] (s_2 ["Marked"] "own_table" (eVar 0)) aNil))
def d_0 : List D → R W := bodyD 1 y_0
def y_1 : FS :=
  (sRet [0, 1] (eFn 4 e_3 (aCons (eVar 1) (aCons (s_2 ["Table"] "by_salt" (eVar 0)) (aCons (s_2 ["Table"] "kind" (eVar 0)) (aCons (s_2 ["Table"] "part" (eVar 0)) aNil))))))
def c_0 : List D → R W := bodyD 2 y_1
def w_3 : FS :=
  (sRet [0, 1] (h_5 "places" 1 [("Table", c_0)] (s_2 ["Marked"] "own_table" (eVar 0)) (aCons (eVar 1) aNil)))
def b_6 : List D → R W := bodyD 2 w_3
def y_2 : FS :=
  (sSeq (sSet 8 [0, 4, 6, 7] (eFn 3 h_7 (aCons (eVar 6) (aCons (h_5 "places" 1 [("Marked", b_6)] (eVar 0) (aCons (eVar 7) aNil)) (aCons (eVar 4) aNil)))))
  (sIf [1, 4, 7, 8] (tAndF (eTest (eOp (inD true) (eVar 7) (eVar 1))) (eTest (eOp eqD (eVar 8) (eFn 3 m_8 (aCons (eFn 1 k_1 (aCons (eVar 7) aNil)) (aCons (eC (.int 3)) (aCons (eVar 4) aNil)))))))
   (sApp 5 (eVar 7))
   sNil))
def ax_8 : FS :=
  (sSeq (sSet 5 [] (eLst aNil))
  (sSeq (sSet 6 [0] (h_5 "table" 0 [("Marked", d_0)] (eVar 0) aNil))
  (sSeq (h_2 [2, 3] (iArgs rng2 (aCons (eVar 2) (aCons (eOp d_7 (eVar 3) (eC (.int 1))) aNil))) (gV 7) y_2)
  (sRetV 5))))
def u_6 : List D → R W := bodyD 9 ax_8
def aa_8 : FS :=
  (sRet [0, 1] (eFn 3 k_0 (aCons (s_2 ["Table"] "listed" (eVar 0)) (aCons (h_5 "places" 1 [("Table", c_0)] (eVar 0) (aCons (eVar 1) aNil)) (aCons (s_2 ["Table"] "modulus" (eVar 0)) aNil)))))
def f_1 : List D → R W := bodyD 2 aa_8
def y_3 : FS :=
  (sRet [0, 1] (eOp eqD (h_5 "total" 1 [("Table", f_1)] (s_2 ["Marked"] "own_table" (eVar 0)) (aCons (eVar 1) aNil)) (eFn 2 ac_3 (aCons (eVar 1) (aCons (s_2 ["Marked"] "width" (eVar 0)) aNil)))))
def d_1 : List D → R W := bodyD 2 y_3
def q_4 : FS :=
  (ae_1 4 [] (eVar 5) (eC (.bl true)))
def k_5 : FT :=
  (tAndF (eTest (eOp (inK true) (eVar 8) (eVar 4))) (eTruth (h_5 "knows" 1 [("Marked", d_1)] (eVar 0) (aCons (eVar 8) aNil))))
def ac_4 : FS :=
  (sSeq (sExpr [1] (eFn 1 g_1 (aCons (eVar 1) aNil)))
  (sSeq (sIf [2, 3] (eTest (eOp geD (eOp subD (eVar 3) (eVar 2)) (eC (.int 2000))))
   (ae_3 "NoRange")
   sNil)
  (sSeq (sSet 4 [] ap_2)
  (sSeq (h_2 [1] (iOf (eVar 1)) (gV 5) q_4)
  (sSeq (sSet 6 [2] (eCall maxD (aCons (eVar 2) (aCons (eC (.int 0)) aNil))))
  (sSeq (sSet 7 [3] (eOp d_7 (eCall minD (aCons (eVar 3) (aCons (eC (.int 999999999999999999)) aNil))) (eC (.int 1))))
  (sRet [0, 4, 6, 7] (c_6 1 (iArgs rng2 (aCons (eVar 6) (aCons (eVar 7) aNil))) (gC 8) k_5 (eVar 8)))))))))
def f_6 : List D → R W := bodyD 8 ac_4
def aj_7 : FS :=
  (sRet [0] (eAnd (eIs "int" (eVar 0)) (eNot (eIs "bool" (eVar 0)))))
def p_5 : List D → R W := bodyD 1 aj_7
def l_5 : FT :=
  (tNotF (eTruth (eFn 1 p_5 (aCons (eVar 7) aNil))))
def aj_8 : FS :=
  (sSeq (sSet 5 [1] (eCall bb_3 (aCons (eVar 1) aNil)))
  (sSeq (sSet 6 [0, 2, 3, 5] (eFn 4 f_6 (aCons (eVar 0) (aCons (eVar 5) (aCons (eVar 2) (aCons (eVar 3) aNil))))))
  (sSeq (sIf [1, 4, 5, 6] (tOrF (tNotF (eTruth (eIs "list" (eVar 6)))) (tOrF (eTest (eOp neD (eVar 6) (eVar 4))) (eTest (eOp neD (eVar 5) (eVar 1)))))
   (sRet [] (eC (.bl false)))
   sNil)
  (sSeq (sIf [6] (eTest (eOp neD (c_6 1 (iOf (eVar 6)) (gC 7) l_5 (eVar 7)) (eLst aNil)))
   (sRet [] (eC (.bl false)))
   sNil)
  (sSeq (sApp 6 (eVar 2))
  (sRet [] (eC (.bl true))))))))
def g_3 : List D → R W := bodyD 7 aj_8
def bm_1 : FS :=
  (sSeq (sIf [0] (tOrF (tNotF (eTruth (eIsC [("NoKey", true), ("NoKeys", true), ("NoRange", true), ("NoTry", true), ("Twice", true)] (eVar 0)))) (tNotF (eTruth (eIsC [("NoKey", true), ("NoKeys", true), ("NoRange", true), ("NoTry", true), ("Twice", true)] (eVar 0)))))
   (sRet [] (eC (.bl false)))
   sNil)
  (sSeq (sIf [0] (eTruth (eIsC [("NoKey", true), ("NoKeys", true), ("NoRange", false), ("NoTry", false), ("Twice", false)] (eVar 0)))
   (sRet [] (eC (.bl false)))
   sNil)
  (sRet [0] (eNot (eIsC [("NoKey", false), ("NoKeys", false), ("NoRange", false), ("NoTry", true), ("Twice", true)] (eVar 0))))))
def s_7 : List D → R W := bodyD 1 bm_1
def l_8 : FS :=
  (sExpr [0, 1, 2, 3] (eFn 4 f_6 (aCons (eVar 0) (aCons (eVar 1) (aCons (eVar 2) (aCons (eVar 3) aNil))))))
def i_6 : FS :=
  (sSet 4 [5] (eFn 1 s_7 (aCons (eVar 5) aNil)))
def aa_9 : FS :=
  (sSeq (sSet 4 [] (eC (.bl false)))
  (sSeq (w_1 l_8 [⟨some 5, [("NoKey", false), ("NoKeys", false), ("NoRange", true), ("NoTry", false), ("Twice", false)], i_6⟩])
  (sRetV 4)))
def p_1 : List D → R W := bodyD 6 aa_9
def bz_1 : FS :=
  (sSeq (sSet 14 [0, 5, 9] (eOp d_7 (eVar 5) (eOp h_4 (eFn 2 f_4 (aCons (eFn 2 f_5 (aCons (eVar 0) (aCons (eC (.int 1)) aNil))) (aCons (eVar 9) aNil))) (eC (.int 300)))))
  (sIf [1, 14] (eTest (eOp (inD true) (eVar 14) (eVar 1)))
   (sApp 1 (eVar 14))
   sNil))
def bd_5 : FS :=
  (sSet 8 [8] (eOp j_3 (eC (.int 2)) (eVar 8)))
def ae_7 : FS :=
  (sIf [1, 5, 7, 11] (tAndF (eTest (eOp geD (eVar 11) (eC (.int 2000)))) (tAndF (eTest (eOp ltD (eOp d_7 (eVar 5) (eVar 11)) (eOp powD (eC (.int 10)) (eC (.int 18))))) (tNotF (eTruth (eFn 4 p_1 (aCons (eVar 7) (aCons (eVar 1) (aCons (eVar 5) (aCons (eOp d_7 (eVar 5) (eVar 11)) aNil)))))))))
   (sRet [] (eC (.bl false)))
   sNil)
def bz_2 : FS :=
  (sSet 1 [0] (eFn 3 o_0 (aCons (eVar 0) (aCons (eC (.int 2)) (aCons (eC (.int 20)) aNil)))))
def bz_3 : FS :=
  (sSet 2 [0] (eFn 2 h_3 (aCons (eVar 0) (aCons (eC (.int 1)) aNil))))
def bz_4 : FS :=
  (sSet 3 [2] (eOp d_7 (eC (.int 2)) (eOp h_4 (eVar 2) (eC (.int 2)))))
def bz_5 : FS :=
  (sSet 4 [2] (eOp d_7 (eC (.int 1)) (eOp h_4 (eOp r_0 (eVar 2) (eC (.int 2))) (eOp ixD (eLst (aCons (eC (.int 6)) (aCons (eC (.int 6)) (aCons (eC (.int 6)) (aCons (eC (.int 32)) aNil))))) (eOp h_4 (eOp r_0 (eVar 2) (eC (.int 64))) (eC (.int 4)))))))
def bz_6 : FS :=
  (sSet 5 [2] (eOp d_7 (eC (.int 1)) (eOp h_4 (eOp r_0 (eVar 2) (eC (.int 256))) (eOp ixD (eLst (aCons (eC (.int 1000)) (aCons (eOp subD (eOp powD (eC (.int 10)) (eC (.int 18))) (eC (.int 4000))) aNil))) (eOp h_4 (eOp r_0 (eVar 2) (eC (.int 128))) (eC (.int 2)))))))
def ae_8 : FS :=
  (sIf [1, 2] (tAndF (eTest (eOp eqD (eOp h_4 (eOp r_0 (eVar 2) (eC (.int 512))) (eC (.int 4))) (eC (.int 0)))) (eTruth (eIs "int" (eOp ixD (eVar 1) (eC (.int 0))))))
   (sSet 5 [1, 2] (eCall maxD (aCons (eC (.int 1)) (aCons (eCall minD (aCons (eOp subD (eOp ixD (eVar 1) (eC (.int 0))) (eOp h_4 (eOp r_0 (eVar 2) (eC (.int 2048))) (eC (.int 9)))) (aCons (eOp subD (eOp powD (eC (.int 10)) (eC (.int 18))) (eC (.int 4000))) aNil))) aNil))))
   sNil)
def bz_7 : FS :=
  (sSet 6 [2, 5] (eOp d_7 (eOp subD (eVar 5) (eC (.int 1))) (eOp h_4 (eOp r_0 (eVar 2) (eC (.int 4096))) (eC (.int 301)))))
def am_7 : FS :=
  (sIf [2] (eTest (eOp eqD (eOp h_4 (eOp r_0 (eVar 2) (eC (.int 16384))) (eC (.int 2))) (eC (.int 0))))
   (h_2 [2] (iArgs p_4 (aCons (eOp h_4 (eOp r_0 (eVar 2) (eC (.int 32768))) (eC (.int 20))) aNil)) (gV 9) bz_1)
   sNil)
def am_8 : FS :=
  (sSet 7 [1, 3, 4] (eFn 3 k_4 (aCons (eVar 1) (aCons (eVar 4) (aCons (eVar 3) aNil)))))
def bm_2 : FS :=
  (sIf [7] (eTest (eOp (isND false) (eVar 7) (eC .non)))
   (sRet [] (eC (.bl true)))
   sNil)
def cn_4 : FS :=
  (sSet 8 [] (eC (.int 1)))
def bm_3 : FS :=
  (h_2 [4] (iArgs p_4 (aCons (eVar 4) aNil)) (gV 9) bd_5)
def bm_4 : FS :=
  (sSet 10 [1, 5, 6, 7, 8] (eFn 5 u_6 (aCons (eVar 7) (aCons (eVar 1) (aCons (eVar 5) (aCons (eVar 6) (aCons (eVar 8) aNil)))))))
def bm_5 : FS :=
  (sIf [1, 5, 6, 7, 10] (tNotF (eTruth (eFn 5 g_3 (aCons (eVar 7) (aCons (eVar 1) (aCons (eVar 5) (aCons (eVar 6) (aCons (eVar 10) aNil))))))))
   (sRet [] (eC (.bl false)))
   sNil)
def aq_9 : FS :=
  (sIf [1, 5, 6, 7, 10] (tNotF (eTruth (eFn 5 g_3 (aCons (eVar 7) (aCons (c_6 1 (iRev (eVar 1)) (gC 15) (fun _ => .ok true) (eVar 15)) (aCons (eVar 5) (aCons (eVar 6) (aCons (eVar 10) aNil))))))))
   (sRet [] (eC (.bl false)))
   sNil)
def bm_6 : FS :=
  (h_2 [5] (iOf (eLst (aCons (eC (.int 2000)) (aCons (eC (.int 2001)) (aCons (eOp powD (eC (.int 10)) (eC (.int 6))) (aCons (eOp subD (eOp subD (eOp powD (eC (.int 10)) (eC (.int 18))) (eC (.int 1))) (eVar 5)) aNil)))))) (gV 11) ae_7)
def ae_9 : FS :=
  (sIf [1, 2, 5, 7] (tAndF (eTest (eOp eqD (eOp h_4 (eOp r_0 (eVar 2) (eC (.int 16))) (eC (.int 16))) (eC (.int 3)))) (tNotF (eTruth (eIs "list" (eFn 4 f_6 (aCons (eVar 7) (aCons (eVar 1) (aCons (eVar 5) (aCons (eOp d_7 (eVar 5) (eC (.int 1999))) aNil)))))))))
   (sRet [] (eC (.bl false)))
   sNil)
def bm_7 : FS :=
  (sSet 12 [] (eOp subD (eOp powD (eC (.int 10)) (eC (.int 18))) (eC (.int 1))))
def bm_8 : FS :=
  (sSet 13 [2, 12] (eOp subD (eVar 12) (eOp h_4 (eOp r_0 (eVar 2) (eC (.int 64))) (eC (.int 40)))))
def bm_9 : FS :=
  (sIf [1, 7, 8, 12, 13] (tNotF (eTruth (eFn 5 g_3 (aCons (eVar 7) (aCons (eVar 1) (aCons (eVar 13) (aCons (eVar 12) (aCons (eFn 5 u_6 (aCons (eVar 7) (aCons (eVar 1) (aCons (eVar 13) (aCons (eVar 12) (aCons (eVar 8) aNil)))))) aNil))))))))
   (sRet [] (eC (.bl false)))
   sNil)
def bn_0 : FS :=
  (sRet [1, 5, 6, 7, 10] (eAnd (eOp eqD (eFn 4 f_6 (aCons (eVar 7) (aCons (eVar 1) (aCons (eOp d_7 (eVar 6) (eC (.int 1))) (aCons (eOp subD (eVar 5) (eC (.int 1))) aNil))))) (eLst aNil)) (eFn 5 g_3 (aCons (eVar 7) (aCons (eVar 1) (aCons (eVar 5) (aCons (eVar 6) (aCons (eVar 10) aNil))))))))
def cz_9 : FS :=
  (sSeq bz_2
  (sSeq bz_3
  (sSeq bz_4
  (sSeq bz_5
  (sSeq bz_6
  (sSeq ae_8
  (sSeq bz_7
  (sSeq am_7
  (sSeq am_8
  (sSeq bm_2
  (sSeq cn_4
  (sSeq bm_3
  (sSeq bm_4
  (sSeq bm_5
  (sSeq aq_9
  (sSeq bm_6
  (sSeq ae_9
  (sSeq bm_7
  (sSeq bm_8
  (sSeq bm_9
  bn_0))))))))))))))))))))
def cn_5 : List D → R W := bodyD 15 cz_9
end My
namespace L3
open PySem L2
def okD : Nat → D → Bool
 | _, .non => true
 | _, .bl _ => true
 | _, .int _ => true
 | _, .str x => x.cps.all (· < 0x110000)
 | n + 1, .lst ds => ds.all (okD n)
 | n + 1, .tup ds => ds.all (okD n)
 | _, _ => false
theorem cn_6 : ∀ (n : Nat) (d : D), okD n d = true → (n_0 d).canLay0 = true ∧ (n_0 d).depth ≤ n ∧ (n_0 d).eqv (n_0 d) = true := by
 intro n
 induction n with
 | zero =>
  intro d h
  cases d with
  | non => exact ⟨rfl, Nat.le_refl _, rfl⟩
  | bl b => exact ⟨rfl, Nat.le_refl _, by cases b <;> rfl⟩
  | int i => exact ⟨rfl, Nat.le_refl _, by show (i == i) = true; simp⟩
  | str x => exact ⟨h, Nat.le_refl _, by show (x == x) = true; simp⟩
  | _ => cases h
 | succ n ih =>
  have all : ∀ ds : List D, ds.all (okD n) = true → PyData.canLayAll0 (j_4 ds) = true ∧ PyData.depthAll (j_4 ds) ≤ n ∧ PyData.eqvAll (j_4 ds) (j_4 ds) = true := by
   intro ds
   induction ds with
   | nil => intro _; exact ⟨rfl, Nat.zero_le _, rfl⟩
   | cons d ds ih2 =>
    intro h
    rw [List.all_cons, Bool.and_eq_true] at h
    obtain ⟨a1, a2, a3⟩ := ih d h.1
    obtain ⟨b1, b2, b3⟩ := ih2 h.2
    refine ⟨?_, ?_, ?_⟩
    ·show (PyData.canLay0 (n_0 d) && PyData.canLayAll0 (j_4 ds)) = true
     rw [a1, b1]; rfl
    ·show max (PyData.depth (n_0 d)) (PyData.depthAll (j_4 ds)) ≤ n
     exact Nat.max_le.mpr ⟨a2, b2⟩
    ·show (PyData.eqv (n_0 d) (n_0 d) && PyData.eqvAll (j_4 ds) (j_4 ds)) = true
     rw [a3, b3]; rfl
  intro d h
  cases d with
  | non => exact ⟨rfl, Nat.zero_le _, rfl⟩
  | bl b => exact ⟨rfl, Nat.zero_le _, by cases b <;> rfl⟩
  | int i => exact ⟨rfl, Nat.zero_le _, by show (i == i) = true; simp⟩
  | str x => exact ⟨h, Nat.zero_le _, by show (x == x) = true; simp⟩
  | lst ds =>
   obtain ⟨b1, b2, b3⟩ := all ds h
   exact ⟨b1, Nat.succ_le_succ b2, b3⟩
  | tup ds =>
   obtain ⟨b1, b2, b3⟩ := all ds h
   exact ⟨b1, Nat.succ_le_succ b2, b3⟩
  | _ => cases h
theorem cn_7 {n : Nat} {d : D} (h : okD n d = true) (hn : n ≤ 60) : eqC d d = true ∧ eqvD d d = true := by
 obtain ⟨a1, a2, a3⟩ := cn_6 n d h
 refine ⟨?_, a3⟩
 unfold eqC
 rw [a1, decide_eq_true (Nat.le_trans a2 hn)]
 rfl
theorem cn_8 {d : D} (n : Nat) (h : okD n d = true) (hn : n ≤ 60 := by decide) : neD d d = .ok (.sh (.bl false)) := by
 obtain ⟨h1, h2⟩ := cn_7 h hn
 unfold neD
 split
 ·simp
 ·rw [if_pos h1, h2]; rfl
theorem cw_8 (n : Nat) (i : Int) : okD n (.int i) = true := by cases n <;> rfl
theorem cn_9 (n : Nat) {α : Type} (f : α → Int) (l : List α) : (l.map fun a => D.int (f a)).all (okD n) = true := by
 rw [List.all_eq_true]
 intro d hd
 obtain ⟨a, _, rfl⟩ := List.mem_map.mp hd
 exact cw_8 n _
theorem ax_9 {α : Type} (f : α → Int) : ∀ l : List α, aw_7 (l.map fun a => D.int (f a)) = some (l.map f)
 | [] => rfl
 | a :: l => by
  show (aw_7 (l.map fun a => D.int (f a))).map (f a :: ·) = _
  rw [ax_9 f l]
  rfl
theorem co_0 {α : Type} (f : α → Int) (l : List α) : sumD [.lst (l.map fun a => D.int (f a))] = .ok (.sh (.int (l.map f).sum)) := by
 unfold sumD
 simp only [ax_9]
theorem da_0 {n i : Nat} (h : i < n) : ixN n (i : Int) = some i := by
 unfold ixN
 rw [if_pos (by omega), if_pos (by omega)]
 simp
theorem ay_0 {α : Type} {xs : List α} {i : Nat} {x : α} (h : xs[i]? = some x) : atI xs (i : Int) = some x := by
 unfold atI
 rw [da_0 (List.getElem?_eq_some_iff.mp h).1]
 exact h
end L3
namespace My
open PySem L2 L3
def mixZ (c k : Int) : Int := ((c + 1) * (48271 + 118 * k) % 2147483629 / 977 * 16807 + (c + 1) * (48271 + 118 * k) % 2147483629 * (k * k + 7) + k) % 2147483587
theorem ah_6 (c k : Int) (h1 : -1000 ≤ k) (h2 : k ≤ 1000) : f_4 [.int c, .int k] = .ok (.sh (.int (mixZ c k))) := by
 have hk : -18446744073709551616 < k * k + 7 ∧ k * k + 7 < 18446744073709551616 := by
  have : k * k ≤ 1000 * 1000 := by
   rcases Int.le_total 0 k with h | h
   ·exact Int.mul_le_mul h2 h2 h (by decide)
   ·have : (-k) * (-k) ≤ 1000 * 1000 := Int.mul_le_mul (by omega) (by omega) (by omega) (by decide)
    rwa [Int.neg_mul_neg] at this
  have : 0 ≤ k * k := by
   rcases Int.le_total 0 k with h | h
   ·exact Int.mul_nonneg h h
   ·have := Int.mul_nonneg (a := -k) (b := -k) (by omega) (by omega)
    rwa [Int.neg_mul_neg] at this
  omega
 have m1 : mulC 118 k = true := m_1 (by decide) (by decide)
 have m2 : mulC (c + 1) (48271 + 118 * k) = true := ab_7 (by omega) (by omega)
 have m3 : ∀ z : Int, mulC z 16807 = true := fun z => ab_7 (by decide) (by decide)
 have m4 : mulC k k = true := m_1 (by omega) (by omega)
 have m5 : ∀ z : Int, mulC z (k * k + 7) = true := fun z => ab_7 hk.1 hk.2
 simp_arith [f_4, ax_7, evs, f_8 m1, f_8 m2, f_8 (m3 _), f_8 m4, f_8 (m5 _), e_2, f_9 (show (0 : Int) < 977 by decide) (by decide), c_5 (show (0 : Int) < 2147483629 by decide), c_5 (show (0 : Int) < 2147483587 by decide)]
 rfl
theorem ah_7 (ns : List Int) (k : Int) (h : 0 ≤ k) : h_3 [.lst (ns.map .int), .int k] = .ok (.sh (.int (ns.getD k.toNat 0))) := by
 simp_arith [h_3, ax_6, evs, n_5, ax_3, List.length_map]
 by_cases hk : k < (ns.length : Int)
 ·have e : atI (ns.map D.int) k = some (.int (ns.getD k.toNat 0)) := by
   apply bs_2 h
   rw [List.getElem?_map]
   have : k.toNat < ns.length := by omega
   simp [List.getD, this]
  simp_arith [hk, decide_true, if_true, ab_8 e, evs]
 ·simp_arith [hk, decide_false, evs]
  have : ns.length ≤ k.toNat := by omega
  simp [List.getD, this]
theorem bd_7 (ns : List Int) (k : Int) (h : 0 ≤ k) (h2 : k ≤ 500) : ∃ z, f_5 [.lst (ns.map .int), .int k] = .ok (.sh (.int z)) := by
 refine ⟨mixZ (ns.getD k.toNat 0 % 2147483647) (k + 101), ?_⟩
 simp_arith [f_5, aq_4, evs, ah_7 ns k h, c_5 (show (0 : Int) < 2147483647 by decide), e_2, ah_6 _ (k + 101) (by omega) (by omega)]
theorem co_1 (c : Int) : ∃ z, j_7 [.int c] = .ok (.sh (.int z)) := by
 have m : ∀ z : Int, mulC z 2147483587 = true := fun z => ab_7 (by decide) (by decide)
 refine ⟨(mixZ c 1 * 2147483587 + mixZ c 2) * 2147483587 + mixZ c 3, ?_⟩
 simp_arith [j_7, ai_9, evs, ah_6 c 1 (by decide) (by decide), ah_6 c 2 (by decide) (by decide), ah_6 c 3 (by decide) (by decide), f_8 (m _), e_2]
theorem co_2 (ns : List Int) (s m : Int) (hn : ns.length ≤ 63) (h0 : 0 ≤ s) (h1 : s ≤ 60) (h2 : 1 ≤ m) (h3 : m ≤ 200) :
  ∃ cs : List Int, (cs.length : Int) ≤ m ∧ m_4 [.lst (ns.map .int), .int s, .int m] = .ok (.ow (.lst (cs.map .int))) := by
 obtain ⟨z0, hz0⟩ := bd_7 ns 0 (by decide) (by decide)
 by_cases hp : ns.getD (0 : Int).toNat 0 % 2 = 0
 ·obtain ⟨cs, hl, hc⟩ := cz_6 (fg := gC 5) (p := fun _ => .ok true) (f := eFn 2 h_3 (aCons (eVar 0) (aCons (eOp d_7 (eVar 1) (eVar 5)) aNil)))
   (δ := [some (.lst (ns.map .int)), some (.int s), some (.int m), some (.int (max 0 ((ns.length : Int) - s))), none, none]) (min m (max 0 ((ns.length : Int) - s))).toNat 0 (fun k hk =>
    ⟨[some (.lst (ns.map .int)), some (.int s), some (.int m), some (.int (max 0 ((ns.length : Int) - s))), none, some (.int (0 + (k : Int)))], _, rfl, rfl, by
     simp_arith [evs, e_2, ah_7 ns (s + (0 + (k : Int))) (by omega)]
     rfl⟩)
  refine ⟨cs, by rw [hl]; omega, ?_⟩
  have e1 := i_2 (m := 1) (fi := iArgs p_4 (aCons (eCall minD (aCons (eVar 2) (aCons (eVar 3) aNil))) aNil)) (fg := gC 5) (p := fun _ => .ok true) (f := eFn 2 h_3 (aCons (eVar 0) (aCons (eOp d_7 (eVar 1) (eVar 5)) aNil)))
   (δ := [some (.lst (ns.map .int)), some (.int s), some (.int m), some (.int (max 0 ((ns.length : Int) - s))), none]) (ds := g_8 0 (min m (max 0 ((ns.length : Int) - s))).toNat) (rs := cs.map .int) (by
    simp_arith [evs, bc_0, o_7 (show -4611686018427387903 ≤ min m (max 0 ((ns.length : Int) - s)) by omega) (by omega)]) (by rw [u_3]; omega) hc
  simp_arith [m_4, x_4, t_2, t_3, evs, n_5, List.length_map, n_4, ap_8, ah_7 ns 0 (by decide), c_5 (show (0 : Int) < 2 by decide), d_9, hp, e1]
 ·have hmm := fun k : Int => Int.emod_nonneg k (show m ≠ 0 by omega)
  have hml := fun k : Int => Int.emod_lt_of_pos k (show 0 < m by omega)
  have bj : ∀ k : Nat, ∃ z, f_5 [.lst (ns.map .int), .int (s + (0 + (k : Int)) % max 1 (max 0 ((ns.length : Int) - s)))] = .ok (.sh (.int z)) := fun k => by
   have b1 := Int.emod_nonneg (0 + (k : Int)) (show max 1 (max 0 ((ns.length : Int) - s)) ≠ 0 by omega)
   have b2 := Int.emod_lt_of_pos (0 + (k : Int)) (show 0 < max 1 (max 0 ((ns.length : Int) - s)) by omega)
   exact bd_7 ns _ (by omega) (by omega)
  have b0 := hmm z0
  have b1 := hml z0
  obtain ⟨cs, hl, hc⟩ := cz_6 (fg := gC 5) (p := fun _ => .ok true) (f := eFn 1 j_7 (aCons (eFn 2 f_4 (aCons (eFn 2 f_5 (aCons (eVar 0) (aCons (eOp d_7 (eVar 1) (eOp h_4 (eVar 5) (eCall maxD (aCons (eC (.int 1)) (aCons (eVar 3) aNil))))) aNil))) (aCons (eVar 5) aNil))) aNil))
   (δ := [some (.lst (ns.map .int)), some (.int s), some (.int m), some (.int (max 0 ((ns.length : Int) - s))), some (.int (min m (max (max 0 ((ns.length : Int) - s)) (1 + z0 % m)))), none]) (min m (max (max 0 ((ns.length : Int) - s)) (1 + z0 % m))).toNat 0 (fun k hk => by
    obtain ⟨zc, hzc⟩ := bj k
    obtain ⟨zg, hzg⟩ := co_1 (mixZ zc (0 + (k : Int)))
    refine ⟨[some (.lst (ns.map .int)), some (.int s), some (.int m), some (.int (max 0 ((ns.length : Int) - s))), some (.int (min m (max (max 0 ((ns.length : Int) - s)) (1 + z0 % m)))), some (.int (0 + (k : Int)))], zg, rfl, rfl, ?_⟩
    simp_arith [evs, e_2, ap_8, c_5 (show 0 < max 1 (max 0 ((ns.length : Int) - s)) by omega), hzc, ah_6 zc (0 + (k : Int)) (by omega) (by omega), hzg])
  refine ⟨cs, by rw [hl]; omega, ?_⟩
  have e1 := i_2 (m := 1) (fi := iArgs p_4 (aCons (eVar 4) aNil)) (fg := gC 5) (p := fun _ => .ok true) (f := eFn 1 j_7 (aCons (eFn 2 f_4 (aCons (eFn 2 f_5 (aCons (eVar 0) (aCons (eOp d_7 (eVar 1) (eOp h_4 (eVar 5) (eCall maxD (aCons (eC (.int 1)) (aCons (eVar 3) aNil))))) aNil))) (aCons (eVar 5) aNil))) aNil))
   (δ := [some (.lst (ns.map .int)), some (.int s), some (.int m), some (.int (max 0 ((ns.length : Int) - s))), some (.int (min m (max (max 0 ((ns.length : Int) - s)) (1 + z0 % m))))]) (ds := g_8 0 (min m (max (max 0 ((ns.length : Int) - s)) (1 + z0 % m))).toNat) (rs := cs.map .int) (by
    simp_arith [evs, o_7 (show -4611686018427387903 ≤ min m (max (max 0 ((ns.length : Int) - s)) (1 + z0 % m)) by omega) (by omega)]) (by rw [u_3]; omega) hc
  simp_arith [m_4, x_4, t_2, t_3, evs, n_5, List.length_map, n_4, ap_8, bc_0, e_2, ah_7 ns 0 (by decide), c_5 (show (0 : Int) < 2 by decide), c_5 (show (0 : Int) < m by omega), d_9, hp, hz0, e1]
theorem b_0 {g h : FS} {Δ Δ' : SE} (e : g Δ = .nx Δ') : sSeq g h Δ = h Δ' := by unfold sSeq; rw [e]
def mkS (l : List Nat) : Str := ⟨l.toArray⟩
theorem p_6 (l : List Nat) : (mkS l).cps.toList = l := by simp [mkS]
theorem am_9 (l : List Nat) : (mkS l).length = l.length := by rw [cw_0, p_6]
theorem cw_9 (a b : List Nat) : mkS a ++ mkS b = mkS (a ++ b) := cv_9 (by rw [cw_1, p_6, p_6, p_6])
def sgL : List Nat := [97, 98, 99, 100, 101, 102, 103, 104, 105, 106, 107, 108, 109, 110, 111, 112, 113, 114, 115, 116, 117, 118, 119, 120, 121, 122, 48, 49, 50, 51, 52, 53, 54, 55, 56, 57, 45, 95, 32]
theorem cx_0 : (Str.ofString "abcdefghijklmnopqrstuvwxyz0123456789-_ ").cps.toList = sgL := by decide +kernel
def isKey (d : D) : Prop := (∃ n : Int, d = .int n ∧ 0 ≤ n ∧ n ≤ 999999999999999999) ∨ (∃ l : List Nat, d = .str (mkS l) ∧ l.length ≤ 11 ∧ ∀ c ∈ l, c ∈ sgL)
theorem isKey.flat {d : D} (h : isKey d) : flatD d = true := by
 rcases h with ⟨n, rfl, _⟩ | ⟨l, rfl, _⟩ <;> rfl
theorem dl_0 (r : Int) : ∃ c ∈ sgL, ixD (.str "abcdefghijklmnopqrstuvwxyz0123456789-_ ") (.int (r % 39)) = .ok (.sh (.str (mkS [c]))) := by
 have h0 := Int.emod_nonneg r (show (39 : Int) ≠ 0 by decide)
 have h1 := Int.emod_lt_of_pos r (show (0 : Int) < 39 by decide)
 have hl : (r % 39).toNat < sgL.length := by show (r % 39).toNat < 39; omega
 refine ⟨sgL[(r % 39).toNat], List.getElem_mem hl, cw_2 (by decide +kernel) ?_⟩
 rw [cx_0]
 exact bs_2 h0 (List.getElem?_eq_getElem hl)
theorem co_3 (z : Int) : ∃ d, isKey d ∧ m_5 [.int z] = .ok (.sh d) := by
 have d3 := f_9 (i := z) (show (0 : Int) < 3 by decide) (by decide)
 have m3 := c_5 (i := z) (show (0 : Int) < 3 by decide)
 have p18 := bs_1 (ap_7 (i := 10) (j := 18) (by decide) (by decide) (by decide) (by decide))
 have e18 : (10 : Int) ^ (18 : Int).toNat = 1000000000000000000 := by decide
 rw [e18] at p18
 have : z % 3 = 0 ∨ z % 3 = 2 ∨ z % 3 = 1 := by omega
 rcases this with h | h | h
 ·refine ⟨.int (z / 3 % 1000000000000000000), .inl ⟨_, rfl, by omega, by omega⟩, ?_⟩
  simp_arith [m_5, z_3, evs, d3, m3, d_9, h, p18, c_5 (show (0 : Int) < 1000000000000000000 by decide)]
 ·refine ⟨.int (z / 3 % 50), .inl ⟨_, rfl, by omega, by omega⟩, ?_⟩
  have n0 : ¬ (2 : Int) = 0 := by decide
  simp_arith [m_5, z_3, evs, d3, m3, d_9, h, n0, c_5 (show (0 : Int) < 50 by decide)]
 ·have n0 : ¬ (1 : Int) = 0 := by decide
  have n2 : ¬ (1 : Int) = 2 := by decide
  have b0 := Int.emod_nonneg (z / 3) (show (12 : Int) ≠ 0 by decide)
  have b1 := Int.emod_lt_of_pos (z / 3) (show (0 : Int) < 12 by decide)
  obtain ⟨Δ', e, l, r, a5, rfl, hl, hc⟩ := u_5 (gV 5) x_5 (fun k Δ => ∃ (l : List Nat) (r : Int) (a5 : Sl), Δ = [.sh (.int z), .sh (.str "abcdefghijklmnopqrstuvwxyz0123456789-_ "), .sh (.int r), .sh (.str (mkS l)), .sh (.int (z / 3 % 12)), a5] ∧ l.length = k ∧ ∀ c ∈ l, c ∈ sgL)
   (n := (z / 3 % 12).toNat) (lo := 0) (Δ := [.sh (.int z), .sh (.str "abcdefghijklmnopqrstuvwxyz0123456789-_ "), .sh (.int (z / 3)), .sh (.str ""), .sh (.int (z / 3 % 12)), .no]) ⟨[], z / 3, .no, rfl, rfl, fun c hc => absurd hc (by simp)⟩ (fun k Δ hk hI => by
   obtain ⟨l, r, a5, rfl, hl, hc⟩ := hI
   obtain ⟨q, q0, q1, eq⟩ : ∃ q : Int, 0 < q ∧ q < 100 ∧ eOp ixD (eLst (aCons (eC (.int 12)) (aCons (eC (.int 39)) aNil))) (eCall aw_1 (aCons (eOp gtD (eVar 5) (eC (.int 0))) aNil)) [some (.int z), some (.str "abcdefghijklmnopqrstuvwxyz0123456789-_ "), some (.int r), some (.str (mkS l)), some (.int (z / 3 % 12)), some (.int (0 + (k : Int)))] = .ok (.sh (.int q)) := by
    by_cases hk0 : (0 : Int) < 0 + (k : Int)
    ·refine ⟨39, by decide, by decide, ?_⟩
     simp_arith [evs, bx_8, hk0, aw_1]
     rfl
    ·refine ⟨12, by decide, by decide, ?_⟩
     simp_arith [evs, bx_8, hk0, aw_1]
     rfl
   obtain ⟨c, hcs, ec⟩ := dl_0 (r / q)
   have zm : (mkS l).length + (mkS [c]).length ≤ 16777216 := by rw [am_9, am_9]; simp; omega
   refine ⟨_, rfl, [.sh (.int z), .sh (.str "abcdefghijklmnopqrstuvwxyz0123456789-_ "), .sh (.int (r / q)), .sh (.str (mkS (l ++ [c]))), .sh (.int (z / 3 % 12)), .sh (.int (0 + (k : Int)))], .inl ?_, _, _, _, rfl, by simp [hl], ?_⟩
   ·simp only [x_5]
    rw [b_0 (Δ' := [.sh (.int z), .sh (.str "abcdefghijklmnopqrstuvwxyz0123456789-_ "), .sh (.int (r / q)), .sh (.str (mkS l)), .sh (.int (z / 3 % 12)), .sh (.int (0 + (k : Int)))])]
    ·simp_arith [evs, c_5 (show (0 : Int) < 39 by decide), ec, dg_1 zm, cw_9]
    ·have := eq
     unfold sSet
     simp only [vsh, List.map_cons, List.map_nil, bs_3, List.set_cons_succ, List.set_cons_zero, gV] at this ⊢
     have e9 : eOp r_0 (eVar 2) (eOp ixD (eLst (aCons (eC (.int 12)) (aCons (eC (.int 39)) aNil))) (eCall aw_1 (aCons (eOp gtD (eVar 5) (eC (.int 0))) aNil))) [some (.int z), some (.str "abcdefghijklmnopqrstuvwxyz0123456789-_ "), some (.int r), some (.str (mkS l)), some (.int (z / 3 % 12)), some (.int (0 + (k : Int)))] = .ok (.sh (.int (r / q))) := by
      show ((eVar 2 _).bind fun a => (eOp ixD _ _ _).bind fun b => r_0 a.d b.d) = _
      rw [this]
      simp_arith [evs, f_9 q0 (show q < 1361129467683753853853498429727072845824 by omega)]
     rw [e9]
   ·intro d hd
    rcases List.mem_append.mp hd with hd | hd
    ·exact hc d hd
    ·have : d = c := by simpa using hd
     rw [this]; exact hcs)
  refine ⟨.str (mkS l), .inr ⟨l, rfl, by omega, hc⟩, ?_⟩
  simp_arith [m_5, z_3, evs, d3, m3, d_9, h, n0, n2, c_5 (show (0 : Int) < 12 by decide), h_2, o_7 (show -4611686018427387903 ≤ z / 3 % 12 by omega) (by omega), e]
theorem bz_8 {a b : D} (ha : isKey a) (hb : isKey b) : eqF a b = true ↔ a = b := by
 rcases ha with ⟨n, rfl, _⟩ | ⟨l, rfl, _⟩ <;> rcases hb with ⟨m, rfl, _⟩ | ⟨k, rfl, _⟩
 ·show (n == m) = true ↔ _
  rw [beq_iff_eq]
  exact ⟨fun h => by rw [h], fun h => by injection h⟩
 ·show false = true ↔ _
  exact ⟨fun h => (by cases h), fun h => (by cases h)⟩
 ·show false = true ↔ _
  exact ⟨fun h => (by cases h), fun h => (by cases h)⟩
 ·show (mkS l == mkS k) = true ↔ _
  rw [beq_iff_eq]
  exact ⟨fun h => by rw [h], fun h => by injection h⟩
theorem af_0 {d : D} {ks : List D} (hd : isKey d) (hk : ∀ k ∈ ks, isKey k) : p_9 d ks = true ↔ d ∈ ks := by
 unfold p_9
 rw [List.any_eq_true]
 constructor
 ·rintro ⟨y, hy, h⟩
  rw [← (bz_8 (hk y hy) hd).mp h]
  exact hy
 ·intro h
  exact ⟨d, h, (bz_8 hd hd).mpr rfl⟩
theorem co_4 {ks : List D} (hk : ∀ k ∈ ks, isKey k) : ks.all flatD = true := List.all_eq_true.mpr fun k h => (hk k h).flat
theorem ar_0 {d : D} {ks : List D} (hd : isKey d) (hk : ∀ k ∈ ks, isKey k) : inD true d (.lst ks) = .ok (.sh (.bl (!p_9 d ks))) := by
 have h : (flatD d && ks.all flatD) = true := by rw [hd.flat, co_4 hk]; rfl
 rcases hd with ⟨n, rfl, _⟩ | ⟨l, rfl, _⟩
 ·exact if_pos h
 ·exact if_pos h
theorem cx_1 {d : D} (h : isKey d) : PyData.canLay0 (n_0 d) = true ∧ PyData.depth (n_0 d) = 0 := by
 rcases h with ⟨n, rfl, _⟩ | ⟨l, rfl, _, hc⟩
 ·exact ⟨rfl, rfl⟩
 ·refine ⟨?_, rfl⟩
  show (mkS l).cps.all (· < 0x110000) = true
  rw [← Array.all_toList, p_6, List.all_eq_true]
  intro c h
  have : c ∈ sgL := hc c h
  have : ∀ c ∈ sgL, c < 0x110000 := by decide
  exact decide_eq_true (this c (hc c h))
theorem af_1 : ∀ {ks : List D}, (∀ k ∈ ks, isKey k) → PyData.canLayAll0 (j_4 ks) = true ∧ PyData.depthAll (j_4 ks) = 0
 | [], _ => ⟨rfl, rfl⟩
 | k :: ks, h => by
  obtain ⟨a1, a2⟩ := cx_1 (h k List.mem_cons_self)
  obtain ⟨b1, b2⟩ := af_1 fun x hx => h x (List.mem_cons_of_mem _ hx)
  refine ⟨?_, ?_⟩
  ·show (PyData.canLay0 (n_0 k) && PyData.canLayAll0 (j_4 ks)) = true
   rw [a1, b1]; rfl
  ·show max (PyData.depth (n_0 k)) (PyData.depthAll (j_4 ks)) = 0
   rw [a2, b2]; rfl
theorem bn_1 {ks js : List D} (hk : ∀ k ∈ ks, isKey k) (hj : ∀ k ∈ js, isKey k) : eqC (.lst ks) (.lst js) = true := by
 unfold eqC
 rw [Bool.and_eq_true, Bool.and_eq_true]
 refine ⟨⟨(af_1 hk).1, (af_1 hj).1⟩, decide_eq_true ?_⟩
 show PyData.depthAll (j_4 ks) + 1 ≤ 60
 rw [(af_1 hk).2]
 decide
theorem cx_2 {a b : D} (ha : isKey a) (hb : isKey b) : PyData.eqv (n_0 a) (n_0 b) = true ↔ a = b := by
 rcases ha with ⟨n, rfl, _⟩ | ⟨l, rfl, _⟩ <;> rcases hb with ⟨m, rfl, _⟩ | ⟨k, rfl, _⟩
 ·show (n == m) = true ↔ _
  rw [beq_iff_eq]
  exact ⟨fun h => by rw [h], fun h => by injection h⟩
 ·show false = true ↔ _
  exact ⟨fun h => (by cases h), fun h => (by cases h)⟩
 ·show false = true ↔ _
  exact ⟨fun h => (by cases h), fun h => (by cases h)⟩
 ·show (mkS l == mkS k) = true ↔ _
  rw [beq_iff_eq]
  exact ⟨fun h => by rw [h], fun h => by injection h⟩
theorem bn_2 : ∀ {ks js : List D}, (∀ k ∈ ks, isKey k) → (∀ k ∈ js, isKey k) → (PyData.eqvAll (j_4 ks) (j_4 js) = true ↔ ks = js)
 | [], [], _, _ => ⟨fun _ => rfl, fun _ => rfl⟩
 | [], _ :: _, _, _ => ⟨fun h => (by cases h), fun h => (by cases h)⟩
 | _ :: _, [], _, _ => ⟨fun h => (by cases h), fun h => (by cases h)⟩
 | k :: ks, j :: js, hk, hj => by
  show (PyData.eqv (n_0 k) (n_0 j) && PyData.eqvAll (j_4 ks) (j_4 js)) = true ↔ _
  rw [Bool.and_eq_true, cx_2 (hk k List.mem_cons_self) (hj j List.mem_cons_self), bn_2 (fun x hx => hk x (List.mem_cons_of_mem _ hx)) (fun x hx => hj x (List.mem_cons_of_mem _ hx))]
  exact ⟨fun ⟨a, b⟩ => by rw [a, b], fun h => by injection h with a b; exact ⟨a, b⟩⟩
theorem cx_3 (a b : List D) : eqD (.lst a) (.lst b) = if eqC (.lst a) (.lst b) = true then .ok (.sh (.bl (eqvD (.lst a) (.lst b)))) else .no := rfl
theorem cx_4 (a b : List D) : neD (.lst a) (.lst b) = if eqC (.lst a) (.lst b) = true then .ok (.sh (.bl (!eqvD (.lst a) (.lst b)))) else .no := rfl
theorem bn_3 {ks js : List D} (hk : ∀ k ∈ ks, isKey k) (hj : ∀ k ∈ js, isKey k) : ∃ b : Bool, (b = true ↔ ks = js) ∧ eqD (.lst ks) (.lst js) = .ok (.sh (.bl b)) ∧ neD (.lst ks) (.lst js) = .ok (.sh (.bl (!b))) := by
 refine ⟨eqvD (.lst ks) (.lst js), bn_2 hk hj, ?_, ?_⟩
 ·rw [cx_3, if_pos (bn_1 hk hj)]
 ·rw [cx_4, if_pos (bn_1 hk hj)]
theorem cx_5 (ns : List Int) (s m : Int) (hn : ns.length ≤ 63) (h0 : 0 ≤ s) (h1 : s ≤ 60) (h2 : 1 ≤ m) (h3 : m ≤ 200) :
  ∃ ks : List D, ks ≠ [] ∧ (ks.length : Int) ≤ m ∧ (∀ k ∈ ks, isKey k) ∧ ks.Nodup ∧ o_0 [.lst (ns.map .int), .int s, .int m] = .ok (.ow (.lst ks)) := by
 obtain ⟨cs, hc, ec⟩ := co_2 ns s m hn h0 h1 h2 h3
 obtain ⟨Δ', e, ks, a4, a5, rfl, hl, hk, hd⟩ := g_0 (gV 4) q_3 (fun k Δ => ∃ (ks : List D) (a4 a5 : Sl), Δ = [.sh (.lst (ns.map .int)), .sh (.int s), .sh (.int m), .ow (.lst ks), a4, a5] ∧ ks.length ≤ k ∧ (∀ k ∈ ks, isKey k) ∧ ks.Nodup)
  (ds := cs.map .int) (Δ := [.sh (.lst (ns.map .int)), .sh (.int s), .sh (.int m), .ow (.lst []), .no, .no]) ⟨[], .no, .no, rfl, Nat.le_refl _, fun k hk => absurd hk (by simp), List.nodup_nil⟩ (fun k d Δ hk hI => by
  obtain ⟨ks, a4, a5, rfl, hl, hks, hd⟩ := hI
  rw [List.getElem?_map] at hk
  cases q : cs[k]? with
  | none => rw [q] at hk; cases hk
  | some c =>
   rw [q] at hk
   cases hk
   have hkl : k < cs.length := (List.getElem?_eq_some_iff.mp q).1
   obtain ⟨d, hdk, ed⟩ := co_3 c
   have hl2 : ks.length < 16777216 := by omega
   have hni := ar_0 hdk hks
   cases hm : p_9 d ks with
   | true =>
    refine ⟨_, rfl, [.sh (.lst (ns.map .int)), .sh (.int s), .sh (.int m), .ow (.lst ks), .sh (.int c), .sh d], .inl ?_, ks, _, _, rfl, by omega, hks, hd⟩
    rw [hm] at hni
    simp_arith [q_3, evs, ed, hni]
   | false =>
    refine ⟨_, rfl, [.sh (.lst (ns.map .int)), .sh (.int s), .sh (.int m), .ow (.lst (ks ++ [d])), .sh (.int c), .sh d], .inl ?_, ks ++ [d], _, _, rfl, by simp; omega, ?_, ?_⟩
    ·rw [hm] at hni
     simp_arith [q_3, evs, ed, hni, sApp, hl2]
    ·intro x hx
     rcases List.mem_append.mp hx with hx | hx
     ·exact hks x hx
     ·have : x = d := by simpa using hx
      rw [this]; exact hdk
    ·rw [List.nodup_append]
     refine ⟨hd, by simp, fun a ha b hb => ?_⟩
     have : b = d := by simpa using hb
     subst this
     rintro rfl
     rw [(af_0 hdk hks).mpr ha] at hm
     cases hm)
 rw [List.length_map] at hl
 obtain ⟨b, hb, eb, _⟩ := bn_3 hk (js := []) (fun k hk => absurd hk (by simp))
 by_cases hz : ks = []
 ·obtain ⟨d, hdk, ed⟩ := co_3 (ns.getD (0 : Int).toNat 0 / 2)
  refine ⟨[d], by simp, by simp; omega, fun x hx => ?_, by simp, ?_⟩
  ·have : x = d := by simpa using hx
   rw [this]; exact hdk
  ·have : b = true := hb.mpr hz
   subst this
   simp_arith [o_0, ab_9, evs, h_2, ec, e, eb, ah_7 ns 0 (by decide), f_9 (show (0 : Int) < 2 by decide) (by decide), ed]
 ·refine ⟨ks, hz, by omega, hk, hd, ?_⟩
  have : b = false := by
   cases b with
   | true => exact absurd (hb.mp rfl) hz
   | false => rfl
  subst this
  simp_arith [o_0, ab_9, evs, h_2, ec, e, eb]
def sgI (c : Nat) : Nat := sgL.idxOf c
theorem co_5 : ∀ c ∈ sgL, Builtin.Str.occurrences "abcdefghijklmnopqrstuvwxyz0123456789-_ " ⟨#[c]⟩ 0 (Str.length "abcdefghijklmnopqrstuvwxyz0123456789-_ ") 1 = [sgI c] := by decide +kernel
def v_9 (l : List Nat) : Int := l.foldl (fun a c => 40 * a + (sgI c : Int) + 1) 0
theorem aj_9 (l : List Nat) (k c : Nat) (h : l[k]? = some c) : v_9 (l.take (k + 1)) = 40 * v_9 (l.take k) + (sgI c : Int) + 1 := by
 unfold v_9
 rw [List.take_add_one, h, List.foldl_append]
 rfl
def f_7 : D → Int
 | .int n => 2 * n
 | .str x => 2 * v_9 x.cps.toList + 1
 | _ => 0
theorem co_6 : ∀ c ∈ sgL, Txt.find "abcdefghijklmnopqrstuvwxyz0123456789-_ " ⟨#[c]⟩ = ((sgI c : Nat) : Int) := by decide +kernel
theorem cx_6 {c : Nat} (h : c ∈ sgL) : bi_6 (.str "abcdefghijklmnopqrstuvwxyz0123456789-_ ") [.str ⟨#[c]⟩] = .ok (.sh (.int (sgI c : Int))) := by
 show R.ok (W.sh (D.int (Txt.find "abcdefghijklmnopqrstuvwxyz0123456789-_ " ⟨#[c]⟩))) = _
 rw [co_6 c h]
theorem co_7 {c : Nat} (h : c ∈ sgL) : ag_6 (.str "abcdefghijklmnopqrstuvwxyz0123456789-_ ") [.str ⟨#[c]⟩] = .ok (.sh (.int (sgI c : Int))) := by
 show (match Builtin.Str.occurrences "abcdefghijklmnopqrstuvwxyz0123456789-_ " ⟨#[c]⟩ 0 (Str.length "abcdefghijklmnopqrstuvwxyz0123456789-_ ") 1 with
  | i :: _ => R.ok (W.sh (D.int (i : Nat)))
  | [] => R.no) = _
 rw [co_5 c h]
theorem dl_1 {c : Nat} (h : c ∈ sgL) : inD false (.str ⟨#[c]⟩) (.str "abcdefghijklmnopqrstuvwxyz0123456789-_ ") = .ok (.sh (.bl true)) := by
 show R.ok (W.sh (D.bl (!(Builtin.Str.occurrences "abcdefghijklmnopqrstuvwxyz0123456789-_ " ⟨#[c]⟩ 0 (Str.length "abcdefghijklmnopqrstuvwxyz0123456789-_ ") 1).isEmpty))) = _
 rw [co_5 c h]
 rfl
theorem p_7 (l : List Nat) : s_5 (mkS l) = l.map fun c => .str ⟨#[c]⟩ := by unfold s_5; rw [p_6]
theorem co_8 (l : List Nat) (hl : l.length ≤ 11) (hc : ∀ c ∈ l, c ∈ sgL) : ae_4 [.str (mkS l)] = .ok (.sh (.int (v_9 l))) := by
 obtain ⟨Δ', e, a2, rfl⟩ := g_0 (gV 2) ah_4 (fun k Δ => ∃ a2, Δ = [.sh (.str (mkS l)), .sh (.int (v_9 (l.take k))), a2]) (ds := s_5 (mkS l)) (Δ := [.sh (.str (mkS l)), .sh (.int 0), .no]) ⟨.no, rfl⟩ (fun k d Δ hk hI => by
  obtain ⟨a2, rfl⟩ := hI
  rw [p_7, List.getElem?_map] at hk
  cases q : l[k]? with
  | none => rw [q] at hk; cases hk
  | some c =>
   rw [q] at hk
   cases hk
   refine ⟨_, rfl, [.sh (.str (mkS l)), .sh (.int (v_9 (l.take (k + 1)))), .sh (.str ⟨#[c]⟩)], .inl ?_, _, rfl⟩
   rw [aj_9 l k c q]
   simp_arith [ah_4, evs, f_8 (m_1 (show (-18446744073709551616 : Int) < 40 by decide) (by decide)), beq_self_eq_true, cx_6 (hc c (List.mem_of_getElem? q)), e_2])
 rw [p_7, List.length_map, List.take_length] at e
 simp_arith [ae_4, by_9, evs, h_2, p_7, e]
theorem ay_1 {d : D} (h : isKey d) : r_4 [d] = .ok (.sh (.bl true)) := by
 rcases h with ⟨n, rfl, h0, h1⟩ | ⟨l, rfl, hl, hc⟩
 ·simp_arith [r_4, aq_5, evs, af_8, cm_0, h0, h1]
 ·have hx : (mkS l).length ≤ 16777216 := by rw [am_9]; omega
  have ec := x_3 (fg := gC 1) (f := l_7) (δ := [some (.str (mkS l)), none]) (fun _ => .bl true) (s_5 (mkS l)) (fun d hd => by
   rw [p_7] at hd
   obtain ⟨c, hcl, rfl⟩ := List.mem_map.mp hd
   exact ⟨_, .sh (.bl true), rfl, by simp_arith [l_7, evs, dl_1 (hc c hcl)], rfl⟩)
  have ec' := i_2 (m := 1) (fi := iOf (eVar 0)) (fg := gC 1) (p := fun _ => .ok true) (f := l_7) (δ := [some (.str (mkS l))]) (by simp_arith [evs]) (by rw [p_7, List.length_map]; omega) ec
  have ha : allD [.lst ((s_5 (mkS l)).map fun _ => D.bl true)] = .ok (.sh (.bl true)) := by
   have hb : ∀ l : List D, ag_5 (l.map fun _ => D.bl true) = some (l.map fun _ => true) := by
    intro l
    induction l with
    | nil => rfl
    | cons a l ih => show (ag_5 (l.map fun _ => D.bl true)).map (true :: ·) = _; rw [ih]; rfl
   unfold allD
   simp only [hb]
   congr 3
   rw [List.all_eq_true]
   intro b hb'
   obtain ⟨_, _, rfl⟩ := List.mem_map.mp hb'
   rfl
  have dq : ((mkS l).length : Int) ≤ 11 := by rw [am_9]; omega
  have et : l_2 [.str (mkS l)] = .ok (.sh (.bl true)) := by
   simp_arith [l_2, aa_5, evs, cm_1 hx, cm_0, dq, ec', ha]
  simp_arith [r_4, aq_5, evs, et]
theorem bn_4 {d : D} (h : isKey d) : v_5 [d] = .ok (.sh (.int (f_7 d))) := by
 have hk := ay_1 h
 have m2 := fun j : Int => f_8 (m_1 (j := j) (show (-18446744073709551616 : Int) < 2 by decide) (by decide))
 rcases h with ⟨n, rfl, h0, h1⟩ | ⟨l, rfl, hl, hc⟩
 ·simp_arith [v_5, bd_4, evs, hk, m2, f_7]
 ·simp_arith [v_5, bd_4, evs, hk, co_8 l hl hc, m2, e_2, f_7, p_6]
theorem bd_8 {d : D} (h : isKey d) : k_1 [d] = .ok (.sh (.int (f_7 d))) := by
 have m2 := fun j : Int => f_8 (m_1 (j := j) (show (-18446744073709551616 : Int) < 2 by decide) (by decide))
 rcases h with ⟨n, rfl, h0, h1⟩ | ⟨l, rfl, hl, hc⟩
 ·simp_arith [k_1, x_9, evs, m2, f_7]
 ·obtain ⟨Δ', e, a2, rfl⟩ := g_0 (gV 2) t_6 (fun k Δ => ∃ a2, Δ = [.sh (.str (mkS l)), .sh (.int (v_9 (l.take k))), a2]) (ds := s_5 (mkS l)) (Δ := [.sh (.str (mkS l)), .sh (.int 0), .no]) ⟨.no, rfl⟩ (fun k d Δ hk hI => by
   obtain ⟨a2, rfl⟩ := hI
   rw [p_7, List.getElem?_map] at hk
   cases q : l[k]? with
   | none => rw [q] at hk; cases hk
   | some c =>
    rw [q] at hk
    cases hk
    refine ⟨_, rfl, [.sh (.str (mkS l)), .sh (.int (v_9 (l.take (k + 1)))), .sh (.str ⟨#[c]⟩)], .inl ?_, _, rfl⟩
    rw [aj_9 l k c q, Int.mul_comm 40]
    simp_arith [t_6, evs, f_8 (ab_7 (show (-18446744073709551616 : Int) < 40 by decide) (by decide)), beq_self_eq_true, co_7 (hc c (List.mem_of_getElem? q)), e_2])
  rw [p_7, List.length_map, List.take_length] at e
  simp_arith [k_1, x_9, evs, h_2, p_7, e, m2, e_2, f_7, p_6]
def n_8 (n s z : Int) : Int :=
 (((1 + (1103515245 * s + 12345) % (2305843009213693951 - 1)) * n + (69069 * s * s + 7 * s) % 2305843009213693951) % 2305843009213693951 + ((1 + (1103515245 * s + 12345) % (2305843009213693951 - 1)) * n + (69069 * s * s + 7 * s) % 2305843009213693951) % 2305843009213693951 / 2147483648) % z
theorem ar_1 (n s z : Int) (h1 : -18446744073709551616 < s) (h2 : s < 18446744073709551616) (hz : 0 < z) : z_4 [.int n, .int s, .int z] = .ok (.sh (.int (n_8 n s z))) ∧ m_8 [.int n, .int s, .int z] = .ok (.sh (.int (n_8 n s z))) := by
 have n0 : ¬ z = 0 := by omega
 have f0 := Int.emod_nonneg (1103515245 * s + 12345) (show (2305843009213693951 - 1 : Int) ≠ 0 by decide)
 have f1 := Int.emod_lt_of_pos (1103515245 * s + 12345) (show (0 : Int) < 2305843009213693951 - 1 by decide)
 have a1 := f_8 (m_1 (i := 1103515245) (j := s) (by decide) (by decide))
 have a2 := f_8 (m_1 (i := 69069) (j := s) (by decide) (by decide))
 have a3 := f_8 (ab_7 (i := 69069 * s) (j := s) h1 h2)
 have a4 := f_8 (m_1 (i := 7) (j := s) (by decide) (by decide))
 have a5 := f_8 (m_1 (i := 1 + (1103515245 * s + 12345) % (2305843009213693951 - 1)) (j := n) (by omega) (by omega))
 have c1 := fun i : Int => c_5 (i := i) (show (0 : Int) < 2305843009213693951 - 1 by decide)
 have c2 := fun i : Int => c_5 (i := i) (show (0 : Int) < 2305843009213693951 by decide)
 have c3 := fun i : Int => c_5 (i := i) hz
 have c4 := fun i : Int => f_9 (i := i) (show (0 : Int) < 2147483648 by decide) (by decide)
 refine ⟨?_, ?_⟩
 ·simp_arith [z_4, bz_0, evs, d_9, n0, n_4, e_2, a1, a2, a3, a4, c1, c2, a5, c4, c3]
  rfl
 ·simp_arith [m_8, aj_6, evs, n_4, e_2, a1, a2, a3, a4, c1, c2, a5, c4, c3]
  rfl
end My
namespace L3
open PySem L2
def outF : Fl → Bool
 | .ex _ _ => true
 | .rt _ => true
 | .no => true
 | _ => false
theorem co_9 (fg : FG) (g : FS) (I : Nat → SE → Prop) {ds : List D} {Δ : SE} {n : Nat} {r : Fl} {d : D} (h0 : I 0 Δ) (hd : ds[n]? = some d)
  (step : ∀ k d Δ, k < n → ds[k]? = some d → I k Δ → ∃ Δ1, fg d Δ = .ok Δ1 ∧ ∃ Δ2, (g Δ1 = .nx Δ2 ∨ g Δ1 = .ct Δ2) ∧ I (k + 1) Δ2)
  (last : ∀ Δ, I n Δ → ∃ Δ1, fg d Δ = .ok Δ1 ∧ g Δ1 = r) (hr : outF r = true) : j_1 fg g ds Δ = r := by
 have all : ∀ (m k : Nat) (Δ : SE), k + m = n → I k Δ → j_1 fg g (ds.drop k) Δ = r := by
  intro m
  induction m with
  | zero =>
   intro k Δ e h
   have : k = n := by omega
   subst this
   have hl : k < ds.length := (List.getElem?_eq_some_iff.mp hd).1
   obtain ⟨x, d1, d2⟩ := w_9 hl
   rw [hd] at d1
   cases d1
   obtain ⟨Δ1, e1, e2⟩ := last Δ h
   rw [d2]
   show (match fg d Δ with
    | .ok Δ1 => (match g Δ1 with
     | .nx Δ2 => j_1 fg g (ds.drop (k + 1)) Δ2
     | .ct Δ2 => j_1 fg g (ds.drop (k + 1)) Δ2
     | .bk Δ2 => .nx Δ2
     | r => r)
    | .ex _ => .no
    | .no => .no) = _
   rw [e1]
   simp only [e2]
   cases r with
   | nx _ => cases hr
   | ct _ => cases hr
   | bk _ => cases hr
   | _ => rfl
  | succ m ih =>
   intro k Δ e h
   have hl : n < ds.length := (List.getElem?_eq_some_iff.mp hd).1
   obtain ⟨x, d1, d2⟩ := w_9 (l := ds) (i := k) (by omega)
   obtain ⟨Δ1, e1, Δ2, e2, h2⟩ := step k x Δ (by omega) d1 h
   have e3 := ih (k + 1) Δ2 (by omega) h2
   rw [d2]
   show (match fg x Δ with
    | .ok Δ1 => (match g Δ1 with
     | .nx Δ2 => j_1 fg g (ds.drop (k + 1)) Δ2
     | .ct Δ2 => j_1 fg g (ds.drop (k + 1)) Δ2
     | .bk Δ2 => .nx Δ2
     | r => r)
    | .ex _ => .no
    | .no => .no) = _
   rw [e1]
   rcases e2 with e2 | e2
   ·simp only [e2]; exact e3
   ·simp only [e2]; exact e3
 have := all n 0 Δ (by omega) h0
 rwa [List.drop_zero] at this
end L3
namespace My
open PySem L2 L3
def kOf : D → Key
 | .int i => .inl i
 | .str x => .inr x
 | _ => .inl 0
theorem ar_2 {d : D} (h : isKey d) : keyD d = some (kOf d) := by
 rcases h with ⟨n, rfl, _⟩ | ⟨l, rfl, _⟩ <;> rfl
theorem bz_9 {a b : D} (ha : isKey a) (hb : isKey b) (e : kOf a = kOf b) : a = b := by
 rcases ha with ⟨n, rfl, _⟩ | ⟨l, rfl, _⟩ <;> rcases hb with ⟨m, rfl, _⟩ | ⟨k, rfl, _⟩
 ·injection e with e; rw [e]
 ·cases e
 ·cases e
 ·injection e with e; rw [e]
theorem bd_9 {ks : List D} (hk : ∀ k ∈ ks, isKey k) : g_1 [.lst ks] = .ok (.sh .non) := by
 obtain ⟨Δ', e, a1, a2, rfl⟩ := g_0 (gV2 1 2) n_6 (fun k Δ => ∃ a1 a2, Δ = [.sh (.lst ks), a1, a2]) (ds := n_2 0 ks) (Δ := [.sh (.lst ks), .no, .no]) ⟨_, _, rfl⟩ (fun k d Δ hd hI => by
  obtain ⟨a1, a2, rfl⟩ := hI
  obtain ⟨d', e1, rfl⟩ := q_5 hd
  refine ⟨_, rfl, _, .inl ?_, .sh (.int ((0 + k : Nat) : Int)), .sh d', rfl⟩
  simp_arith [n_6, evs, ay_1 (hk d' (List.mem_of_getElem? e1))])
 simp_arith [g_1, w_2, evs, h_2, ad_9, br_6, e]
def h_8 (ks : List D) : List (Key × D) := ks.map fun d => (kOf d, .bl true)
theorem bn_5 {ks : List D} {d : D} (hk : ∀ k ∈ ks, isKey k) (hd : isKey d) : hasA (h_8 ks) (kOf d) = true ↔ d ∈ ks := by
 unfold hasA n_3 h_8
 rw [Option.isSome_map, List.find?_isSome]
 constructor
 ·rintro ⟨p, hp, e⟩
  obtain ⟨x, hx, rfl⟩ := List.mem_map.mp hp
  have : kOf x = kOf d := by simpa using e
  rw [← bz_9 (hk x hx) hd this]
  exact hx
 ·intro h
  exact ⟨(kOf d, .bl true), List.mem_map.mpr ⟨d, h, rfl⟩, by simp⟩
theorem bn_6 {ks : List D} {d : D} (hk : ∀ k ∈ ks, isKey k) (hd : isKey d) (n : d ∉ ks) : putA (h_8 ks) (kOf d) (.bl true) = h_8 (ks ++ [d]) := by
 unfold putA
 have h : ((h_8 ks).any fun kv => decide (kv.1 = kOf d)) = false := by
  cases q : (h_8 ks).any fun kv => decide (kv.1 = kOf d) with
  | false => rfl
  | true =>
   exfalso
   obtain ⟨p, hp, e⟩ := List.any_eq_true.mp q
   obtain ⟨x, hx, rfl⟩ := List.mem_map.mp hp
   have : kOf x = kOf d := by simpa using e
   have := bz_9 (hk x hx) hd this
   subst this
   exact n hx
 rw [h]
 unfold h_8
 rw [List.map_append]
 rfl
theorem bn_7 {ks : List D} {l : List D} {d : D} {k : Nat} (hl : ∀ x ∈ l, isKey x) (hd : isKey d) (n : d ∉ l) (hn : l.length < 16777216) :
  i_3 [.sh (.lst ks), .ow (.dic (h_8 l)), .sh (.int (k : Int)), .sh d] = .nx [.sh (.lst ks), .ow (.dic (h_8 (l ++ [d]))), .sh (.int (k : Int)), .sh d] := by
 have h : hasA (h_8 l) (kOf d) = false := by
  cases q : hasA (h_8 l) (kOf d) with
  | false => rfl
  | true => exact absurd ((bn_5 hl hd).mp q) n
 have hs : (h_8 l).length < 16777216 := by unfold h_8; rw [List.length_map]; exact hn
 simp_arith [i_3, evs, inK, ar_2 hd, h, ae_1, hs, bn_6 hl hd n]
theorem ce_7 {ks : List D} (hk : ∀ k ∈ ks, isKey k) (nd : ks.Nodup) (hl : ks.length < 16777216) : l_3 [.lst ks] = .ok (.sh .non) := by
 obtain ⟨Δ', e, a2, a3, rfl⟩ := g_0 (gV2 2 3) i_3 (fun k Δ => ∃ a2 a3, Δ = [.sh (.lst ks), .ow (.dic (h_8 (ks.take k))), a2, a3]) (ds := n_2 0 ks) (Δ := [.sh (.lst ks), .ow (.dic []), .no, .no]) ⟨_, _, rfl⟩ (fun k d Δ hd hI => by
  obtain ⟨a2, a3, rfl⟩ := hI
  obtain ⟨d', e1, rfl⟩ := q_5 hd
  have hlt : k < ks.length := (List.getElem?_eq_some_iff.mp e1).1
  have nin : d' ∉ ks.take k := fun hm => by
   obtain ⟨j, hj, e⟩ := List.getElem_of_mem hm
   rw [List.length_take] at hj
   rw [List.getElem_take] at e
   have := List.pairwise_iff_getElem.mp nd j k (by omega) hlt (by omega)
   rw [e] at this
   rw [List.getElem?_eq_getElem hlt] at e1
   injection e1 with e1
   exact this e1.symm
  refine ⟨_, rfl, _, .inl (bn_7 (k := 0 + k) (fun x hx => hk x (List.mem_of_mem_take hx)) (hk d' (List.mem_of_getElem? e1)) nin (by rw [List.length_take]; omega)), .sh (.int ((0 + k : Nat) : Int)), .sh d', ?_⟩
  rw [List.take_add_one, e1]
  rfl)
 have e' : j_1 (gV2 2 3) i_3 (n_2 0 ks) [.sh (.lst ks), .ow (.dic []), .no, .no] = _ := e
 simp_arith [l_3, aa_6, evs, ap_2, h_2, ad_9, br_6, e']
theorem ca_0 {ks : List D} (hk : ∀ k ∈ ks, isKey k) (nd : ks.Nodup) (h1 : 1 ≤ ks.length) (h2 : ks.length ≤ 200) : j_8 [.lst ks] = .ok (.sh (.int (ks.length : Int))) := by
 have c1 : ¬ (ks.length : Int) = 0 := by omega
 have c2 : ¬ (200 : Int) < (ks.length : Int) := by omega
 simp_arith [j_8, aj_0, evs, n_5, d_9, c1, bx_8, c2, bd_9 hk, ce_7 hk nd (by omega)]
def f_2 (n kind : Int) : Int := if kind < 3 then n + n / 8 + 1 else 41 * n / 100 + 2
theorem an_0 (n kind : Int) (h0 : 0 ≤ n) (h1 : n ≤ 1000) (hk : kind = 2 ∨ kind = 3) : h_6 [.int n, .int kind] = .ok (.sh (.int (f_2 n kind))) ∧ True ∧ 0 < f_2 n kind ∧ f_2 n kind ≤ 2000 := by
 have m41 : mulC 41 n = true := m_1 (by decide) (by decide)
 rcases hk with rfl | rfl
 ·refine ⟨?_, trivial, ?_, ?_⟩
  ·simp_arith [h_6, x_6, evs, ax_3, show (2 : Int) < 3 by decide, f_9 (show (0 : Int) < 8 by decide) (by decide), e_2, f_2]
  ·unfold f_2; rw [if_pos (by decide)]; omega
  ·unfold f_2; rw [if_pos (by decide)]; omega
 ·refine ⟨?_, trivial, ?_, ?_⟩
  ·simp_arith [h_6, x_6, evs, ax_3, show ¬ (3 : Int) < 3 by decide, f_9 (show (0 : Int) < 100 by decide) (by decide), e_2, f_8 m41, f_2]
  ·unfold f_2; rw [if_neg (by decide)]; omega
  ·unfold f_2; rw [if_neg (by decide)]; omega
def r_9 (d : D) (salt part : Int) (j : Int) : Int := j * part + n_8 (f_7 d) (4 * salt + j) part
def z_5 (d : D) (salt kind part : Int) : List D := (List.range kind.toNat).map fun (k : Nat) => D.int (r_9 d salt part (0 + (k : Int)))
theorem ay_2 {d : D} (h : isKey d) (salt kind part : Int) (s0 : 0 ≤ salt) (s1 : salt ≤ 1000000000000) (hk : kind = 2 ∨ kind = 3) (p0 : 0 < part) (p1 : part ≤ 2000) :
  e_3 [d, .int salt, .int kind, .int part] = .ok (.sh (.tup (z_5 d salt kind part))) ∧ True := by
 have hr := o_7 (j := kind) (by omega) (by omega)
 have hl : (g_8 0 kind.toNat).length ≤ 16777216 := by rw [u_3]; omega
 have bw : ∀ k : Nat, k < kind.toNat → mulC (0 + (k : Int)) part = true ∧ mulC 4 salt = true := fun k hk => ⟨m_1 (by omega) (by omega), m_1 (by decide) (by decide)⟩
 refine ⟨?_, trivial⟩
 ·have ec := ce_0 (fg := gC 5) (p := fun _ => .ok true) (f := o_8) (δ := [some d, some (.int salt), some (.int kind), some (.int part), some (.int (f_7 d)), none]) (F := fun i => .int (r_9 d salt part i)) kind.toNat 0 (fun k hk' => by
   obtain ⟨m1, m2⟩ := bw k hk'
   refine ⟨[some d, some (.int salt), some (.int kind), some (.int part), some (.int (f_7 d)), some (.int (0 + (k : Int)))], .sh (.int (r_9 d salt part (0 + (k : Int)))), rfl, rfl, ?_, rfl⟩
   simp_arith [o_8, evs, f_8 m1, f_8 m2, e_2, (ar_1 (f_7 d) (4 * salt + (0 + (k : Int))) part (by omega) (by omega) p0).1, r_9])
  have ec' := i_2 (m := 1) (fi := iArgs p_4 (aCons (eVar 2) aNil)) (fg := gC 5) (p := fun _ => .ok true) (f := o_8) (δ := [some d, some (.int salt), some (.int kind), some (.int part), some (.int (f_7 d))]) (by simp_arith [evs, hr]) hl ec
  simp_arith [e_3, aj_1, evs, bn_4 h, ec', cj_8]
  rfl
def bt_0 (ks : List D) (salt kind : Int) : List D := ks.map fun d => .tup (z_5 d salt kind (f_2 (ks.length : Int) kind))
theorem bn_8 {ks : List D} (hk : ∀ k ∈ ks, isKey k) (nd : ks.Nodup) (h1 : 1 ≤ ks.length) (h2 : ks.length ≤ 200) (salt kind : Int) (s0 : 0 ≤ salt) (s1 : salt ≤ 1000000000000) (hkd : kind = 2 ∨ kind = 3) :
  o_1 [.lst ks, .int salt, .int kind] = .ok (.ow (.lst (bt_0 ks salt kind))) := by
 obtain ⟨p1, p2, p3, p4⟩ := an_0 (ks.length : Int) kind (by omega) (by omega) hkd
 ·have ec := i_2 (m := 1) (fi := iOf (eVar 0)) (fg := gC 4) (p := fun _ => .ok true) (f := v_6) (δ := [some (.lst ks), some (.int salt), some (.int kind), some (.int (f_2 (ks.length : Int) kind))]) (ds := ks) (by simp_arith [evs]) (by omega)
   (x_3 (fun d => .tup (z_5 d salt kind (f_2 (ks.length : Int) kind))) ks fun d hd => ⟨_, .sh (.tup (z_5 d salt kind (f_2 (ks.length : Int) kind))), rfl, by
    simp_arith [v_6, evs, (ay_2 (hk d hd) salt kind (f_2 (ks.length : Int) kind) s0 s1 hkd p3 p4).1], rfl⟩)
  simp_arith [o_1, aq_6, evs, ca_0 hk nd h1 h2, p1, ec]
  rfl
def kp (p : Nat) : Key := .inl (p : Int)
theorem kp_inj {a b : Nat} : kp a = kp b ↔ a = b := by
 unfold kp
 constructor
 ·intro h; injection h with h; exact Int.ofNat.inj h
 ·intro h; rw [h]
def inner (ns : List Nat) : List (Key × D) := ns.map fun n => (kp n, .bl true)
abbrev St1 := List (Nat × List Nat)
def inT (ns : List Nat) : Tn := Tn.of (.dic (inner ns))
def stT (st : St1) : List (Key × Tn) := st.map fun x => (kp x.1, inT x.2)
def lkS : St1 → Nat → Option (List Nat)
 | [], _ => none
 | (q, ns) :: r, p => if q = p then some ns else lkS r p
def rpS : St1 → Nat → List Nat → St1
 | [], _, _ => []
 | (q, ns) :: r, p, ms => if q = p then (q, ms) :: r else (q, ns) :: rpS r p ms
theorem y_4 : ∀ (st : St1) (p : Nat), n_3 (stT st) (kp p) = (lkS st p).map inT
 | [], _ => rfl
 | (q, ns) :: r, p => by
  have ih := y_4 r p
  unfold n_3 at ih ⊢
  show (((kp q, inT ns) :: stT r).find? fun kv => decide (kv.1 = kp p)).map (·.2) = _
  unfold lkS
  by_cases h : q = p
  ·rw [if_pos h, List.find?_cons_of_pos (by simpa [kp_inj] using h)]; rfl
  ·rw [if_neg h, List.find?_cons_of_neg (by simpa [kp_inj] using h)]; exact ih
theorem af_2 (ms : List Nat) : ∀ (st : St1) (p : Nat), repA (stT st) (kp p) (inT ms) = stT (rpS st p ms)
 | [], _ => rfl
 | (q, ns) :: r, p => by
  show repA ((kp q, inT ns) :: stT r) (kp p) (inT ms) = _
  unfold repA rpS
  by_cases h : q = p
  ·rw [if_pos h, if_pos (kp_inj.mpr h)]; rfl
  ·rw [if_neg h, if_neg (fun z => h (kp_inj.mp z)), af_2 ms r p]; rfl
theorem cx_7 (a b : St1) : stT (a ++ b) = stT a ++ stT b := by unfold stT; rw [List.map_append]
theorem cx_8 (a : St1) : (stT a).length = a.length := by unfold stT; rw [List.length_map]
theorem dl_2 (ns : List Nat) : (inT ns).d = .dic (inner ns) := Tn.of_d _
theorem bt_1 : ∀ st : St1, Tn.ks (stT st) = st.map fun x => (kp x.1, .dic (inner x.2))
 | [] => rfl
 | (q, ns) :: r => by
  show (kp q, (inT ns).d) :: Tn.ks (stT r) = _
  rw [bt_1 r, dl_2]; rfl
theorem be_0 : ∀ (st : St1) (p : Nat), n_3 (Tn.ks (stT st)) (kp p) = (lkS st p).map fun ns => .dic (inner ns)
 | [], _ => rfl
 | (q, ns) :: r, p => by
  have ih := be_0 r p
  rw [bt_1] at ih ⊢
  unfold n_3 at ih ⊢
  rw [List.map_cons]
  unfold lkS
  by_cases h : q = p
  ·rw [if_pos h, List.find?_cons_of_pos (by simpa [kp_inj] using h)]; rfl
  ·rw [if_neg h, List.find?_cons_of_neg (by simpa [kp_inj] using h)]; exact ih
theorem ca_1 (st : St1) (p : Nat) : hasA (Tn.ks (stT st)) (kp p) = (lkS st p).isSome := by
 unfold hasA; rw [be_0, Option.isSome_map]
theorem ah_8 (ns : List Nat) : (inner ns).length = ns.length := by unfold inner; rw [List.length_map]
theorem ar_3 : ∀ (ns : List Nat) (n : Nat), hasA (inner ns) (kp n) = decide (n ∈ ns)
 | [], _ => by simp [inner, hasA, n_3]
 | m :: ns, n => by
  have ih := ar_3 ns n
  unfold hasA n_3 at ih ⊢
  show ((((kp m, D.bl true) :: inner ns).find? fun kv => decide (kv.1 = kp n)).map (·.2)).isSome = _
  by_cases h : m = n
  ·rw [List.find?_cons_of_pos (by simpa [kp_inj] using h)]
   simp [h]
  ·rw [List.find?_cons_of_neg (by simpa [kp_inj] using h), ih]
   simp [Ne.symm h]
theorem ce_8 (ns : List Nat) (n : Nat) : ((inner ns).any fun kv => decide (kv.1 = kp n)) = decide (n ∈ ns) := by
 induction ns with
 | nil => rfl
 | cons m ns ih =>
  show (decide (kp m = kp n) || (inner ns).any fun kv => decide (kv.1 = kp n)) = _
  rw [ih]
  by_cases h : m = n
  ·simp [h]
  ·simp [h, kp_inj, Ne.symm h]
theorem ay_3 (ns : List Nat) (n : Nat) : putA (inner ns) (kp n) (.bl true) = inner (if n ∈ ns then ns else ns ++ [n]) := by
 unfold putA
 rw [ce_8]
 by_cases h : n ∈ ns
 ·rw [if_pos (decide_eq_true h), if_pos h]
  unfold inner
  rw [List.map_map]
  apply List.map_congr_left
  intro m _
  show (if kp m = kp n then (kp m, D.bl true) else (kp m, D.bl true)) = _
  split <;> rfl
 ·rw [if_neg (by simpa using h), if_neg h]
  unfold inner
  rw [List.map_append]; rfl
theorem bt_2 (ns : List Nat) (n : Nat) : x_1 (inner ns) (kp n) = inner (ns.filter fun m => decide (m ≠ n)) := by
 unfold x_1 inner
 rw [List.filter_map]
 congr 1
 apply List.filter_congr
 intro m _
 show decide (kp m ≠ kp n) = _
 by_cases h : m = n
 ·simp [h]
 ·simp [h, kp_inj]
theorem ca_2 : ∀ (st : St1) (p q : Nat) (ms : List Nat), lkS (rpS st p ms) q = if q = p then (lkS st p).map (fun _ => ms) else lkS st q
 | [], p, q, ms => by simp [rpS, lkS]
 | (r, ns) :: st, p, q, ms => by
  unfold rpS
  by_cases h : r = p
  ·rw [if_pos h]
   unfold lkS
   by_cases h2 : q = p
   ·rw [if_pos (by omega), if_pos h2, if_pos h]; rfl
   ·rw [if_neg (by omega), if_neg h2, if_neg (by omega)]
  ·rw [if_neg h]
   unfold lkS
   by_cases h2 : r = q
   ·rw [if_pos h2, if_neg (by omega), if_pos h2]
   ·rw [if_neg h2, ca_2 st p q ms, if_neg h, if_neg h2]
theorem be_1 : ∀ (st : St1) (p : Nat) (ms : List Nat), (rpS st p ms).map (·.1) = st.map (·.1)
 | [], _, _ => rfl
 | (r, ns) :: st, p, ms => by
  unfold rpS
  split
  ·rfl
  ·rw [List.map_cons, List.map_cons, be_1 st p ms]
theorem be_2 : ∀ (a : St1) (p q : Nat) (ms : List Nat), lkS (a ++ [(p, ms)]) q = match lkS a q with | some ns => some ns | none => if p = q then some ms else none
 | [], p, q, ms => rfl
 | (r, ns) :: a, p, q, ms => by
  show lkS ((r, ns) :: (a ++ [(p, ms)])) q = _
  unfold lkS
  by_cases h : r = q
  ·rw [if_pos h, if_pos h]
  ·rw [if_neg h, if_neg h, be_2 a p q ms]
theorem cp_0 : ∀ (a : St1) (p : Nat) (ms ls : List Nat), lkS a p = none → rpS (a ++ [(p, ms)]) p ls = a ++ [(p, ls)]
 | [], p, ms, ls, _ => by show rpS [(p, ms)] p ls = _; unfold rpS; rw [if_pos rfl]; rfl
 | (r, ns) :: a, p, ms, ls, h => by
  unfold lkS at h
  split at h
  ·cases h
  ·rename_i hn
   show rpS ((r, ns) :: (a ++ [(p, ms)])) p ls = _
   unfold rpS
   rw [if_neg hn, cp_0 a p ms ls h]; rfl
theorem lk_mem : ∀ {st : St1} {p : Nat}, p ∈ st.map (·.1) ↔ (lkS st p).isSome = true
 | [], p => by simp [lkS]
 | (r, ns) :: st, p => by
  unfold lkS
  by_cases h : r = p
  ·simp [h]
  ·rw [if_neg h, List.map_cons, List.mem_cons, lk_mem (st := st)]
   constructor
   ·rintro (z | z)
    ·exact absurd z.symm h
    ·exact z
   ·exact fun z => .inr z
structure Rep (st : St1) (R : Nat → Nat → Prop) : Prop where
 at_ : ∀ p ns, lkS st p = some ns → ns.Nodup ∧ ∀ n, n ∈ ns ↔ R n p
 all : ∀ n p, R n p → (lkS st p).isSome = true
def addS (st : St1) (p n : Nat) : St1 := match lkS st p with
 | some ns => rpS st p (if n ∈ ns then ns else ns ++ [n])
 | none => st ++ [(p, [n])]
theorem Rep.add {st : St1} {R : Nat → Nat → Prop} (h : Rep st R) (p n : Nat) : Rep (addS st p n) (fun n' p' => R n' p' ∨ (n' = n ∧ p' = p)) := by
 unfold addS
 cases e : lkS st p with
 | some ns =>
  obtain ⟨h1, h2⟩ := h.at_ p ns e
  refine ⟨fun q ms eq => ?_, fun n' p' z => ?_⟩
  ·simp only [ca_2, e, Option.map_some] at eq
   by_cases hq : q = p
   ·rw [if_pos hq] at eq
    cases eq
    subst hq
    by_cases hn : n ∈ ns
    ·rw [if_pos hn]
     refine ⟨h1, fun m => ⟨fun z => .inl ((h2 m).mp z), fun z => ?_⟩⟩
     rcases z with z | ⟨rfl, _⟩
     ·exact (h2 m).mpr z
     ·exact hn
    ·rw [if_neg hn]
     refine ⟨List.nodup_append.mpr ⟨h1, by simp, fun a ha b hb => ?_⟩, fun m => ?_⟩
     ·have : b = n := by simpa using hb
      rintro rfl
      exact hn (this ▸ ha)
     ·rw [List.mem_append, h2 m, List.mem_singleton]
      constructor
      ·rintro (z | z)
       ·exact .inl z
       ·exact .inr ⟨z, rfl⟩
      ·rintro (z | ⟨z, _⟩)
       ·exact .inl z
       ·exact .inr z
   ·rw [if_neg hq] at eq
    obtain ⟨k1, k2⟩ := h.at_ q ms eq
    refine ⟨k1, fun m => ⟨fun z => .inl ((k2 m).mp z), fun z => ?_⟩⟩
    rcases z with z | ⟨_, z⟩
    ·exact (k2 m).mpr z
    ·exact absurd z hq
  ·simp only [ca_2, e, Option.map_some]
   by_cases hq : p' = p
   ·rw [if_pos hq]; rfl
   ·rw [if_neg hq]
    rcases z with z | ⟨_, z⟩
    ·exact h.all n' p' z
    ·exact absurd z hq
 | none =>
  refine ⟨fun q ms eq => ?_, fun n' p' z => ?_⟩
  ·simp only [be_2] at eq
   cases e2 : lkS st q with
   | some ns =>
    rw [e2] at eq
    cases eq
    obtain ⟨k1, k2⟩ := h.at_ q _ e2
    refine ⟨k1, fun m => ⟨fun z => .inl ((k2 m).mp z), fun z => ?_⟩⟩
    rcases z with z | ⟨_, z⟩
    ·exact (k2 m).mpr z
    ·subst z; rw [e] at e2; cases e2
   | none =>
    rw [e2] at eq
    by_cases hq : p = q
    ·simp only [hq, if_true] at eq
     cases eq
     subst hq
     refine ⟨by simp, fun m => ?_⟩
     rw [List.mem_singleton]
     constructor
     ·exact fun z => .inr ⟨z, rfl⟩
     ·rintro (z | ⟨z, _⟩)
      ·have := h.all m p z; rw [e] at this; cases this
      ·exact z
    ·simp only [hq, if_false] at eq
     cases eq
  ·simp only [be_2]
   rcases z with z | ⟨_, z⟩
   ·have := h.all n' p' z
    cases e2 : lkS st p' with
    | some ns => rfl
    | none => rw [e2] at this; cases this
   ·subst z
    rw [e]; simp
theorem cx_9 (st : St1) (p n : Nat) : (addS st p n).length ≤ st.length + 1 := by
 unfold addS
 split
 ·have := congrArg List.length (be_1 st p (if n ∈ (by assumption : List Nat) then (by assumption : List Nat) else (by assumption : List Nat) ++ [n]))
  rw [List.length_map, List.length_map] at this
  omega
 ·simp
def k_9 (st : St1) (n : Nat) (ps : List Nat) : St1 := ps.foldl (fun st p => rpS st p (((lkS st p).getD []).filter fun m => decide (m ≠ n))) st
theorem z_6 (n : Nat) : ∀ (ps : List Nat) (st : St1), (k_9 st n ps).map (·.1) = st.map (·.1)
 | [], _ => rfl
 | p :: ps, st => by
  show (k_9 (rpS st p _) n ps).map (·.1) = _
  rw [z_6 n ps, be_1]
theorem an_1 (n : Nat) : ∀ (ps : List Nat) (st : St1) (q : Nat), lkS (k_9 st n ps) q = if q ∈ ps then (lkS st q).map (fun ns => ns.filter fun m => decide (m ≠ n)) else lkS st q
 | [], st, q => by simp [k_9]
 | p :: ps, st, q => by
  show lkS (k_9 (rpS st p _) n ps) q = _
  rw [an_1 n ps, ca_2]
  by_cases h : q = p
  ·subst h
   rw [if_pos rfl, if_pos (List.mem_cons_self ..)]
   cases e : lkS st q with
   | none => simp
   | some ns =>
    simp only [Option.map_some, Option.getD_some]
    split
    ·rw [List.filter_filter]; simp
    ·rfl
  ·rw [if_neg h]
   by_cases h2 : q ∈ ps
   ·rw [if_pos h2, if_pos (List.mem_cons_of_mem _ h2)]
   ·rw [if_neg h2, if_neg (by simp [h, h2])]
theorem Rep.away {st : St1} {R : Nat → Nat → Prop} (h : Rep st R) (n : Nat) (ps : List Nat) (hp : ∀ p, R n p → p ∈ ps) : Rep (k_9 st n ps) (fun n' p' => R n' p' ∧ n' ≠ n) := by
 refine ⟨fun q ms e => ?_, fun n' p' ⟨z, _⟩ => ?_⟩
 ·rw [an_1] at e
  by_cases hq : q ∈ ps
  ·rw [if_pos hq] at e
   obtain ⟨ns, e1, rfl⟩ := Option.map_eq_some_iff.mp e
   obtain ⟨k1, k2⟩ := h.at_ q ns e1
   refine ⟨k1.filter _, fun m => ?_⟩
   rw [List.mem_filter, k2 m]
   simp
  ·rw [if_neg hq] at e
   obtain ⟨k1, k2⟩ := h.at_ q ms e
   refine ⟨k1, fun m => ⟨fun z => ⟨(k2 m).mp z, ?_⟩, fun z => (k2 m).mpr z.1⟩⟩
   rintro rfl
   exact hq (hp q ((k2 m).mp z))
 ·rw [an_1]
  have := h.all n' p' z
  split
  ·rw [Option.isSome_map]; exact this
  ·exact this
def zi (ps : List Nat) : List D := ps.map fun p => D.int ((p : Nat) : Int)
def eT (ps : List Nat) : D := .tup (zi ps)
def eL (E : List (List Nat)) : List D := E.map eT
theorem s_0 (l : List Nat) : (zi l).length = l.length := by unfold zi; rw [List.length_map]
theorem cp_1 {l : List Nat} {i : Nat} {d : D} (h : (zi l)[i]? = some d) : ∃ p, l[i]? = some p ∧ d = .int (p : Int) := by
 unfold zi at h
 rw [List.getElem?_map] at h
 obtain ⟨p, e1, e2⟩ := Option.map_eq_some_iff.mp h
 exact ⟨p, e1, e2.symm⟩
theorem dg_6 {E : List (List Nat)} {i : Nat} {d : D} (h : (eL E)[i]? = some d) : ∃ ps, E[i]? = some ps ∧ d = eT ps := by
 unfold eL at h
 rw [List.getElem?_map] at h
 obtain ⟨p, e1, e2⟩ := Option.map_eq_some_iff.mp h
 exact ⟨p, e1, e2.symm⟩
theorem da_1 {E : List (List Nat)} {i : Nat} {ps : List Nat} (h : E[i]? = some ps) : (eL E)[i]? = some (eT ps) := by
 unfold eL; rw [List.getElem?_map, h]; rfl
def stSl (st : St1) (a : Sl) : Prop := a = .tr (.dic (stT st)) ∨ (st = [] ∧ a = .ow (.dic []))
theorem stSl.any {st : St1} {a : Sl} (h : stSl st a) : Sl.any a = some (.dic (Tn.ks (stT st))) := by
 rcases h with rfl | ⟨rfl, rfl⟩ <;> rfl
theorem stSl.tree {st : St1} {a : Sl} (h : stSl st a) : Sl.tree a = some (.dic (stT st), false) := by
 rcases h with rfl | ⟨rfl, rfl⟩ <;> rfl
theorem ce_9 {st : St1} {a1 : Sl} (h : stSl st a1) (a0 : Sl) (n p : Nat) (a3 : Sl) (hl : st.length < 1000) (hi : ∀ q ns, lkS st q = some ns → ns.length < 1000) :
  i_4 [a0, a1, .sh (.int (n : Int)), a3, .sh (.int (p : Int))] = .nx [a0, .tr (.dic (stT (addS st p n))), .sh (.int (n : Int)), a3, .sh (.int (p : Int))] := by
 have hk : ∀ k : Nat, keyD (.int (k : Int)) = some (kp k) := fun _ => rfl
 unfold addS
 cases e : lkS st p with
 | some ns =>
  have e1 : inK true (.int (p : Int)) (.dic (Tn.ks (stT st))) = .ok (.sh (.bl false)) := by
   simp only [inK, hk, ca_1, e]; rfl
  have e2 : n_3 (stT st) (kp p) = some (.dic ((inner ns).map fun p => (p.1, Tn.sh p.2))) := by rw [y_4, e]; rfl
  have e3 := br_8 (inner ns)
  have e4 : (inner ns).length < 16777216 := by rw [ah_8]; have := hi p ns e; omega
  have e5 : repA (stT st) (kp p) (Tn.of (.dic (inner (if n ∈ ns then ns else ns ++ [n])))) = stT (rpS st p (if n ∈ ns then ns else ns ++ [n])) := af_2 _ st p
  simp_arith [i_4, evs, h.any, e1, aw_9, Option.bind_some, h.tree, hk, e2, e3, e4, ay_3, e5, Sl.mk]
 | none =>
  have e1 : inK true (.int (p : Int)) (.dic (Tn.ks (stT st))) = .ok (.sh (.bl true)) := by
   simp only [inK, hk, ca_1, e]; rfl
  have e0 : (n_3 (stT st) (kp p)).isSome = false := by rw [y_4, e]; rfl
  have el : (stT st).length < 16777216 := by rw [cx_8]; omega
  have ea : stT st ++ [(kp p, Tn.dic [])] = stT (st ++ [(p, [])]) := by rw [cx_7]; rfl
  have e2 : n_3 (stT (st ++ [(p, [])])) (kp p) = some (.dic []) := by
   rw [y_4, be_2, e]; simp only [if_true]; rfl
  have e5 : repA (stT (st ++ [(p, [])])) (kp p) (Tn.of (.dic (inner [n]))) = stT (st ++ [(p, [n])]) := by
   have := af_2 [n] (st ++ [(p, [])]) p
   rw [cp_0 st p [] [n] e] at this
   exact this
  have e6 : unS [] = some [] := rfl
  have e7 : putA ([] : List (Key × D)) (kp n) (.bl true) = inner [n] := rfl
  have e8 : (0 : Nat) < 16777216 := by decide
  have t1 : ax_0 1 (eVar 4) [a0, a1, .sh (.int (n : Int)), a3, .sh (.int (p : Int))] = .nx [a0, .tr (.dic (stT (st ++ [(p, [])]))), .sh (.int (n : Int)), a3, .sh (.int (p : Int))] := by
   simp_arith [ax_0, evs, Option.bind_some, h.tree, hk, e0, el, ea, Sl.mk]
  have t2 : aw_9 1 (eVar 4) (eVar 2) (eC (.bl true)) [a0, .tr (.dic (stT (st ++ [(p, [])]))), .sh (.int (n : Int)), a3, .sh (.int (p : Int))] = .nx [a0, .tr (.dic (stT (st ++ [(p, [n])]))), .sh (.int (n : Int)), a3, .sh (.int (p : Int))] := by
   simp_arith [aw_9, evs, Option.bind_some, Sl.tree, hk, e2, e6, e7, e8, e5, Sl.mk]
  have t0 : sIf [1, 4] (eTest (eOp (inK true) (eVar 4) (eVar 1))) (ax_0 1 (eVar 4)) sNil [a0, a1, .sh (.int (n : Int)), a3, .sh (.int (p : Int))] = .nx [a0, .tr (.dic (stT (st ++ [(p, [])]))), .sh (.int (n : Int)), a3, .sh (.int (p : Int))] := by
   rw [← t1]
   simp only [sIf, vall, List.map_cons, List.map_nil, bs_4, h.any, eTest, eOp, eVar, List.getElem?_cons_succ, List.getElem?_cons_zero, R.bind_ok, W.d_sh, e1, boolD, if_true]
  unfold i_4
  rw [b_0 t0, t2]
theorem few {l : List Nat} {n : Nat} (h : l.Nodup) (hb : ∀ x ∈ l, x < n) : l.length ≤ n := by
 have := List.Nodup.length_le_of_subset (l₂ := List.range n) h fun x hx => List.mem_range.mpr (hb x hx)
 rwa [List.length_range] at this
def tot (E : List (List Nat)) : Nat := (E.map List.length).sum
theorem cp_2 {E : List (List Nat)} {k : Nat} {ps : List Nat} (h : E[k]? = some ps) : tot (E.take (k + 1)) = tot (E.take k) + ps.length := by
 unfold tot
 rw [List.take_add_one, h, List.map_append, List.sum_append]
 simp
theorem ak_0 : ∀ (l : List Nat) (k : Nat), (l.take k).sum ≤ l.sum
 | [], k => by simp
 | a :: l, 0 => by simp
 | a :: l, k + 1 => by
  have := ak_0 l k
  simp only [List.take_succ_cons, List.sum_cons]
  omega
theorem dg_7 (E : List (List Nat)) (k : Nat) : tot (E.take k) ≤ tot E := by
 unfold tot
 rw [List.map_take]
 exact ak_0 _ k
def RE (E : List (List Nat)) (n p : Nat) : Prop := ∃ e, E[n]? = some e ∧ p ∈ e
theorem Rep.imp {st : St1} {R R' : Nat → Nat → Prop} (h : Rep st R) (i : ∀ n p, R n p ↔ R' n p) : Rep st R' :=
 ⟨fun p ns e => ⟨(h.at_ p ns e).1, fun n => ((h.at_ p ns e).2 n).trans (i n p)⟩, fun n p z => h.all n p ((i n p).mpr z)⟩
theorem Rep.small {st : St1} {R : Nat → Nat → Prop} (h : Rep st R) {N : Nat} (hb : ∀ n p, R n p → n < N) {q : Nat} {ns : List Nat} (e : lkS st q = some ns) : ns.length ≤ N := by
 obtain ⟨h1, h2⟩ := h.at_ q ns e
 exact few h1 fun x hx => hb x q ((h2 x).mp hx)
theorem bt_4 {st : St1} {a1 : Sl} (h : stSl st a1) (a0 : Sl) (n : Nat) (ps : List Nat) (a4 : Sl) {R : Nat → Nat → Prop} (hR : Rep st R) {N : Nat} (hb : ∀ m p, R m p → m < N) (hn : n < N) (hN : N ≤ 900) (hl : st.length + ps.length ≤ 900) :
  ∃ st' a1' a4', Rep st' (fun m p => R m p ∨ (m = n ∧ p ∈ ps)) ∧ stSl st' a1' ∧ st'.length ≤ st.length + ps.length ∧ i_5 [a0, a1, .sh (.int (n : Int)), .sh (eT ps), a4] = .nx [a0, a1', .sh (.int (n : Int)), .sh (eT ps), a4'] := by
 obtain ⟨Δ', e, st', a1', a4', r', s', l', rfl⟩ := g_0 (gV 4) i_4 (fun k Δ => ∃ st' a1' a4', Rep st' (fun m p => R m p ∨ (m = n ∧ p ∈ ps.take k)) ∧ stSl st' a1' ∧ st'.length ≤ st.length + k ∧ Δ = [a0, a1', .sh (.int (n : Int)), .sh (eT ps), a4']) (ds := zi ps) (Δ := [a0, a1, .sh (.int (n : Int)), .sh (eT ps), a4])
  ⟨st, a1, a4, hR.imp fun m p => by simp, h, by omega, rfl⟩ (fun k d Δ hd hI => by
   obtain ⟨st', a1', a4', r', s', l', rfl⟩ := hI
   obtain ⟨p, hp, rfl⟩ := cp_1 hd
   have hk : k < ps.length := (List.getElem?_eq_some_iff.mp hp).1
   have bd : ∀ m q, (R m q ∨ (m = n ∧ q ∈ ps.take k)) → m < N := fun m q z => by
    rcases z with z | ⟨z, _⟩
    ·exact hb m q z
    ·omega
   refine ⟨_, rfl, _, .inl (ce_9 s' a0 n p (.sh (eT ps)) (by omega) fun q ns e => ?_), addS st' p n, _, _, (r'.add p n).imp fun m q => ?_, .inl rfl, ?_, rfl⟩
   ·have := r'.small bd e; omega
   ·rw [List.take_add_one, hp]
    simp only [Option.toList_some, List.mem_append, List.mem_singleton]
    constructor
    ·rintro ((z | ⟨z1, z2⟩) | ⟨z1, z2⟩)
     ·exact .inl z
     ·exact .inr ⟨z1, .inl z2⟩
     ·exact .inr ⟨z1, .inr z2⟩
    ·rintro (z | ⟨z1, z2 | z2⟩)
     ·exact .inl (.inl z)
     ·exact .inl (.inr ⟨z1, z2⟩)
     ·exact .inr ⟨z1, z2⟩
   ·have := cx_9 st' p n; omega)
 rw [s_0, List.take_length] at r'
 rw [s_0] at l'
 refine ⟨st', a1', a4', r', s', l', ?_⟩
 have hi : ∀ δ : List (Option D), iOf (eVar 3) (some (D.non) :: none :: none :: some (eT ps) :: δ) = .ok (zi ps) := fun _ => rfl
 simp only [i_5, h_2]
 have e1 : iOf (eVar 3) (vsh [a0, a1, .sh (.int (n : Int)), .sh (eT ps), a4]) = .ok (zi ps) := rfl
 rw [e1]
 exact e
theorem cf_0 (E : List (List Nat)) (hE : E.length ≤ 900) (hT : tot E ≤ 900) : ∃ st a1, Rep st (RE E) ∧ stSl st a1 ∧ st.length ≤ tot E ∧ ∃ w, o_9 [.lst (eL E)] = .ok w ∧ ((a1 = .tr (.dic (stT st)) ∧ w = .tr (.dic (stT st))) ∨ (st = [] ∧ a1 = .ow (.dic []) ∧ w = .ow (.dic []))) := by
 obtain ⟨Δ', e, st, a1, a2, a3, a4, r, s, l, rfl⟩ := g_0 (gV2 2 3) i_5 (fun k Δ => ∃ st a1 a2 a3 a4, Rep st (fun n p => RE E n p ∧ n < k) ∧ stSl st a1 ∧ st.length ≤ tot (E.take k) ∧ Δ = [.sh (.lst (eL E)), a1, a2, a3, a4]) (ds := n_2 0 (eL E)) (Δ := [.sh (.lst (eL E)), .ow (.dic []), .no, .no, .no])
  ⟨[], _, _, _, _, ⟨fun p ns e => (by cases e), fun n p z => (by omega)⟩, .inr ⟨rfl, rfl⟩, Nat.zero_le _, rfl⟩ (fun k d Δ hd hI => by
   obtain ⟨st, a1, a2, a3, a4, r, s, l, rfl⟩ := hI
   obtain ⟨d', e1, rfl⟩ := q_5 hd
   obtain ⟨ps, e2, rfl⟩ := dg_6 e1
   have hk : k < E.length := (List.getElem?_eq_some_iff.mp e2).1
   have t1 := cp_2 e2
   have t2 := dg_7 E (k + 1)
   rw [Nat.zero_add]
   obtain ⟨st', a1', a4', r', s', l', e3⟩ := bt_4 s (.sh (.lst (eL E))) k ps a4 r (N := E.length) (fun m p z => by omega) hk hE (by omega)
   refine ⟨_, rfl, _, .inl e3, st', a1', _, _, a4', r'.imp fun m p => ?_, s', by omega, rfl⟩
   constructor
   ·rintro (⟨z1, z2⟩ | ⟨rfl, z⟩)
    ·exact ⟨z1, by omega⟩
    ·exact ⟨⟨ps, e2, z⟩, by omega⟩
   ·rintro ⟨⟨e, z1, z2⟩, z3⟩
    by_cases h : m = k
    ·subst h
     rw [e2] at z1
     cases z1
     exact .inr ⟨rfl, z2⟩
    ·exact .inl ⟨⟨e, z1, z2⟩, by omega⟩)
 have hle : (n_2 0 (eL E)).length = E.length := by
  have : ∀ (l : List D) (k : Nat), (n_2 k l).length = l.length := fun l => by
   induction l with
   | nil => intro k; rfl
   | cons d l ih => intro k; show (n_2 (k + 1) l).length + 1 = l.length + 1; rw [ih]
  rw [this]; unfold eL; rw [List.length_map]
 rw [hle] at r l
 rw [List.take_length] at l
 refine ⟨st, a1, r.imp fun n p => ⟨fun z => z.1, fun z => ⟨z, ?_⟩⟩, s, l, ?_⟩
 ·obtain ⟨e, z1, _⟩ := z
  exact (List.getElem?_eq_some_iff.mp z1).1
 ·have e1 : ad_9 (eVar 0) (vsh [.sh (.lst (eL E)), .ow (.dic []), .no, .no, .no]) = .ok (n_2 0 (eL E)) := rfl
  have t1 : h_2 [0] (ad_9 (eVar 0)) (gV2 2 3) i_5 [.sh (.lst (eL E)), .ow (.dic []), .no, .no, .no] = .nx [.sh (.lst (eL E)), a1, a2, a3, a4] := by
   simp only [h_2]
   rw [e1]
   exact e
  have t0 : sSet 1 [] ap_2 (start3 5 [.lst (eL E)]) = .nx [.sh (.lst (eL E)), .ow (.dic []), .no, .no, .no] := rfl
  rcases s with rfl | ⟨rfl, rfl⟩
  ·refine ⟨_, l_6 ?_, .inl ⟨rfl, rfl⟩⟩
   unfold t_4
   rw [b_0 t0, b_0 t1]
   rfl
  ·refine ⟨_, l_6 ?_, .inr ⟨rfl, rfl, rfl⟩⟩
   unfold t_4
   rw [b_0 t0, b_0 t1]
   rfl
theorem cf_1 (st : St1) (n : Nat) {ps : List Nat} {k p : Nat} (h : ps[k]? = some p) : k_9 st n (ps.take (k + 1)) = rpS (k_9 st n (ps.take k)) p (((lkS (k_9 st n (ps.take k)) p).getD []).filter fun m => decide (m ≠ n)) := by
 unfold k_9
 rw [List.take_add_one, h, List.foldl_append]
 rfl
theorem cy_0 (st : St1) (n : Nat) (ps : List Nat) (hp : ∀ p ∈ ps, (lkS st p).isSome = true) : j_9 [.int (n : Int), eT ps] (.dic (stT st)) = some (.dic (stT (k_9 st n ps))) := by
 obtain ⟨Δ', e, a3, rfl⟩ := g_0 (gV 3) t_5 (fun k Δ => ∃ a3, Δ = [.sh (.int (n : Int)), .sh (eT ps), .lt (.dic (stT (k_9 st n (ps.take k)))), a3]) (ds := zi ps) (Δ := [.sh (.int (n : Int)), .sh (eT ps), .lt (.dic (stT st)), .no])
  ⟨_, rfl⟩ (fun k d Δ hd hI => by
   obtain ⟨a3, rfl⟩ := hI
   obtain ⟨p, hk, rfl⟩ := cp_1 hd
   have hs : (lkS (k_9 st n (ps.take k)) p).isSome = true := by
    rw [← lk_mem, z_6, lk_mem]
    exact hp p (List.mem_of_getElem? hk)
   cases e1 : lkS (k_9 st n (ps.take k)) p with
   | none => rw [e1] at hs; cases hs
   | some ns =>
    have kk : ∀ k : Nat, keyD (.int (k : Int)) = some (kp k) := fun _ => rfl
    have e2 : n_3 (stT (k_9 st n (ps.take k))) (kp p) = some (.dic ((inner ns).map fun p => (p.1, Tn.sh p.2))) := by rw [y_4, e1]; rfl
    have e3 := br_8 (inner ns)
    have e5 := af_2 (ns.filter fun m => decide (m ≠ n)) (k_9 st n (ps.take k)) p
    unfold inT at e5
    refine ⟨_, rfl, [.sh (.int (n : Int)), .sh (eT ps), .lt (.dic (stT (k_9 st n (ps.take (k + 1))))), .sh (.int (p : Int))], .inl ?_, _, rfl⟩
    rw [cf_1 st n hk, e1, Option.getD_some]
    simp_arith [t_5, bx_4, evs, Option.bind_some, Sl.tree, df_6, kk, e2, e3, bt_2, e5, Sl.mk])
 rw [s_0, List.take_length] at e
 unfold j_9 bj_2
 have e1 : aj_2 (bb_9 4 [.int (n : Int), eT ps] (.dic (stT st))) = .nx [.sh (.int (n : Int)), .sh (eT ps), .lt (.dic (stT (k_9 st n ps))), a3] := e
 rw [e1]
 rfl
def e_0 (ord : List (Nat × Nat)) : List D := ord.map fun x => .tup [.int (x.1 : Int), .int (x.2 : Int)]
def o_4 (E : List (List Nat)) (T : List Nat) : Nat := (((List.range E.length).filter fun n => decide (n ∉ T)).map fun n => (E.getD n []).length).sum
structure Peel (E : List (List Nat)) (st : St1) (ord : List (Nat × Nat)) : Prop where
 rep : Rep st (fun n p => RE E n p ∧ n ∉ ord.map (·.1))
 nd : (ord.map (·.1)).Nodup
 ok : ∀ x ∈ ord, RE E x.1 x.2
 alone : ∀ x ∈ ord, ∀ m, m ∉ ord.map (·.1) → ¬ RE E m x.2
 pw : ord.Pairwise fun x y => ¬ RE E y.1 x.2
 keys : ∀ n p, RE E n p → (lkS st p).isSome = true
theorem RE.lt {E : List (List Nat)} {n p : Nat} (h : RE E n p) : n < E.length := by
 obtain ⟨e, h1, _⟩ := h
 exact (List.getElem?_eq_some_iff.mp h1).1
theorem Peel.next {E : List (List Nat)} {st : St1} {ord : List (Nat × Nat)} (h : Peel E st ord) {p n : Nat} {ps : List Nat} (hl : lkS st p = some [n]) (he : E[n]? = some ps) : Peel E (k_9 st n ps) (ord ++ [(n, p)]) ∧ n ∉ ord.map (·.1) := by
 obtain ⟨_, h2⟩ := h.rep.at_ p [n] hl
 have hn := (h2 n).mp (by simp)
 have only : ∀ m, RE E m p → m ∉ ord.map (·.1) → m = n := fun m z1 z2 => by
  have := (h2 m).mpr ⟨z1, z2⟩
  simpa using this
 refine ⟨⟨?_, ?_, ?_, ?_, ?_, ?_⟩, hn.2⟩
 ·refine (h.rep.away n ps fun q z => ?_).imp fun m q => ?_
  ·obtain ⟨⟨e, z1, z2⟩, _⟩ := z
   rw [he] at z1
   cases z1
   exact z2
  ·simp only [List.map_append, List.map_cons, List.map_nil, List.mem_append, List.mem_singleton]
   constructor
   ·rintro ⟨⟨z1, z2⟩, z3⟩
    exact ⟨z1, fun z => z.elim z2 z3⟩
   ·rintro ⟨z1, z2⟩
    exact ⟨⟨z1, fun z => z2 (.inl z)⟩, fun z => z2 (.inr z)⟩
 ·rw [List.map_append]
  refine List.nodup_append.mpr ⟨h.nd, by simp, fun a ha b hb => ?_⟩
  have : b = n := by simpa using hb
  rintro rfl
  exact hn.2 (this ▸ ha)
 ·intro x hx
  rcases List.mem_append.mp hx with hx | hx
  ·exact h.ok x hx
  ·have : x = (n, p) := by simpa using hx
   rw [this]; exact hn.1
 ·intro x hx m hm
  have hm' : m ∉ ord.map (·.1) := fun z => hm (by rw [List.map_append]; exact List.mem_append_left _ z)
  rcases List.mem_append.mp hx with hx | hx
  ·exact h.alone x hx m hm'
  ·have : x = (n, p) := by simpa using hx
   subst this
   intro z
   have := only m z hm'
   exact hm (by rw [this]; simp)
 ·refine List.pairwise_append.mpr ⟨h.pw, by simp, fun x hx y hy => ?_⟩
  have : y = (n, p) := by simpa using hy
  subst this
  exact h.alone x hx n hn.2
 ·intro m q z
  rw [← lk_mem, z_6, lk_mem]
  exact h.keys m q z
theorem w_4 {f : Nat → Nat} {n : Nat} : ∀ {l : List Nat} {P Q : Nat → Bool}, l.Nodup → n ∈ l → P n = true → Q n = false → (∀ m, m ≠ n → Q m = P m) → ((l.filter P).map f).sum = ((l.filter Q).map f).sum + f n
 | [], _, _, _, h, _, _, _ => by cases h
 | a :: l, P, Q, nd, h, h1, h2, h3 => by
  rw [List.nodup_cons] at nd
  by_cases ha : a = n
  ·subst ha
   have : l.filter P = l.filter Q := List.filter_congr fun m hm => (h3 m fun z => nd.1 (z ▸ hm)).symm
   rw [List.filter_cons_of_pos h1, List.filter_cons_of_neg (by rw [h2]; decide), this, List.map_cons, List.sum_cons]
   omega
  ·have hm : n ∈ l := by
    rcases List.mem_cons.mp h with z | z
    ·exact absurd z.symm ha
    ·exact z
   have ih := w_4 (f := f) nd.2 hm h1 h2 h3
   have e := h3 a ha
   cases hp : P a with
   | true =>
    rw [List.filter_cons_of_pos hp, List.filter_cons_of_pos (by rw [e]; exact hp), List.map_cons, List.sum_cons, List.map_cons, List.sum_cons, ih]
    omega
   | false => rw [List.filter_cons_of_neg (by rw [hp]; decide), List.filter_cons_of_neg (by rw [e, hp]; decide), ih]
theorem cf_2 {E : List (List Nat)} {T : List Nat} {n : Nat} {ps : List Nat} (he : E[n]? = some ps) (hn : n ∉ T) : o_4 E T = o_4 E (T ++ [n]) + ps.length := by
 have hlt : n < E.length := (List.getElem?_eq_some_iff.mp he).1
 unfold o_4
 rw [w_4 (f := fun n => (E.getD n []).length) (n := n) (Q := fun m => decide (m ∉ T ++ [n])) List.nodup_range (List.mem_range.mpr hlt) (by simpa using hn) (by simp) fun m hm => by simp [hm]]
 simp only [List.getD_eq_getElem?_getD, he, Option.getD_some]
theorem cy_1 (E : List (List Nat)) : o_4 E [] = tot E := by
 unfold o_4 tot
 have : (List.range E.length).filter (fun n => decide (n ∉ ([] : List Nat))) = List.range E.length := by
  rw [List.filter_eq_self]; simp
 rw [this]
 congr 1
 apply List.ext_getElem
 ·simp
 ·intro i h1 h2
  simp only [List.getElem_map, List.getElem_range]
  have hi : i < E.length := by simpa using h2
  rw [List.getD_eq_getElem?_getD, List.getElem?_eq_getElem hi, Option.getD_some]
theorem cp_3 : ∀ {l : List Nat} {x : Nat}, x ∈ l → x ≤ l.sum
 | a :: l, x, h => by
  rw [List.sum_cons]
  rcases List.mem_cons.mp h with z | z
  ·omega
  ·have := cp_3 z; omega
theorem turn {E : List (List Nat)} {st : St1} {ord : List (Nat × Nat)} (h : Peel E st ord) (hE : E.length ≤ 900) (a1 a6 a7 a8 : Sl) {s2 : Sl} (hs : stSl st s2) {w : List Nat} {p : Nat} (hp : (lkS st p).isSome = true) (hW : w.length + tot E ≤ 100000) (ho : ord.length ≤ 900) :
  ∃ st' aj w' s2' a8', Peel E st' aj ∧ stSl st' s2' ∧ (∀ q ∈ w', q ∈ w ∨ ∃ m, RE E m q) ∧ aj.length ≤ ord.length + 1 ∧ w'.length + o_4 E (aj.map (·.1)) = w.length + o_4 E (ord.map (·.1)) ∧ st'.map (·.1) = st.map (·.1) ∧ ((∀ q m, lkS st q = some [m] → q ∈ w ++ [p]) → ∀ q m, lkS st' q = some [m] → q ∈ w') ∧
   o_2 [.sh (.lst (eL E)), a1, s2, .ow (.lst (zi (w ++ [p]))), .ow (.lst (e_0 ord)), .ow (.dic (inner (ord.map (·.1)))), a6, a7, a8] = .nx [.sh (.lst (eL E)), a1, s2', .ow (.lst (zi w')), .ow (.lst (e_0 aj)), .ow (.dic (inner (aj.map (·.1)))), a6, .sh (.int (p : Int)), a8'] := by
 have kk : ∀ k : Nat, keyD (.int (k : Int)) = some (kp k) := fun _ => rfl
 have z1 : (zi (w ++ [p]))[(zi (w ++ [p])).length - 1]? = some (.int (p : Int)) := by
  rw [s_0]; unfold zi; rw [List.getElem?_map, List.length_append]; simp
 have z2 : (zi (w ++ [p])).dropLast = zi w := by unfold zi; rw [List.map_append]; simp
 have t1 : bj_0 7 3 [.sh (.lst (eL E)), a1, s2, .ow (.lst (zi (w ++ [p]))), .ow (.lst (e_0 ord)), .ow (.dic (inner (ord.map (·.1)))), a6, a7, a8] = .nx [.sh (.lst (eL E)), a1, s2, .ow (.lst (zi w)), .ow (.lst (e_0 ord)), .ow (.dic (inner (ord.map (·.1)))), a6, .sh (.int (p : Int)), a8] := by
  simp only [bj_0, List.getElem?_cons_succ, List.getElem?_cons_zero, z1, z2, List.set_cons_succ, List.set_cons_zero]
 cases e : lkS st p with
 | none => rw [e] at hp; cases hp
 | some ns =>
  have g1 : getK (.dic (Tn.ks (stT st))) (.int (p : Int)) = .ok (.sh (.dic (inner ns))) := by
   simp only [getK, kk, be_0, e, Option.map_some]
  have g2 : lenK [.dic (inner ns)] = .ok (.sh (.int (ns.length : Int))) := by simp only [lenK, ah_8]
  have an := hs.any
  by_cases hl : (ns.length : Int) = 1
  ·obtain ⟨n, rfl⟩ := List.length_eq_one_iff.mp (show ns.length = 1 by omega)
   obtain ⟨⟨ps, he, hpp⟩, _⟩ := ((h.rep.at_ p [n] e).2 n).mp (by simp)
   obtain ⟨h', hn⟩ := h.next e he
   have m1 : minK [.dic (inner [n])] = .ok (.sh (.int (n : Int))) := rfl
   have hT := cy_0 st n ps fun q hq => h.keys n q ⟨ps, he, hq⟩
   have hI : ixD (.lst (eL E)) (.int (n : Int)) = .ok (.sh (eT ps)) := ab_8 (ay_0 (da_1 he))
   have eh : putA (inner (ord.map (·.1))) (kp n) (.bl true) = inner ((ord ++ [(n, p)]).map (·.1)) := by
    rw [ay_3, if_neg hn, List.map_append]; rfl
   have hlo : (e_0 ord).length < 16777216 := by unfold e_0; rw [List.length_map]; omega
   have hli : (inner (ord.map (·.1))).length < 16777216 := by rw [ah_8, List.length_map]; omega
   have hps : ps.length ≤ tot E := by
    unfold tot
    have hm : ps.length ∈ E.map List.length := List.mem_map.mpr ⟨ps, List.mem_of_getElem? he, rfl⟩
    exact cp_3 hm
   have hlw : (zi w).length + (zi ps).length ≤ 16777216 := by rw [s_0, s_0]; omega
   refine ⟨k_9 st n ps, ord ++ [(n, p)], w ++ ps, .tr (.dic (stT (k_9 st n ps))), .sh (.int (n : Int)), h', .inl rfl, fun q hq => ?_, by simp, ?_, z_6 n ps st, fun hc q m eq => ?_, ?_⟩
   ·rcases List.mem_append.mp hq with z | z
    ·exact .inl z
    ·exact .inr ⟨n, ps, he, z⟩
   ·rw [List.length_append, cf_2 he hn, List.map_append]
    show w.length + ps.length + o_4 E (ord.map (·.1) ++ [n]) = _
    omega
   ·rw [an_1] at eq
    by_cases hq : q ∈ ps
    ·exact List.mem_append_right _ hq
    ·rw [if_neg hq] at eq
     rcases List.mem_append.mp (hc q m eq) with z | z
     ·exact List.mem_append_left _ z
     ·have : q = p := by simpa using z
      subst this
      exact absurd hpp hq
   ·unfold o_2
    rw [b_0 t1]
    have hz : zi w ++ zi ps = zi (w ++ ps) := by unfold zi; rw [List.map_append]
    have ho2 : e_0 ord ++ [.tup [.int (n : Int), .int (p : Int)]] = e_0 (ord ++ [(n, p)]) := by unfold e_0; rw [List.map_append]; rfl
    have ht := hs.tree
    have u1 : sSet 8 [2, 7] (eCall minK (aCons (eOp getK (eVar 2) (eVar 7)) aNil)) [.sh (.lst (eL E)), a1, s2, .ow (.lst (zi w)), .ow (.lst (e_0 ord)), .ow (.dic (inner (ord.map (·.1)))), a6, .sh (.int (p : Int)), a8] = .nx [.sh (.lst (eL E)), a1, s2, .ow (.lst (zi w)), .ow (.lst (e_0 ord)), .ow (.dic (inner (ord.map (·.1)))), a6, .sh (.int (p : Int)), .sh (.int (n : Int))] := by
     have v1 : eCall minK (aCons (eOp getK (eVar 2) (eVar 7)) aNil) (vsh [.sh (.lst (eL E)), a1, s2, .ow (.lst (zi w)), .ow (.lst (e_0 ord)), .ow (.dic (inner (ord.map (·.1)))), a6, .sh (.int (p : Int)), a8]) = .no := by
      rcases hs with rfl | ⟨_, rfl⟩ <;> rfl
     have v2 : eCall minK (aCons (eOp getK (eVar 2) (eVar 7)) aNil) (vall [.sh (.lst (eL E)), a1, s2, .ow (.lst (zi w)), .ow (.lst (e_0 ord)), .ow (.dic (inner (ord.map (·.1)))), a6, .sh (.int (p : Int)), a8]) = .ok (.sh (.int (n : Int))) := by
      simp_arith [evs, an, g1, m1]
     unfold sSet
     rw [v1, v2]
     rfl
    have u5 : ap_5 2 j_9 (eVar 8) (eOp ixD (eVar 0) (eVar 8)) [.sh (.lst (eL E)), a1, s2, .ow (.lst (zi w)), .ow (.lst (e_0 (ord ++ [(n, p)]))), .ow (.dic (inner ((ord ++ [(n, p)]).map (·.1)))), a6, .sh (.int (p : Int)), .sh (.int (n : Int))] = .nx [.sh (.lst (eL E)), a1, .tr (.dic (stT (k_9 st n ps))), .ow (.lst (zi w)), .ow (.lst (e_0 (ord ++ [(n, p)]))), .ow (.dic (inner ((ord ++ [(n, p)]).map (·.1)))), a6, .sh (.int (p : Int)), .sh (.int (n : Int))] := by
     simp_arith [ap_5, evs, Option.bind_some, ht, hI, hT, Sl.mk]
    have test : eTest (eOp eqD (eCall lenK (aCons (eOp getK (eVar 2) (eVar 7)) aNil)) (eC (.int 1))) (vall [.sh (.lst (eL E)), a1, s2, .ow (.lst (zi w)), .ow (.lst (e_0 ord)), .ow (.dic (inner (ord.map (·.1)))), a6, .sh (.int (p : Int)), a8]) = .ok true := by
     have g3 : lenK [.dic (inner [n])] = .ok (.sh (.int 1)) := rfl
     simp_arith [evs, an, g1, g3, d_9]
    unfold sIf
    rw [test]
    show sSeq _ _ _ = _
    rw [b_0 u1]
    have u2 : ∀ g : FS, sSeq (sApp 4 (eTup (aCons (eVar 8) (aCons (eVar 7) aNil)))) g [.sh (.lst (eL E)), a1, s2, .ow (.lst (zi w)), .ow (.lst (e_0 ord)), .ow (.dic (inner (ord.map (·.1)))), a6, .sh (.int (p : Int)), .sh (.int (n : Int))] = g [.sh (.lst (eL E)), a1, s2, .ow (.lst (zi w)), .ow (.lst (e_0 (ord ++ [(n, p)]))), .ow (.dic (inner (ord.map (·.1)))), a6, .sh (.int (p : Int)), .sh (.int (n : Int))] := fun g => b_0 (by simp_arith [sApp, evs, hlo, ho2])
    have u3 : ∀ g : FS, sSeq (ae_1 5 [] (eVar 8) (eC (.bl true))) g [.sh (.lst (eL E)), a1, s2, .ow (.lst (zi w)), .ow (.lst (e_0 (ord ++ [(n, p)]))), .ow (.dic (inner (ord.map (·.1)))), a6, .sh (.int (p : Int)), .sh (.int (n : Int))] = g [.sh (.lst (eL E)), a1, s2, .ow (.lst (zi w)), .ow (.lst (e_0 (ord ++ [(n, p)]))), .ow (.dic (inner ((ord ++ [(n, p)]).map (·.1)))), a6, .sh (.int (p : Int)), .sh (.int (n : Int))] := fun g => b_0 (by simp_arith [ae_1, evs, kk, hli, eh])
    rw [u2, u3, b_0 u5]
    simp_arith [sExt, evs, hI, eT, hlw, hz]
  ·refine ⟨st, ord, w, s2, a8, h, hs, fun q hq => .inl hq, by omega, rfl, rfl, fun hc q m eq => ?_, ?_⟩
   ·rcases List.mem_append.mp (hc q m eq) with z | z
    ·exact z
    ·have : q = p := by simpa using z
     subst this
     rw [e] at eq
     cases eq
     exact absurd rfl hl
   unfold o_2
   rw [b_0 t1]
   have test : eTest (eOp eqD (eCall lenK (aCons (eOp getK (eVar 2) (eVar 7)) aNil)) (eC (.int 1))) (vall [.sh (.lst (eL E)), a1, s2, .ow (.lst (zi w)), .ow (.lst (e_0 ord)), .ow (.dic (inner (ord.map (·.1)))), a6, .sh (.int (p : Int)), a8]) = .ok false := by
    simp_arith [evs, an, g1, g2, d_9, hl]
   unfold sIf
   rw [test]
   rfl
theorem cf_3 (E : List (List Nat)) (hE : E.length ≤ 900) (hT : tot E ≤ 900) (a1 a6 : Sl) : ∀ (k : Nat) (st : St1) (ord : List (Nat × Nat)) (w : List Nat) (s2 a7 a8 : Sl) (fuel : Nat), Peel E st ord → stSl st s2 → (∀ q ∈ w, (lkS st q).isSome = true) → w.length + o_4 E (ord.map (·.1)) = k → k < fuel → k ≤ 1800 → (∀ q m, lkS st q = some [m] → q ∈ w) →
  ∃ st' aj s2' a7' a8', Peel E st' aj ∧ stSl st' s2' ∧ (∀ q m, lkS st' q ≠ some [m]) ∧
   j_5 [3] v_7 o_2 fuel [.sh (.lst (eL E)), a1, s2, .ow (.lst (zi w)), .ow (.lst (e_0 ord)), .ow (.dic (inner (ord.map (·.1)))), a6, a7, a8] = .nx [.sh (.lst (eL E)), a1, s2', .ow (.lst []), .ow (.lst (e_0 aj)), .ow (.dic (inner (aj.map (·.1)))), a6, a7', a8'] := by
 intro k
 induction k with
 | zero =>
  intro st ord w s2 a7 a8 fuel h hs hw hk hf _ hc
  have hw0 : w = [] := List.eq_nil_of_length_eq_zero (by omega)
  subst hw0
  obtain ⟨f, rfl⟩ : ∃ f, fuel = f + 1 := ⟨fuel - 1, by omega⟩
  refine ⟨st, ord, s2, a7, a8, h, hs, fun q m eq => ?_, ax_4 ?_⟩
  ·have := hc q m eq; simp at this
  ·rcases hs with rfl | ⟨_, rfl⟩ <;> rfl
 | succ k ih =>
  intro st ord w s2 a7 a8 fuel h hs hw hk hf hb hc
  obtain ⟨f, rfl⟩ : ∃ f, fuel = f + 1 := ⟨fuel - 1, by omega⟩
  rcases List.eq_nil_or_concat w with rfl | ⟨w0, p, rfl⟩
  ·refine ⟨st, ord, s2, a7, a8, h, hs, fun q m eq => ?_, ax_4 ?_⟩
   ·have := hc q m eq; simp at this
   ·rcases hs with rfl | ⟨_, rfl⟩ <;> rfl
  ·have ho : ord.length ≤ 900 := by
    have := few h.nd (n := E.length) fun x hx => by
     obtain ⟨y, hy, rfl⟩ := List.mem_map.mp hx
     exact (h.ok y hy).lt
    rw [List.length_map] at this
    omega
   rw [List.concat_eq_append] at *
   obtain ⟨st', aj, w', s2', a8', h', hs', hw', _, hm', hk', hc', e⟩ := turn h hE a1 a6 a7 a8 hs (w := w0) (p := p) (hw p (by simp)) (by rw [List.length_append] at hk; simp at hk; omega) ho
   have cq : ∀ q, (lkS st q).isSome = true → (lkS st' q).isSome = true := fun q z => by
    rw [← lk_mem, hk', lk_mem]; exact z
   obtain ⟨st2, gk, s3, a7', fw, h2, hs2, hc2, e2⟩ := ih st' aj w' s2' (.sh (.int (p : Int))) a8' f h' hs' (fun q hq => by
    rcases hw' q hq with z | ⟨m, z⟩
    ·exact cq q (hw q (by simp [z]))
    ·exact h'.keys m q z) (by rw [hm']; rw [List.length_append] at hk; simp at hk; omega) (by omega) (by omega) (hc' hc)
   refine ⟨st2, gk, s3, a7', fw, h2, hs2, hc2, ?_⟩
   rw [cm_2 (Δ' := [.sh (.lst (eL E)), a1, s2', .ow (.lst (zi w')), .ow (.lst (e_0 aj)), .ow (.dic (inner (aj.map (·.1)))), a6, .sh (.int (p : Int)), a8']) ?_ e]
   ·exact e2
   ·have hz : (0 : Int) < ((zi (w0 ++ [p])).length : Int) := by rw [s_0, List.length_append]; simp
    simp_arith [v_7, evs, bs_4, n_5, bx_8, hz]
def u_7 (E : List (List Nat)) (ord : List (Nat × Nat)) : List Nat := (List.range E.length).filter fun n => decide (n ∉ ord.map (·.1))
theorem ay_4 (n : Nat) : g_8 0 n = zi (List.range n) := by
 unfold g_8 zi
 apply List.map_congr_left
 intro k _
 rw [Int.zero_add]
theorem cf_4 (E : List (List Nat)) (size : Int) (hE : E.length ≤ 900) (hT : tot E ≤ 900) : ∃ (st : St1) (ord : List (Nat × Nat)), Peel E st ord ∧ (∀ q m, lkS st q ≠ some [m]) ∧
  ae_5 [.lst (eL E), .int size] = .ok (.tr (.tup [Tn.of (.lst (e_0 ord)), Tn.of (.lst (zi (u_7 E ord)))])) := by
 obtain ⟨st, s2, r, hs, hl, w, ew, hw⟩ := cf_0 E hE hT
 have P0 : Peel E st [] := ⟨r.imp fun n p => by simp, by simp, fun x h => by simp at h, fun x h => by simp at h, by simp, fun n p z => r.all n p z⟩
 have ck : (Tn.ks (stT st)).map (fun p => kD p.1) = zi (st.map (·.1)) := by
  rw [bt_1, List.map_map]
  unfold zi
  rw [List.map_map]
  rfl
 obtain ⟨st', ord, s2', a7, a8, h', hs', hc', e⟩ := cf_3 E hE hT (.sh (.int size)) .no (st.length + tot E) st [] (st.map (·.1)) s2 .no .no 3000 P0 hs (fun q hq => lk_mem.mp hq) (by rw [List.length_map, List.map_nil, cy_1]) (by omega) (by omega) (fun q m eq => lk_mem.mpr (by rw [eq]; rfl))
 refine ⟨st', ord, h', hc', ?_⟩
 have t2 : bj_1 3 (eCall bx_6 (aCons (eVar 2) aNil)) [.sh (.lst (eL E)), .sh (.int size), s2, .no, .no, .no, .no, .no, .no] = .nx [.sh (.lst (eL E)), .sh (.int size), s2, .ow (.lst (zi (st.map (·.1)))), .no, .no, .no, .no, .no] := by
  have hf : (zi (st.map (·.1))).all flatD = true := by
   unfold zi; rw [List.all_map, List.all_eq_true]; intro x _; rfl
  simp_arith [bj_1, evs, hs.any, bx_6, ck, hf]
 have ef : ∀ b2 b3 b4 b7 b8 : Option D, c_6 1 (iArgs p_4 (aCons (eCall p_3 (aCons (eVar 0) aNil)) aNil)) (gC 9) i_0 (eVar 9) [some (.lst (eL E)), some (.int size), b2, b3, b4, some (.dic (inner (ord.map (·.1)))), none, b7, b8] = .ok (.ow (.lst (zi (u_7 E ord)))) := fun b2 b3 b4 b7 b8 => by
  have hr : iArgs p_4 (aCons (eCall p_3 (aCons (eVar 0) aNil)) aNil) [some (.lst (eL E)), some (.int size), b2, b3, b4, some (.dic (inner (ord.map (·.1)))), none, b7, b8] = .ok (zi (List.range E.length)) := by
   have zm : (eL E).length = E.length := by unfold eL; rw [List.length_map]
   simp_arith [evs, n_5, zm, o_7 (show -4611686018427387903 ≤ (E.length : Int) by omega) (by omega), Int.toNat_natCast, ay_4]
  refine i_2 (m := 1) hr (by rw [s_0, List.length_range]; omega) ?_
  have hc := q_6 (fg := gC 9) (p := i_0) (f := eVar 9) (δ := [some (.lst (eL E)), some (.int size), b2, b3, b4, some (.dic (inner (ord.map (·.1)))), none, b7, b8, none]) (fun d => match d with | .int i => decide (i.toNat ∉ ord.map (·.1)) | _ => false) (fun d => d) (zi (List.range E.length)) (fun d hd => by
   obtain ⟨n, hn, rfl⟩ := List.mem_map.mp hd
   refine ⟨[some (.lst (eL E)), some (.int size), b2, b3, b4, some (.dic (inner (ord.map (·.1)))), none, b7, b8, some (.int (n : Int))], rfl, ?_, fun _ => ⟨.sh (.int (n : Int)), rfl, rfl⟩⟩
   have hk : keyD (.int (n : Int)) = some (kp n) := rfl
   simp_arith [i_0, evs, inK, hk, ar_3, Int.toNat_natCast]
   by_cases h : n ∈ ord.map (·.1)
   ·simp only [h, decide_true, Bool.not_true, not_true, decide_false]
   ·simp only [h, decide_false, Bool.not_false, not_false_eq_true, decide_true])
  rw [List.map_id'] at hc
  show j_2 _ _ _ _ _ = _
  refine hc.trans ?_
  unfold zi u_7
  rw [List.filter_map]
  congr 1
 obtain ⟨a5, t6⟩ : ∃ a5, sSet 6 [0, 5] (c_6 1 (iArgs p_4 (aCons (eCall p_3 (aCons (eVar 0) aNil)) aNil)) (gC 9) i_0 (eVar 9)) [.sh (.lst (eL E)), .sh (.int size), s2', .ow (.lst []), .ow (.lst (e_0 ord)), .ow (.dic (inner (ord.map (·.1)))), .no, a7, a8] = .nx [.sh (.lst (eL E)), .sh (.int size), s2', .ow (.lst []), .ow (.lst (e_0 ord)), a5, .ow (.lst (zi (u_7 E ord))), a7, a8] := by
  cases hn : E.length with
  | zero =>
   have e0 : E = [] := List.eq_nil_of_length_eq_zero hn
   subst e0
   refine ⟨.ow (.dic (inner (ord.map (·.1)))), ?_⟩
   have v1 : c_6 1 (iArgs p_4 (aCons (eCall p_3 (aCons (eVar 0) aNil)) aNil)) (gC 9) i_0 (eVar 9) (vsh [.sh (.lst (eL [])), .sh (.int size), s2', .ow (.lst []), .ow (.lst (e_0 ord)), .ow (.dic (inner (ord.map (·.1)))), .no, a7, a8]) = .ok (.ow (.lst [])) := rfl
   unfold sSet
   rw [v1]
   rfl
  | succ n =>
   refine ⟨.sh (.dic (inner (ord.map (·.1)))), ?_⟩
   have v1 : c_6 1 (iArgs p_4 (aCons (eCall p_3 (aCons (eVar 0) aNil)) aNil)) (gC 9) i_0 (eVar 9) (vsh [.sh (.lst (eL E)), .sh (.int size), s2', .ow (.lst []), .ow (.lst (e_0 ord)), .ow (.dic (inner (ord.map (·.1)))), .no, a7, a8]) = .no := by
    have hr : iArgs p_4 (aCons (eCall p_3 (aCons (eVar 0) aNil)) aNil) (vsh [.sh (.lst (eL E)), .sh (.int size), s2', .ow (.lst []), .ow (.lst (e_0 ord)), .ow (.dic (inner (ord.map (·.1)))), .no, a7, a8]) = .ok (zi (List.range (n + 1))) := by
     have zm : (eL E).length = n + 1 := by unfold eL; rw [List.length_map, hn]
     simp_arith [evs, n_5, zm, o_7 (show -4611686018427387903 ≤ ((n + 1 : Nat) : Int) by omega) (by omega), Int.toNat_natCast, ay_4]
    have hz : zi (List.range (n + 1)) = .int 0 :: zi ((List.range n).map Nat.succ) := by rw [List.range_succ_eq_map]; rfl
    unfold c_6
    rw [hr, R.bind_ok, if_pos (by rw [s_0, List.length_range]; omega), hz]
    rfl
   have v2 := ef (Sl.any s2') (some (.lst [])) (some (.lst (e_0 ord))) (Sl.any a7) (Sl.any a8)
   have v3 := ef (Sl.pub s2') none none (Sl.pub a7) (Sl.pub a8)
   unfold sSet
   rw [v1]
   have v2' : c_6 1 (iArgs p_4 (aCons (eCall p_3 (aCons (eVar 0) aNil)) aNil)) (gC 9) i_0 (eVar 9) (vall [.sh (.lst (eL E)), .sh (.int size), s2', .ow (.lst []), .ow (.lst (e_0 ord)), .ow (.dic (inner (ord.map (·.1)))), .no, a7, a8]) = .ok (.ow (.lst (zi (u_7 E ord)))) := v2
   have g1 : gsome [0, 5] [.sh (.lst (eL E)), .sh (.int size), s2', .ow (.lst []), .ow (.lst (e_0 ord)), .ow (.dic (inner (ord.map (·.1)))), .no, a7, a8] = [.sh (.lst (eL E)), .sh (.int size), s2', .ow (.lst []), .ow (.lst (e_0 ord)), .sh (.dic (inner (ord.map (·.1)))), .no, a7, a8] := rfl
   have v3' : c_6 1 (iArgs p_4 (aCons (eCall p_3 (aCons (eVar 0) aNil)) aNil)) (gC 9) i_0 (eVar 9) (vsh [.sh (.lst (eL E)), .sh (.int size), s2', .ow (.lst []), .ow (.lst (e_0 ord)), .sh (.dic (inner (ord.map (·.1)))), .no, a7, a8]) = .ok (.ow (.lst (zi (u_7 E ord)))) := v3
   simp only [v2', W.d_ow, flatD, Bool.false_eq_true, if_false, g1, v3', sPut, List.set_cons_succ, List.set_cons_zero]
 refine l_6 ?_
 unfold bl_7
 refine (b_0 (Δ' := [.sh (.lst (eL E)), .sh (.int size), s2, .no, .no, .no, .no, .no, .no]) (by
  rcases hw with ⟨rfl, rfl⟩ | ⟨_, rfl, rfl⟩
  ·simp_arith [evs, ew]
  ·simp_arith [evs, ew])).trans ?_
 rw [b_0 t2]
 refine (b_0 (Δ' := [.sh (.lst (eL E)), .sh (.int size), s2, .ow (.lst (zi (st.map (·.1)))), .ow (.lst []), .no, .no, .no, .no]) rfl).trans ?_
 refine (b_0 (Δ' := [.sh (.lst (eL E)), .sh (.int size), s2, .ow (.lst (zi (st.map (·.1)))), .ow (.lst []), .ow (.dic []), .no, .no, .no]) rfl).trans ?_
 have e' : j_5 [3] v_7 o_2 3000 [.sh (.lst (eL E)), .sh (.int size), s2, .ow (.lst (zi (st.map (·.1)))), .ow (.lst []), .ow (.dic []), .no, .no, .no] = _ := e
 rw [b_0 e', b_0 t6]
 rfl
theorem ak_1 (p n : Nat) : o_3 [.int (p : Int), .int (n : Int)] = .ok (.sh (.bl (decide (p < n)))) := by
 simp_arith [o_3, aq_8, evs, af_8, cm_0, ax_3, show (0 : Int) ≤ (p : Int) by omega]
 rw [show decide ((p : Int) < (n : Int)) = decide (p < n) by simp]
theorem af_3 (z m : Int) (h : 0 < m) : m_6 [.int z, .int m] = .ok (.sh (.int (z % m))) := by
 simp_arith [m_6, aj_3, evs, d_9, show ¬ m = 0 by omega, c_5 h]
def at0 (ts : List Int) (p : Nat) : Int := ts.getD p 0
def h_9 (ts : List Int) (ps : List Nat) : Int := (ps.map (at0 ts)).sum
theorem cp_4 {ts : List Int} {p : Nat} (h : p < ts.length) : atI (ts.map D.int) (p : Int) = some (.int (at0 ts p)) := by
 refine ay_0 ?_
 rw [List.getElem?_map]
 simp [at0, List.getD, h]
theorem cy_2 (ts : List Int) (a1 a2 a3 : Option D) (ps : List Nat) (h : ∀ p ∈ ps, p < ts.length) :
  j_2 (gC 4) r_6 r_5 [some (.lst (ts.map .int)), a1, a2, a3, none] (zi ps) = .ok ((ps.map fun p => D.int (at0 ts p))) := by
 have := q_6 (fg := gC 4) (p := r_6) (f := r_5) (δ := [some (.lst (ts.map .int)), a1, a2, a3, none]) (fun _ => true) (fun d => match d with | .int i => .int (at0 ts i.toNat) | d => d) (zi ps) fun d hd => by
  obtain ⟨p, hp, rfl⟩ := List.mem_map.mp hd
  have hl := h p hp
  refine ⟨[some (.lst (ts.map .int)), a1, a2, a3, some (.int (p : Int))], rfl, ?_, fun _ => ⟨.sh (.int (at0 ts p)), ?_, by simp⟩⟩
  ·simp_arith [r_6, evs, n_5, List.length_map, ak_1, hl]
  ·simp_arith [r_5, evs, ab_8 (cp_4 hl)]
 rw [this, List.filter_eq_self.mpr fun _ _ => rfl]
 congr 1
 unfold zi
 rw [List.map_map]
 refine List.map_congr_left fun p _ => ?_
 simp
theorem ay_5 (ts : List Int) (ps : List Nat) (m : Int) (hm : 0 < m) (h : ∀ p ∈ ps, p < ts.length) (hl : ps.length ≤ 1000) : k_0 [.lst (ts.map .int), .tup (zi ps), .int m] = .ok (.sh (.int (h_9 ts ps % m))) := by
 have ec := i_2 (m := 1) (fi := iOf (eVar 1)) (fg := gC 4) (p := r_6) (f := r_5) (δ := [some (.lst (ts.map .int)), some (.tup (zi ps)), some (.int m), none]) (ds := zi ps) (by simp_arith [evs]) (by unfold zi; rw [List.length_map]; omega) (cy_2 ts _ _ _ ps h)
 simp_arith [k_0, bl_8, evs, ec, co_0, af_3 _ m hm]
 rfl
theorem z_7 (l : List Int) (i p : Nat) (v : Int) : at0 (l.set i v) p = if p = i ∧ i < l.length then v else at0 l p := by
 unfold at0
 rw [List.getD_eq_getElem?_getD, List.getElem?_set]
 by_cases h : i = p
 ·subst h
  by_cases h2 : i < l.length
  ·simp [h2]
  ·simp [h2, List.getD]
 ·have : ¬ p = i := fun z => h z.symm
  simp [h, this]
theorem ak_2 {ts us : List Int} : ∀ {ps : List Nat}, (∀ p ∈ ps, at0 ts p = at0 us p) → h_9 ts ps = h_9 us ps := by
 intro ps h
 unfold h_9
 rw [List.map_congr_left h]
theorem cp_5 (S w m : Int) (h0 : 0 ≤ w) (h1 : w < m) : (S + (w - S % m) % m) % m = w := by
 have e : (S + (w - S % m) % m) % m = (S + (w - S % m)) % m := by
  rw [Int.add_emod, Int.emod_emod_of_dvd _ (Int.dvd_refl m), ← Int.add_emod]
 rw [e]
 have h2 := Int.mul_ediv_add_emod S m
 have e2 : S + (w - S % m) = w + m * (S / m) := by omega
 rw [e2, Int.add_mul_emod_self_left]
 exact Int.emod_eq_of_lt h0 h1
def s_8 (E : List (List Nat)) (w : List Int) (m : Int) (ts : List Int) (x : Nat × Nat) : List Int := ts.set x.2 ((w.getD x.1 0 - h_9 ts (E.getD x.1 []) % m) % m)
def f_3 (E : List (List Nat)) (w : List Int) (m : Int) (size : Nat) (L : List (Nat × Nat)) : List Int := L.foldl (s_8 E w m) (List.replicate size 0)
theorem ah_9 (E : List (List Nat)) (w : List Int) (m : Int) (size : Nat) (L : List (Nat × Nat)) : (f_3 E w m size L).length = size := by
 unfold f_3
 have : ∀ (L : List (Nat × Nat)) (ts : List Int), (L.foldl (s_8 E w m) ts).length = ts.length := fun L => by
  induction L with
  | nil => intro ts; rfl
  | cons x L ih => intro ts; show (L.foldl (s_8 E w m) (s_8 E w m ts x)).length = _; rw [ih]; unfold s_8; rw [List.length_set]
 rw [this, List.length_replicate]
theorem ar_4 (E : List (List Nat)) (w : List Int) (m : Int) (size : Nat) (L : List (Nat × Nat)) (x : Nat × Nat) : f_3 E w m size (L ++ [x]) = s_8 E w m (f_3 E w m size L) x := by
 unfold f_3; rw [List.foldl_append]; rfl
theorem cp_6 {ord : List (Nat × Nat)} {i : Nat} {d : D} (h : (e_0 ord)[i]? = some d) : ∃ x, ord[i]? = some x ∧ d = .tup [.int (x.1 : Int), .int (x.2 : Int)] := by
 unfold e_0 at h
 rw [List.getElem?_map] at h
 obtain ⟨x, e1, e2⟩ := Option.map_eq_some_iff.mp h
 exact ⟨x, e1, e2.symm⟩
theorem bt_6 (E : List (List Nat)) (w : List Int) (m : Int) (size : Nat) (ord : List (Nat × Nat)) (hm : 0 < m) (hz : size ≤ 100000) (ho : ∀ x ∈ ord, ∃ ps, E[x.1]? = some ps ∧ (∀ p ∈ ps, p < size) ∧ ps.length ≤ 1000 ∧ x.2 < size ∧ x.1 < w.length) :
  x_8 [.lst (eL E), .int (size : Int), .lst (e_0 ord), .lst (w.map .int), .int m] = .ok (.ow (.lst ((f_3 E w m size ord.reverse).map .int))) := by
 have dh : (e_0 ord).reverse = e_0 ord.reverse := by unfold e_0; rw [List.map_reverse]
 obtain ⟨Δ', e, a6, a7, a8, rfl⟩ := g_0 (gV2 6 7) ac_1 (fun k Δ => ∃ a6 a7 a8, Δ = [.sh (.lst (eL E)), .sh (.int (size : Int)), .sh (.lst (e_0 ord)), .sh (.lst (w.map .int)), .sh (.int m), .ow (.lst ((f_3 E w m size (ord.reverse.take k)).map .int)), a6, a7, a8]) (ds := (e_0 ord).reverse)
  (Δ := [.sh (.lst (eL E)), .sh (.int (size : Int)), .sh (.lst (e_0 ord)), .sh (.lst (w.map .int)), .sh (.int m), .ow (.lst ((f_3 E w m size []).map .int)), .no, .no, .no]) ⟨_, _, _, rfl⟩ (fun k d Δ hk hI => by
   obtain ⟨a6, a7, a8, rfl⟩ := hI
   rw [dh] at hk
   obtain ⟨⟨n, p⟩, hx, rfl⟩ := cp_6 hk
   obtain ⟨ps, he, hp1, hp2, hp3, hw⟩ := ho (n, p) (List.mem_reverse.mp (List.mem_of_getElem? hx))
   simp only at he hp3 hw
   have hl := ah_9 E w m size (ord.reverse.take k)
   have hs := ay_5 (f_3 E w m size (ord.reverse.take k)) ps m hm (fun q hq => by rw [hl]; exact hp1 q hq) hp2
   have hxn := da_0 (n := ((f_3 E w m size (ord.reverse.take k)).map D.int).length) (i := p) (by rw [List.length_map, hl]; exact hp3)
   have hI : ixD (.lst (eL E)) (.int (n : Int)) = .ok (.sh (eT ps)) := ab_8 (ay_0 (da_1 he))
   have hW : ixD (.lst (w.map .int)) (.int (n : Int)) = .ok (.sh (.int (w.getD n 0))) := ab_8 (ay_0 (by rw [List.getElem?_map, List.getElem?_eq_getElem hw, List.getD_eq_getElem?_getD, List.getElem?_eq_getElem hw]; rfl))
   have hs' : k_0 [.lst ((f_3 E w m size (ord.reverse.take k)).map .int), eT ps, .int m] = .ok (.sh (.int (h_9 (f_3 E w m size (ord.reverse.take k)) ps % m))) := hs
   refine ⟨_, rfl, [.sh (.lst (eL E)), .sh (.int (size : Int)), .sh (.lst (e_0 ord)), .sh (.lst (w.map .int)), .sh (.int m), .ow (.lst ((f_3 E w m size (ord.reverse.take (k + 1))).map .int)), .sh (.int (n : Int)), .sh (.int (p : Int)), .sh (.int (w.getD n 0 - h_9 (f_3 E w m size (ord.reverse.take k)) ps % m))], .inl ?_, _, _, _, rfl⟩
   have hsn : f_3 E w m size (ord.reverse.take (k + 1)) = (f_3 E w m size (ord.reverse.take k)).set p ((w.getD n 0 - h_9 (f_3 E w m size (ord.reverse.take k)) ps % m) % m) := by
    rw [List.take_add_one, hx]
    show f_3 E w m size (ord.reverse.take k ++ [(n, p)]) = _
    rw [ar_4]
    unfold s_8
    simp only [List.getD_eq_getElem?_getD, he, Option.getD_some]
   rw [hsn]
   simp_arith [ac_1, evs, gV2, hI, hW, hs', n_4, ak_1, hp3, bx_0, af_3 _ m hm, hxn]
   rw [List.map_set])
 have e0 : (List.replicate (size : Int).toNat [D.int 0]).flatten = (f_3 E w m size []).map .int := by
  unfold f_3
  rw [List.foldl_nil, List.map_replicate, Int.toNat_natCast]
  generalize size = n
  induction n with
  | zero => rfl
  | succ n ih => rw [List.replicate_succ, List.flatten_cons, ih, List.replicate_succ]; rfl
 have hr : repD [D.int 0] (.int (size : Int)) = .ok (.ow (.lst ((f_3 E w m size []).map .int))) := by
  unfold repD
  simp only [List.length_cons, List.length_nil]
  rw [if_pos ⟨by omega, by omega⟩, e0]
 have hle : (e_0 ord).reverse.length = ord.reverse.length := by rw [dh]; unfold e_0; rw [List.length_map]
 rw [hle, List.take_length] at e
 have er : iRev (eVar 2) (vsh [.sh (.lst (eL E)), .sh (.int (size : Int)), .sh (.lst (e_0 ord)), .sh (.lst (w.map .int)), .sh (.int m), .ow (.lst ((f_3 E w m size []).map .int)), .no, .no, .no]) = .ok (e_0 ord).reverse := by
  simp_arith [iRev, cz_5, evs]
 simp only [vsh, List.map_cons, List.map_nil, bs_3, cm_3, cm_4] at er
 simp_arith [x_8, bl_9, evs, eRep, hr, h_2, er, e]
theorem cp_7 (E : List (List Nat)) (w : List Int) {m : Int} (hm : 0 < m) (size : Nat) (L : List (Nat × Nat)) (p : Nat) : 0 ≤ at0 (f_3 E w m size L) p ∧ at0 (f_3 E w m size L) p < m := by
 unfold f_3
 have : ∀ (L : List (Nat × Nat)) (ts : List Int), (∀ p, 0 ≤ at0 ts p ∧ at0 ts p < m) → ∀ p, 0 ≤ at0 (L.foldl (s_8 E w m) ts) p ∧ at0 (L.foldl (s_8 E w m) ts) p < m := fun L => by
  induction L with
  | nil => intro ts h p; exact h p
  | cons x L ih =>
   intro ts h p
   refine ih _ (fun q => ?_) p
   unfold s_8
   rw [z_7]
   split
   ·exact ⟨Int.emod_nonneg _ (by omega), Int.emod_lt_of_pos _ hm⟩
   ·exact h q
 refine this L _ (fun q => ?_) p
 unfold at0
 rw [List.getD_eq_getElem?_getD, List.getElem?_replicate]
 split
 ·exact ⟨Int.le_refl _, hm⟩
 ·exact ⟨Int.le_refl _, hm⟩
theorem ay_6 {ts : List Int} {p : Nat} {v : Int} (hp : p < ts.length) : ∀ {ps : List Nat}, ps.Nodup → p ∈ ps → h_9 (ts.set p v) ps = h_9 ts ps - at0 ts p + v
 | a :: ps, nd, h => by
  rw [List.nodup_cons] at nd
  have c1 : h_9 (ts.set p v) (a :: ps) = at0 (ts.set p v) a + h_9 (ts.set p v) ps := by unfold h_9; rw [List.map_cons, List.sum_cons]
  have c2 : h_9 ts (a :: ps) = at0 ts a + h_9 ts ps := by unfold h_9; rw [List.map_cons, List.sum_cons]
  rw [c1, c2]
  by_cases ha : a = p
  ·subst ha
   rw [z_7, if_pos ⟨rfl, hp⟩, ak_2 (us := ts) fun q hq => by
    rw [z_7, if_neg]
    rintro ⟨rfl, _⟩
    exact nd.1 hq]
   omega
  ·have hm : p ∈ ps := by
    rcases List.mem_cons.mp h with z | z
    ·exact absurd z.symm ha
    ·exact z
   rw [z_7, if_neg (fun z => ha z.1), ay_6 hp nd.2 hm]
   omega
theorem ay_7 {E : List (List Nat)} {w : List Int} {m : Int} {size : Nat} (hm : 0 < m) : ∀ (ord : List (Nat × Nat)), (∀ x ∈ ord, ∃ ps, E[x.1]? = some ps ∧ ps.Nodup ∧ x.2 ∈ ps ∧ x.2 < size ∧ 0 ≤ w.getD x.1 0 ∧ w.getD x.1 0 < m) → (ord.Pairwise fun x y => ¬ RE E y.1 x.2) →
  (∀ x ∈ ord, h_9 (f_3 E w m size ord.reverse) (E.getD x.1 []) % m = w.getD x.1 0) ∧ ∀ p, (∀ x ∈ ord, x.2 ≠ p) → at0 (f_3 E w m size ord.reverse) p = 0
 | [], _, _ => ⟨fun x h => by simp at h, fun p _ => by
   unfold f_3 at0
   simp only [List.reverse_nil, List.foldl_nil, List.getD_eq_getElem?_getD, List.getElem?_replicate]
   split <;> rfl⟩
 | (n, p) :: ord, h, pw => by
  rw [List.pairwise_cons] at pw
  obtain ⟨i1, i2⟩ := ay_7 hm ord (fun x hx => h x (List.mem_cons_of_mem _ hx)) pw.2
  obtain ⟨ps, he, nd, hp, hlt, w0, w1⟩ := h (n, p) (by simp)
  simp only at he hp hlt w0 w1
  have er : f_3 E w m size ((n, p) :: ord).reverse = s_8 E w m (f_3 E w m size ord.reverse) (n, p) := by rw [List.reverse_cons, ar_4]
  have hg : E.getD n [] = ps := by rw [List.getD_eq_getElem?_getD, he]; rfl
  have z0 : at0 (f_3 E w m size ord.reverse) p = 0 := i2 p fun x hx z => by
   obtain ⟨qs, e1, _, e2, _⟩ := h x (List.mem_cons_of_mem _ hx)
   exact pw.1 x hx ⟨qs, e1, z ▸ e2⟩
  have hl := ah_9 E w m size ord.reverse
  rw [er]
  refine ⟨fun x hx => ?_, fun q hq => ?_⟩
  ·rcases List.mem_cons.mp hx with rfl | hx
   ·simp only
    unfold s_8
    simp only
    rw [hg, ay_6 (by rw [hl]; exact hlt) nd hp, z0, Int.sub_zero]
    exact cp_5 _ _ _ w0 w1
   ·obtain ⟨qs, e1, _, _, _⟩ := h x (List.mem_cons_of_mem _ hx)
    have hn : p ∉ qs := fun z => pw.1 x hx ⟨qs, e1, z⟩
    have hg2 : E.getD x.1 [] = qs := by rw [List.getD_eq_getElem?_getD, e1]; rfl
    rw [← i1 x hx]
    unfold s_8
    rw [hg2]
    congr 1
    refine ak_2 fun q hq => ?_
    rw [z_7, if_neg]
    rintro ⟨rfl, _⟩
    exact hn hq
  ·unfold s_8
   rw [z_7, if_neg (fun z => hq (n, p) (by simp) z.1.symm)]
   exact i2 q fun x hx => hq x (List.mem_cons_of_mem _ hx)
theorem ay_8 (n s z : Int) (hz : 0 < z) : 0 ≤ n_8 n s z ∧ n_8 n s z < z := ⟨Int.emod_nonneg _ (by omega), Int.emod_lt_of_pos _ hz⟩
def e_8 (d : D) (salt kind part : Int) : List Nat := (List.range kind.toNat).map fun (k : Nat) => (r_9 d salt part (k : Int)).toNat
theorem z_8 (d : D) (salt part : Int) (hp : 0 < part) (j : Int) (hj : 0 ≤ j) : 0 ≤ r_9 d salt part j ∧ j * part ≤ r_9 d salt part j ∧ r_9 d salt part j < (j + 1) * part := by
 obtain ⟨h0, h1⟩ := ay_8 (f_7 d) (4 * salt + j) part hp
 have e : (j + 1) * part = j * part + part := by rw [Int.add_mul, Int.one_mul]
 have h2 : 0 ≤ j * part := Int.mul_nonneg hj (by omega)
 unfold r_9
 omega
theorem ar_5 (d : D) (salt kind part : Int) (hp : 0 < part) : z_5 d salt kind part = zi (e_8 d salt kind part) := by
 unfold z_5 zi e_8
 rw [List.map_map]
 apply List.map_congr_left
 intro k _
 show D.int (r_9 d salt part (0 + (k : Int))) = .int (((r_9 d salt part (k : Int)).toNat : Nat) : Int)
 rw [Int.zero_add, Int.toNat_of_nonneg (z_8 d salt part hp k (by omega)).1]
theorem bt_7 (d : D) (salt kind part : Int) (hp : 0 < part) : (e_8 d salt kind part).Nodup := by
 unfold e_8
 rw [List.nodup_iff_pairwise_ne, List.pairwise_map]
 refine List.Pairwise.imp (R := fun a b : Nat => a < b) (fun {a b} h => ?_) (List.pairwise_lt_range)
 obtain ⟨a0, a1, a2⟩ := z_8 d salt part hp a (by omega)
 obtain ⟨b0, b1, b2⟩ := z_8 d salt part hp b (by omega)
 have : ((a : Int) + 1) * part ≤ (b : Int) * part := Int.mul_le_mul_of_nonneg_right (by omega) (by omega)
 omega
theorem ar_6 (d : D) (salt kind part : Int) (hp : 0 < part) (hk : 0 ≤ kind) : ∀ p ∈ e_8 d salt kind part, p < (kind * part).toNat := by
 intro p h
 obtain ⟨k, hk', rfl⟩ := List.mem_map.mp h
 have hk' := List.mem_range.mp hk'
 obtain ⟨a0, a1, a2⟩ := z_8 d salt part hp k (by omega)
 have : ((k : Int) + 1) * part ≤ kind * part := Int.mul_le_mul_of_nonneg_right (by omega) (by omega)
 omega
theorem y_5 (d : D) (salt kind part : Int) : (e_8 d salt kind part).length = kind.toNat := by unfold e_8; simp
def e_9 (ks : List D) (salt kind : Int) : List (List Nat) := ks.map fun d => e_8 d salt kind (f_2 (ks.length : Int) kind)
theorem ay_9 (ks : List D) (salt kind : Int) (hp : 0 < f_2 (ks.length : Int) kind) : bt_0 ks salt kind = eL (e_9 ks salt kind) := by
 unfold bt_0 eL e_9
 rw [List.map_map]
 apply List.map_congr_left
 intro d _
 show D.tup _ = D.tup _
 rw [ar_5 d salt kind _ hp]
theorem az_0 {α : Type} (c : Nat) : ∀ (l : List α) (f : α → Nat), (∀ a ∈ l, f a = c) → (l.map f).sum = l.length * c
 | [], f, _ => by simp
 | a :: l, f, h => by
  rw [List.map_cons, List.sum_cons, az_0 c l f fun b hb => h b (List.mem_cons_of_mem _ hb), h a (by simp), List.length_cons, Nat.add_mul, Nat.one_mul, Nat.add_comm]
theorem bt_8 (ks : List D) (salt kind : Int) : tot (e_9 ks salt kind) = ks.length * kind.toNat := by
 unfold tot e_9
 rw [List.map_map]
 exact az_0 kind.toNat ks _ fun d _ => y_5 d salt kind _
theorem cp_8 (a b : D) : (W.tr (.tup [Tn.of a, Tn.of b])).d = .tup [a, b] := by
 show D.tup [(Tn.of a).d, (Tn.of b).d] = _
 rw [Tn.of_d, Tn.of_d]
structure Ks (ks : List D) (salt kind : Int) : Prop where
 k : ∀ k ∈ ks, isKey k
 nd : ks.Nodup
 h1 : 1 ≤ ks.length
 h2 : ks.length ≤ 200
 s0 : 0 ≤ salt
 s1 : salt ≤ 1000000000000
 kd : kind = 2 ∨ kind = 3
theorem cy_3 {ks : List D} {salt kind : Int} (h : Ks ks salt kind) : ∃ st ord, Peel (e_9 ks salt kind) st ord ∧ (∀ q m, lkS st q ≠ some [m]) ∧
  ac_0 [.lst ks, .int salt, .int kind] = .ok (.tr (.tup [Tn.of (.lst (e_0 ord)), Tn.of (.lst (zi (u_7 (e_9 ks salt kind) ord)))])) := by
 obtain ⟨p1, _, p3, p4⟩ := an_0 (ks.length : Int) kind (by have := h.h1; omega) (by have := h.h2; omega) h.kd
 have h2 := h.h2
 have gu := bt_8 ks salt kind
 have hk3 : kind.toNat ≤ 3 := by have := h.kd; omega
 have hle : ks.length * kind.toNat ≤ 200 * 3 := Nat.mul_le_mul h2 hk3
 obtain ⟨st, ord, hP, hC, e⟩ := cf_4 (e_9 ks salt kind) (kind * f_2 (ks.length : Int) kind) (by unfold e_9; rw [List.length_map]; omega) (by omega)
 refine ⟨st, ord, hP, hC, ?_⟩
 have ee := bn_8 h.k h.nd h.h1 h.h2 salt kind h.s0 h.s1 h.kd
 rw [ay_9 ks salt kind p3] at ee
 have mm : j_3 (.int kind) (.int (f_2 (ks.length : Int) kind)) = .ok (.sh (.int (kind * f_2 (ks.length : Int) kind))) := f_8 (m_1 (by have := h.kd; omega) (by have := h.kd; omega))
 simp_arith [ac_0, cn_2, evs, ee, n_5, p1, mm, e]
theorem be_3 {ks : List D} {salt kind : Int} (h : Ks ks salt kind) : ∃ b : Bool, g_6 [.lst ks, .int salt, .int kind] = .ok (.sh (.bl b)) ∧ (b = true → ∃ ord : List (Nat × Nat), (∀ n, n < ks.length → n ∈ ord.map (·.1)) ∧ (∃ st, Peel (e_9 ks salt kind) st ord) ∧
  ac_0 [.lst ks, .int salt, .int kind] = .ok (.tr (.tup [Tn.of (.lst (e_0 ord)), Tn.of (.lst [])]))) := by
 obtain ⟨st, ord, hP, hC, e⟩ := cy_3 h
 have hx : ixD (.tup [.lst (e_0 ord), .lst (zi (u_7 (e_9 ks salt kind) ord))]) (.int 1) = .ok (.sh (.lst (zi (u_7 (e_9 ks salt kind) ord)))) := bx_9 (ay_0 (i := 1) rfl)
 refine ⟨decide (((zi (u_7 (e_9 ks salt kind) ord)).length : Int) = 0), ?_, fun hb => ?_⟩
 ·simp_arith [g_6, aq_7, evs, e, cp_8, hx, n_5, d_9]
 ·have hb := of_decide_eq_true hb
  have hz : u_7 (e_9 ks salt kind) ord = [] := by
   apply List.eq_nil_of_length_eq_zero
   rw [s_0] at hb; omega
  refine ⟨ord, fun n hn => ?_, ⟨st, hP⟩, by rw [e, hz]; rfl⟩
  by_cases hm : n ∈ ord.map (·.1)
  ·exact hm
  ·exfalso
   have : n ∈ u_7 (e_9 ks salt kind) ord := by
    unfold u_7
    rw [List.mem_filter]
    exact ⟨List.mem_range.mpr (by unfold e_9; rw [List.length_map]; exact hn), decide_eq_true hm⟩
   rw [hz] at this
   simp at this
theorem da_2 {P : Nat → Prop} : ∀ n, (∃ k, k < n ∧ P k) → ∃ k, k < n ∧ P k ∧ ∀ j, j < k → ¬ P j
 | 0, ⟨k, h, _⟩ => by omega
 | n + 1, ⟨k, hk, hp⟩ => by
  by_cases h : ∃ j, j < n ∧ P j
  ·obtain ⟨j, h1, h2, h3⟩ := da_2 n h
   exact ⟨j, by omega, h2, h3⟩
  ·exact ⟨k, hk, hp, fun j hj z => h ⟨j, by omega, z⟩⟩
def xNoTry : Xn := ⟨"NoTry", [], []⟩
theorem cp_9 {ks : List D} {kind : Int} (h : Ks ks 0 kind) (most : Int) (m0 : 0 ≤ most) (m1 : most ≤ 1000) : (d_5 [.lst ks, .int kind, .int most] = .ex xNoTry) ∨
  ∃ s : Nat, (s : Int) < most ∧ d_5 [.lst ks, .int kind, .int most] = .ok (.sh (.int (s : Int))) ∧ g_6 [.lst ks, .int (s : Int), .int kind] = .ok (.sh (.bl true)) := by
 have hS : ∀ s : Nat, s ≤ 1000 → Ks ks (s : Int) kind := fun s hs => ⟨h.k, h.nd, h.h1, h.h2, by omega, by omega, h.kd⟩
 have hr : iArgs p_4 (aCons (eVar 2) aNil) (vsh [.sh (.lst ks), .sh (.int kind), .sh (.int most), .no]) = .ok (g_8 0 most.toNat) := by
  simp_arith [evs, o_7 (show -4611686018427387903 ≤ most by omega) (by omega)]
 have t0 : sExpr [0] (eFn 1 j_8 (aCons (eVar 0) aNil)) (start3 4 [.lst ks, .int kind, .int most]) = .nx [.sh (.lst ks), .sh (.int kind), .sh (.int most), .no] := by
  simp_arith [evs, ca_0 h.k h.nd h.h1 h.h2]
 have body : ∀ (k : Nat) (a3 : Sl), k ≤ 1000 → ∀ b : Bool, g_6 [.lst ks, .int (k : Int), .int kind] = .ok (.sh (.bl b)) → i_8 [.sh (.lst ks), .sh (.int kind), .sh (.int most), .sh (.int (k : Int))] = if b then .rt (.sh (.int (k : Int))) else .nx [.sh (.lst ks), .sh (.int kind), .sh (.int most), .sh (.int (k : Int))] := fun k a3 _ b e => by
  cases b <;> simp_arith [i_8, evs, e]
 by_cases hx : ∃ k, k < most.toNat ∧ g_6 [.lst ks, .int ((k : Nat) : Int), .int kind] = .ok (.sh (.bl true))
 ·obtain ⟨s, s1, s2, s3⟩ := da_2 _ hx
  right
  refine ⟨s, by omega, ?_, s2⟩
  have e := co_9 (gV 3) i_8 (fun k Δ => ∃ a3, Δ = [.sh (.lst ks), .sh (.int kind), .sh (.int most), a3]) (ds := g_8 0 most.toNat) (Δ := [.sh (.lst ks), .sh (.int kind), .sh (.int most), .no]) (n := s) (r := .rt (.sh (.int (s : Int)))) (d := .int (0 + (s : Int))) ⟨_, rfl⟩ (by
    unfold g_8; rw [List.getElem?_map, List.getElem?_range s1]; rfl) (fun k d Δ hk hd hI => by
    obtain ⟨a3, rfl⟩ := hI
    obtain ⟨_, rfl⟩ := ag_2 hd
    obtain ⟨b, eb, _⟩ := be_3 (hS k (by omega))
    have hb : b = false := by
     cases b with
     | false => rfl
     | true => exact absurd eb (s3 k hk)
    subst hb
    rw [Int.zero_add]
    refine ⟨_, rfl, _, .inl ((body k a3 (by omega) false eb)), _, rfl⟩) (fun Δ hI => by
    obtain ⟨a3, rfl⟩ := hI
    rw [Int.zero_add]
    exact ⟨_, rfl, body s a3 (by omega) true s2⟩) rfl
  refine l_6 ?_
  unfold x_7
  rw [b_0 t0]
  unfold sSeq h_2
  rw [hr]
  simp only [e]
 ·left
  obtain ⟨Δ', e, a3, rfl⟩ := g_0 (gV 3) i_8 (fun k Δ => ∃ a3, Δ = [.sh (.lst ks), .sh (.int kind), .sh (.int most), a3]) (ds := g_8 0 most.toNat) (Δ := [.sh (.lst ks), .sh (.int kind), .sh (.int most), .no]) ⟨_, rfl⟩ (fun k d Δ hd hI => by
   obtain ⟨a3, rfl⟩ := hI
   obtain ⟨hk, rfl⟩ := ag_2 hd
   obtain ⟨b, eb, _⟩ := be_3 (hS k (by omega))
   have hb : b = false := by
    cases b with
    | false => rfl
    | true => exact absurd ⟨k, hk, eb⟩ hx
   subst hb
   rw [Int.zero_add]
   exact ⟨_, rfl, _, .inl (body k a3 (by omega) false eb), _, rfl⟩)
  unfold d_5 bodyD x_7
  rw [b_0 t0]
  have t1 : h_2 [2] (iArgs p_4 (aCons (eVar 2) aNil)) (gV 3) i_8 [.sh (.lst ks), .sh (.int kind), .sh (.int most), .no] = .nx [.sh (.lst ks), .sh (.int kind), .sh (.int most), a3] := by
   unfold h_2
   rw [hr]
   exact e
  rw [b_0 t1]
  rfl
def k_6 (s kind part m : Int) (T : List Int) : D := .obj "Table" ["by_salt", "kind", "part", "modulus", "listed"] [.int s, .int kind, .int part, .int m, .lst (T.map .int)]
theorem bt_9 (a b c d e : D) : ae_6 [a, b, c, d, e] = .ok (["by_salt", "kind", "part", "modulus", "listed"], [a, b, c, d, e]) := by
 kernel_rfl
theorem cq_0 {ks : List D} {s kind : Int} (h : Ks ks s kind) (hs : g_6 [.lst ks, .int s, .int kind] = .ok (.sh (.bl true))) (m : Int) (hm : 0 < m) (w : List Int) (hw : w.length = ks.length) (hb : ∀ i, i < w.length → 0 ≤ w.getD i 0 ∧ w.getD i 0 < m) :
  ∃ T : List Int, (T.length : Int) = kind * f_2 (ks.length : Int) kind ∧ (∀ t ∈ T, 0 ≤ t ∧ t < m) ∧ (∀ i d, ks[i]? = some d → h_9 T (e_8 d s kind (f_2 (ks.length : Int) kind)) % m = w.getD i 0) ∧
   m_7 [.lst ks, .int s, .int kind, .int m, .lst (w.map .int)] = .ok (.sh (k_6 s kind (f_2 (ks.length : Int) kind) m T)) := by
 obtain ⟨p1, _, p3, p4⟩ := an_0 (ks.length : Int) kind (by have := h.h1; omega) (by have := h.h2; omega) h.kd
 obtain ⟨b, eb, hb2⟩ := be_3 h
 rw [hs] at eb
 have hbt : b = true := by
  injection eb with eb; injection eb with eb; injection eb with eb; exact eb.symm
 obtain ⟨ord, hall, ⟨st, hP⟩, ef⟩ := hb2 hbt
 have hkd := h.kd
 generalize hpart : f_2 (ks.length : Int) kind = part at *
 have hsz : 0 ≤ kind * part := Int.mul_nonneg (by omega) (by omega)
 have gp : kind * part ≤ 3 * 2000 := Int.mul_le_mul (by omega) p4 (by omega) (by omega)
 obtain ⟨size, hsize⟩ : ∃ n : Nat, (n : Int) = kind * part := ⟨(kind * part).toNat, by omega⟩
 have fq : ∀ n ps, (e_9 ks s kind)[n]? = some ps → ∃ d, ks[n]? = some d ∧ ps = e_8 d s kind part := fun n ps e => by
  unfold e_9 at e
  rw [List.getElem?_map] at e
  obtain ⟨d, e1, e2⟩ := Option.map_eq_some_iff.mp e
  exact ⟨d, e1, by rw [← e2, hpart]⟩
 have hok : ∀ x ∈ ord, ∃ ps, (e_9 ks s kind)[x.1]? = some ps ∧ ps.Nodup ∧ x.2 ∈ ps ∧ (∀ p ∈ ps, p < size) ∧ ps.length ≤ 1000 ∧ x.1 < ks.length := fun x hx => by
  obtain ⟨ps, e1, e2⟩ := hP.ok x hx
  obtain ⟨d, e3, rfl⟩ := fq x.1 ps e1
  refine ⟨_, e1, bt_7 d s kind part p3, e2, fun p hp => ?_, ?_, (List.getElem?_eq_some_iff.mp e3).1⟩
  ·have := ar_6 d s kind part p3 (by omega) p hp
   omega
  ·rw [y_5]; omega
 have e1 := bt_6 (e_9 ks s kind) w m size ord hm (by omega) fun x hx => by
  obtain ⟨ps, k1, k2, k3, k4, k5, k6⟩ := hok x hx
  exact ⟨ps, k1, k4, k5, k4 _ k3, by omega⟩
 obtain ⟨q1, _⟩ := ay_7 (E := e_9 ks s kind) (w := w) (size := size) hm ord (fun x hx => by
  obtain ⟨ps, k1, k2, k3, k4, k5, k6⟩ := hok x hx
  exact ⟨ps, k1, k2, k3, k4 _ k3, hb x.1 (by omega)⟩) hP.pw
 refine ⟨f_3 (e_9 ks s kind) w m size ord.reverse, by rw [ah_9]; exact hsize, fun t ht => ?_, fun i d hd => ?_, ?_⟩
 ·obtain ⟨p, hp, rfl⟩ := List.getElem_of_mem ht
  have := cp_7 (e_9 ks s kind) w hm size ord.reverse p
  unfold at0 at this
  rw [List.getD_eq_getElem?_getD, List.getElem?_eq_getElem hp] at this
  exact this
 ·have hi : i < ks.length := (List.getElem?_eq_some_iff.mp hd).1
  obtain ⟨x, hx, rfl⟩ := List.mem_map.mp (hall i hi)
  have := q1 x hx
  have hg : (e_9 ks s kind).getD x.1 [] = e_8 d s kind part := by
   unfold e_9
   rw [List.getD_eq_getElem?_getD, List.getElem?_map, hd, hpart]
   rfl
  rw [hg] at this
  exact this
 ·have ee := bn_8 h.k h.nd h.h1 h.h2 s kind h.s0 h.s1 h.kd
  rw [ay_9 ks s kind (by rw [hpart]; exact p3)] at ee
  have mm : j_3 (.int kind) (.int part) = .ok (.sh (.int (size : Int))) := by
   rw [hsize]
   exact f_8 (m_1 (by omega) (by omega))
  have hx : ixD (.tup [.lst (e_0 ord), .lst []]) (.int 0) = .ok (.sh (.lst (e_0 ord))) := bx_9 (ay_0 (i := 0) rfl)
  unfold k_6
  simp_arith [m_7, aj_4, evs, n_5, p1, ee, ef, cp_8, hx, mm, e1, ax_2, bt_9]
section
variable (s kind part m : Int) (T : List Int) (r : List (Option D))
theorem cq_1 : s_2 ["Table"] "by_salt" (eVar 0) (some (k_6 s kind part m T) :: r) = .ok (.sh (.int s)) := by kernel_rfl
theorem cq_2 : s_2 ["Table"] "kind" (eVar 0) (some (k_6 s kind part m T) :: r) = .ok (.sh (.int kind)) := by kernel_rfl
theorem cq_3 : s_2 ["Table"] "part" (eVar 0) (some (k_6 s kind part m T) :: r) = .ok (.sh (.int part)) := by kernel_rfl
theorem bn_9 : s_2 ["Table"] "modulus" (eVar 0) (some (k_6 s kind part m T) :: r) = .ok (.sh (.int m)) := by kernel_rfl
theorem ar_7 : s_2 ["Table"] "listed" (eVar 0) (some (k_6 s kind part m T) :: r) = .ok (.sh (.lst (T.map .int))) := by kernel_rfl
theorem cf_5 : g_7 [k_6 s kind part m T] = .ok (.ow (.lst (T.map .int))) := by
 simp_arith [g_7, aa_7, evs, ar_7, bb_3]
theorem ar_8 {d : D} {w : W} (h : e_3 [d, .int s, .int kind, .int part] = .ok w) : c_0 [k_6 s kind part m T, d] = .ok w := by
 simp_arith [c_0, y_1, evs, cq_1, cq_2, cq_3, h]
end
theorem az_1 : (["by_salt", "kind", "part", "modulus", "listed"] : List Str).contains "places" = false := by decide +kernel
theorem be_4 (F : List D → R W) : ([("Table", F)] : List (Str × (List D → R W))).lookup ("Table" : Str) = some F := by kernel_rfl
theorem bu_0 {s kind part m : Int} {T : List Int} {d : D} {w : W} (h : e_3 [d, .int s, .int kind, .int part] = .ok w) (fo : FE) (δ : DE) (ho : fo δ = .ok (.sh (k_6 s kind part m T))) (fa : FA) (ha : fa δ = .ok [d]) : h_5 "places" 1 [("Table", c_0)] fo fa δ = .ok w := by
 have t := ar_8 s kind part m T h
 unfold k_6 at t ho
 simp only [h_5, ho, R.bind_ok, W.d_sh, az_1, Bool.false_eq_true, if_false, be_4, ha, List.length_cons, List.length_nil, Nat.reduceAdd, if_true, t]
theorem cf_6 {s kind part m : Int} {T : List Int} {d : D} {ps : List Nat} (hm : 0 < m) (h : e_3 [d, .int s, .int kind, .int part] = .ok (.sh (eT ps))) (hp : ∀ p ∈ ps, p < T.length) (hl : ps.length ≤ 1000) : f_1 [k_6 s kind part m T, d] = .ok (.sh (.int (h_9 T ps % m))) := by
 have hs : k_0 [.lst (T.map .int), eT ps, .int m] = .ok (.sh (.int (h_9 T ps % m))) := ay_5 T ps m hm hp hl
 have fh := bu_0 (m := m) (T := T) h (eVar 0) [some (k_6 s kind part m T), some d] rfl (aCons (eVar 1) aNil) rfl
 unfold f_1
 refine l_6 ?_
 unfold aa_8
 have e : eFn 3 k_0 (aCons (s_2 ["Table"] "listed" (eVar 0)) (aCons (h_5 "places" 1 [("Table", c_0)] (eVar 0) (aCons (eVar 1) aNil)) (aCons (s_2 ["Table"] "modulus" (eVar 0)) aNil))) [some (k_6 s kind part m T), some d] = .ok (.sh (.int (h_9 T ps % m))) := by
  simp only [eFn, aCons, aNil, ar_7, fh, bn_9, R.bind_ok, W.d_sh, List.length_cons, List.length_nil, Nat.reduceAdd, if_true, hs]
 show (match eFn 3 k_0 _ (vall [.sh (k_6 s kind part m T), .sh d]) with | .ok w => Fl.rt w | .ex _ => _ | .no => .no) = _
 have e' : eFn 3 k_0 (aCons (s_2 ["Table"] "listed" (eVar 0)) (aCons (h_5 "places" 1 [("Table", c_0)] (eVar 0) (aCons (eVar 1) aNil)) (aCons (s_2 ["Table"] "modulus" (eVar 0)) aNil))) (vall [.sh (k_6 s kind part m T), .sh d]) = .ok (.sh (.int (h_9 T ps % m))) := e
 rw [e']
theorem be_5 {Δ : SE} {i : Nat} {cs : List Str} {f c : Str} {js : List Nat} {fe : FE} {ns : List Str} {ts : List Tn} {w : W} (hg : gsome js Δ = Δ) (h0 : Δ[i]? = some (.lt (.obj c ns ts))) (hc : cs.contains c = true ∧ ns.contains f = false ∧ ns.length < 1000) (he : fe (vsh Δ) = .ok w) :
  r_3 i cs f js fe Δ = .nx (Δ.set i (.lt (.obj c (ns ++ [f]) (ts ++ [.sh w.d])))) := by
 unfold r_3
 rw [hg]
 simp only [h0, he, if_pos hc]
theorem cq_4 : ([("NoKey", false), ("NoKeys", false), ("NoRange", false), ("NoTry", true), ("Twice", false)] : List (Str × Bool)).lookup xNoTry.c = some true := by decide +kernel
theorem cy_4 {ks : List D} (hk : ∀ k ∈ ks, isKey k) : neD (.lst ks) (.lst ks) = .ok (.sh (.bl false)) := by
 obtain ⟨b, hb, _, e⟩ := bn_3 hk hk
 have : b = true := hb.mpr rfl
 subst this
 exact e
theorem cf_7 (i : Int) : p_5 [.int i] = .ok (.sh (.bl true)) := by
 simp_arith [p_5, aj_7, evs]
theorem az_2 (w : Nat) (h : w ≤ 1000) : r_7 [.int (w : Int)] = .ok (.sh (.int (2 ^ w))) := by
 obtain ⟨Δ', e, a2, rfl⟩ := u_5 (gV 2) ac_2 (fun k Δ => ∃ a2, Δ = [.sh (.int (w : Int)), .sh (.int (2 ^ k)), a2]) (n := w) (lo := 0) (Δ := [.sh (.int (w : Int)), .sh (.int 1), .no]) ⟨.no, rfl⟩ (fun k Δ hk hI => by
  obtain ⟨a2, rfl⟩ := hI
  refine ⟨_, rfl, [.sh (.int (w : Int)), .sh (.int (2 ^ (k + 1))), .sh (.int (0 + (k : Int)))], .inl ?_, _, rfl⟩
  simp_arith [ac_2, evs, f_8 (ab_7 (show (-18446744073709551616 : Int) < 2 by decide) (by decide))]
  rw [Int.pow_succ])
 have hw : ((w : Int)).toNat = w := by omega
 simp_arith [r_7, bm_0, evs, h_2, o_7 (show (-4611686018427387903 : Int) ≤ w by omega) (by omega), hw, e]
theorem ca_3 {d : D} (h : isKey d) (w : Nat) (hw : w ≤ 100) : ac_3 [d, .int (w : Int)] = .ok (.sh (.int (n_8 (f_7 d) 3 (2 ^ w)))) := by
 have pos : (0 : Int) < 2 ^ w := Int.pow_pos (by decide)
 simp_arith [ac_3, cn_3, evs, bn_4 h, az_2 w (by omega), (ar_1 (f_7 d) 3 (2 ^ w) (by decide) (by decide) pos).1]
def mrkO (n width : Int) (t : D) : D := .obj "Marked" ["how_many", "width", "own_table"] [.int n, .int width, t]
def az_3 (ks : List D) (w : Nat) : List Int := ks.map fun d => n_8 (f_7 d) 3 (2 ^ w)
theorem cy_5 {ks : List D} {kind most : Int} (w : Nat) (e : d_5 [.lst ks, .int kind, .int most] = .ex xNoTry) : l_4 [.lst ks, .int (w : Int), .int kind, .int most] = .ex xNoTry := by
 unfold l_4 ap_6
 have t1 : sSet 5 [1, 3, 4] (eFn 3 d_5 (aCons (eVar 1) (aCons (eVar 3) (aCons (eVar 4) aNil)))) (x_2 6 "Marked" [.lst ks, .int (w : Int), .int kind, .int most]) = .ex xNoTry (x_2 6 "Marked" [.lst ks, .int (w : Int), .int kind, .int most]) := by
  have : eFn 3 d_5 (aCons (eVar 1) (aCons (eVar 3) (aCons (eVar 4) aNil))) (vsh (x_2 6 "Marked" [.lst ks, .int (w : Int), .int kind, .int most])) = .ex xNoTry := e
  unfold sSet
  rw [this]
 unfold n_7
 unfold sSeq
 rw [t1]
theorem bo_0 {ks : List D} {kind most : Int} (h : Ks ks 0 kind) (w : Nat) (hw : w ≤ 100) {s : Nat} (hs : s ≤ 1000) (e : d_5 [.lst ks, .int kind, .int most] = .ok (.sh (.int (s : Int)))) (e2 : g_6 [.lst ks, .int (s : Int), .int kind] = .ok (.sh (.bl true))) :
  ∃ T : List Int, (T.length : Int) = kind * f_2 (ks.length : Int) kind ∧ (∀ t ∈ T, 0 ≤ t ∧ t < 2 ^ w) ∧ (∀ (i : Nat) (d : D), ks[i]? = some d → h_9 T (e_8 d (s : Int) kind (f_2 (ks.length : Int) kind)) % 2 ^ w = n_8 (f_7 d) 3 (2 ^ w)) ∧
   l_4 [.lst ks, .int (w : Int), .int kind, .int most] = .ok (["how_many", "width", "own_table"], [.int (ks.length : Int), .int (w : Int), k_6 (s : Int) kind (f_2 (ks.length : Int) kind) (2 ^ w) T]) := by
 have pos : (0 : Int) < 2 ^ w := Int.pow_pos (by decide)
 have h2 := h.h2
 obtain ⟨T, t1, t2, t3, t4⟩ := cq_0 (s := (s : Int)) ⟨h.k, h.nd, h.h1, h.h2, by omega, by omega, h.kd⟩ e2 (2 ^ w) pos (az_3 ks w) (by unfold az_3; rw [List.length_map]) (fun i hi => by
  unfold az_3 at hi ⊢
  rw [List.length_map] at hi
  rw [List.getD_eq_getElem?_getD, List.getElem?_map, List.getElem?_eq_getElem hi]
  exact ay_8 _ _ _ pos)
 refine ⟨T, t1, t2, fun i d hd => ?_, ?_⟩
 ·rw [t3 i d hd]
  unfold az_3
  rw [List.getD_eq_getElem?_getD, List.getElem?_map, hd]
  rfl
 ·have ec := i_2 (m := 1) (fi := iOf (eVar 1)) (fg := gC 6) (p := fun _ => .ok true) (f := h_0) (δ := [none, some (.lst ks), some (.int (w : Int)), some (.int kind), some (.int most), some (.int (s : Int))]) (ds := ks) (by simp_arith [evs]) (by omega)
   (x_3 (fun d => .int (n_8 (f_7 d) 3 (2 ^ w))) ks fun d hd => ⟨_, .sh (.int (n_8 (f_7 d) 3 (2 ^ w))), rfl, by simp_arith [h_0, evs, ca_3 (h.k d hd) w hw], rfl⟩)
  have em : (ks.map fun d => D.int (n_8 (f_7 d) 3 (2 ^ w))) = (az_3 ks w).map .int := by unfold az_3; rw [List.map_map]; rfl
  rw [em] at ec
  have q1 : sSet 5 [1, 3, 4] (eFn 3 d_5 (aCons (eVar 1) (aCons (eVar 3) (aCons (eVar 4) aNil)))) (x_2 6 "Marked" [.lst ks, .int (w : Int), .int kind, .int most]) = .nx [.lt (.obj "Marked" [] []), .sh (.lst ks), .sh (.int (w : Int)), .sh (.int kind), .sh (.int most), .sh (.int (s : Int))] := by
   have : eFn 3 d_5 (aCons (eVar 1) (aCons (eVar 3) (aCons (eVar 4) aNil))) (vsh (x_2 6 "Marked" [.lst ks, .int (w : Int), .int kind, .int most])) = .ok (.sh (.int (s : Int))) := e
   unfold sSet
   rw [this]
   rfl
  have q2 : r_3 0 ["Marked"] "how_many" [1] (eCall p_3 (aCons (eVar 1) aNil)) [.lt (.obj "Marked" [] []), .sh (.lst ks), .sh (.int (w : Int)), .sh (.int kind), .sh (.int most), .sh (.int (s : Int))] = .nx [.lt (.obj "Marked" ["how_many"] [.sh (.int (ks.length : Int))]), .sh (.lst ks), .sh (.int (w : Int)), .sh (.int kind), .sh (.int most), .sh (.int (s : Int))] :=
   by refine be_5 (w := .sh (.int (ks.length : Int))) (c := "Marked") (ns := []) (ts := []) rfl rfl ?_ rfl; decide +kernel
  have q3 : r_3 0 ["Marked"] "width" [2] (eVar 2) [.lt (.obj "Marked" ["how_many"] [.sh (.int (ks.length : Int))]), .sh (.lst ks), .sh (.int (w : Int)), .sh (.int kind), .sh (.int most), .sh (.int (s : Int))] = .nx [.lt (.obj "Marked" ["how_many", "width"] [.sh (.int (ks.length : Int)), .sh (.int (w : Int))]), .sh (.lst ks), .sh (.int (w : Int)), .sh (.int kind), .sh (.int most), .sh (.int (s : Int))] :=
   by refine be_5 (w := .sh (.int (w : Int))) (c := "Marked") (ns := ["how_many"]) (ts := [.sh (.int (ks.length : Int))]) rfl rfl ?_ rfl; decide +kernel
  have q4 : r_3 0 ["Marked"] "own_table" [1, 2, 3, 5] (eFn 5 m_7 (aCons (eVar 1) (aCons (eVar 5) (aCons (eVar 3) (aCons (eFn 1 r_7 (aCons (eVar 2) aNil)) (aCons (c_6 1 (iOf (eVar 1)) (gC 6) (fun _ => .ok true) h_0) aNil)))))) [.lt (.obj "Marked" ["how_many", "width"] [.sh (.int (ks.length : Int)), .sh (.int (w : Int))]), .sh (.lst ks), .sh (.int (w : Int)), .sh (.int kind), .sh (.int most), .sh (.int (s : Int))] =
    .nx [.lt (.obj "Marked" ["how_many", "width", "own_table"] [.sh (.int (ks.length : Int)), .sh (.int (w : Int)), .sh (k_6 (s : Int) kind (f_2 (ks.length : Int) kind) (2 ^ w) T)]), .sh (.lst ks), .sh (.int (w : Int)), .sh (.int kind), .sh (.int most), .sh (.int (s : Int))] := by
   refine be_5 (w := .sh (k_6 (s : Int) kind (f_2 (ks.length : Int) kind) (2 ^ w) T)) (c := "Marked") (ns := ["how_many", "width"]) (ts := [.sh (.int (ks.length : Int)), .sh (.int (w : Int))]) rfl rfl (by decide +kernel) ?_
   have hv : vsh [.lt (.obj "Marked" ["how_many", "width"] [.sh (.int (ks.length : Int)), .sh (.int (w : Int))]), .sh (.lst ks), .sh (.int (w : Int)), .sh (.int kind), .sh (.int most), .sh (.int (s : Int))] = [none, some (.lst ks), some (.int (w : Int)), some (.int kind), some (.int most), some (.int (s : Int))] := rfl
   rw [hv]
   simp only [eFn, aCons, aNil, eVar, List.getElem?_cons_succ, List.getElem?_cons_zero, R.bind_ok, W.d_sh, W.d_ow, List.length_cons, List.length_nil, Nat.reduceAdd, if_true, az_2 w (by omega : w ≤ 1000), ec, t4]
  unfold l_4 ap_6 n_7
  rw [b_0 q1, b_0 q2, b_0 q3, q4]
  simp only [List.getElem?_cons_zero, if_true, unT, Option.map_some]
theorem at_8 {ks : List D} {kind : Int} (w : Nat) (e : l_4 [.lst ks, .int (w : Int), .int kind, .int 20] = .ex xNoTry) : k_4 [.lst ks, .int (w : Int), .int kind] = .ok (.sh .non) := by
 have hb : d_4 [.sh (.lst ks), .sh (.int (w : Int)), .sh (.int kind), .no] = .ex xNoTry [.sh (.lst ks), .sh (.int (w : Int)), .sh (.int kind), .no] := by
  simp_arith [d_4, evs, ax_2, e]
 have ht : w_1 d_4 [⟨none, [("NoKey", false), ("NoKeys", false), ("NoRange", false), ("NoTry", true), ("Twice", false)], r_8⟩] (start3 4 [.lst ks, .int (w : Int), .int kind]) = .nx [.sh (.lst ks), .sh (.int (w : Int)), .sh (.int kind), .sh .non] := by
  show w_1 d_4 _ [.sh (.lst ks), .sh (.int (w : Int)), .sh (.int kind), .no] = _
  unfold w_1
  simp only [hb, tryH, cq_4, hdGo]
  rfl
 refine l_6 ?_
 unfold v_8
 rw [b_0 ht]
 rfl
theorem at_9 {ks : List D} {kind : Int} (w : Nat) {p : List Str × List D} (e : l_4 [.lst ks, .int (w : Int), .int kind, .int 20] = .ok p) : k_4 [.lst ks, .int (w : Int), .int kind] = .ok (.sh (.obj "Marked" p.1 p.2)) := by
 have hb : d_4 [.sh (.lst ks), .sh (.int (w : Int)), .sh (.int kind), .no] = .nx [.sh (.lst ks), .sh (.int (w : Int)), .sh (.int kind), .sh (.obj "Marked" p.1 p.2)] := by
  simp_arith [d_4, evs, ax_2, e]
 have ht : w_1 d_4 [⟨none, [("NoKey", false), ("NoKeys", false), ("NoRange", false), ("NoTry", true), ("Twice", false)], r_8⟩] (start3 4 [.lst ks, .int (w : Int), .int kind]) = .nx [.sh (.lst ks), .sh (.int (w : Int)), .sh (.int kind), .sh (.obj "Marked" p.1 p.2)] := by
  show w_1 d_4 _ [.sh (.lst ks), .sh (.int (w : Int)), .sh (.int kind), .no] = _
  unfold w_1
  simp only [hb]
 refine l_6 ?_
 unfold v_8
 rw [b_0 ht]
 rfl
section
variable (n width : Int) (t : D) (r : List (Option D))
theorem cf_8 : s_2 ["Marked"] "width" (eVar 0) (some (mrkO n width t) :: r) = .ok (.sh (.int width)) := by kernel_rfl
theorem be_6 : s_2 ["Marked"] "own_table" (eVar 0) (some (mrkO n width t) :: r) = .ok (.sh t) := by kernel_rfl
end
theorem cq_5 : (["by_salt", "kind", "part", "modulus", "listed"] : List Str).contains "table" = false := by decide +kernel
theorem cq_6 : (["by_salt", "kind", "part", "modulus", "listed"] : List Str).contains "total" = false := by decide +kernel
section
variable {n s kind part m : Int} {width : Int} {T : List Int}
theorem cf_9 : d_0 [mrkO n width (k_6 s kind part m T)] = .ok (.ow (.lst (T.map .int))) := by
 have t := cf_5 s kind part m T
 unfold k_6 at t ⊢
 simp_arith [d_0, y_0, evs, be_6, h_5, cq_5, be_4, t]
theorem bu_1 {d : D} {w : W} (h : e_3 [d, .int s, .int kind, .int part] = .ok w) : b_6 [mrkO n width (k_6 s kind part m T), d] = .ok w := by
 have t := ar_8 s kind part m T h
 unfold k_6 at t ⊢
 simp_arith [b_6, w_3, evs, be_6, h_5, az_1, be_4, t]
theorem cg_0 {d : D} {z y : Int} (w : Nat) (h : f_1 [k_6 s kind part m T, d] = .ok (.sh (.int z))) (hm : ac_3 [d, .int (w : Int)] = .ok (.sh (.int y))) : d_1 [mrkO n (w : Int) (k_6 s kind part m T), d] = .ok (.sh (.bl (decide (z = y)))) := by
 have t := h
 unfold k_6 at t ⊢
 simp_arith [d_1, y_3, evs, be_6, cf_8, h_5, cq_6, be_4, t, hm, d_9]
end
theorem be_7 (T : List Int) (ps : List Nat) (m : Int) (hm : 0 < m) (h : ∀ p ∈ ps, p < T.length) (hl : ps.length ≤ 1000) : h_7 [.lst (T.map .int), eT ps, .int m] = .ok (.sh (.int (h_9 T ps % m))) := by
 have hc := x_3 (fg := gC 3) (f := p_0) (δ := [some (.lst (T.map .int)), some (eT ps), some (.int m), none]) (fun d => match d with | .int i => .int (at0 T i.toNat) | d => d) (zi ps) (fun d hd => by
  obtain ⟨p, hp, rfl⟩ := List.mem_map.mp hd
  refine ⟨[some (.lst (T.map .int)), some (eT ps), some (.int m), some (.int (p : Int))], .sh (.int (at0 T p)), rfl, ?_, by simp⟩
  simp_arith [p_0, evs, ab_8 (cp_4 (h p hp))])
 have hz : (zi ps).map (fun d => match d with | .int i => D.int (at0 T i.toNat) | d => d) = ps.map fun p => D.int (at0 T p) := by
  unfold zi
  rw [List.map_map]
  apply List.map_congr_left
  intro p _
  simp
 rw [hz] at hc
 have ec := i_2 (m := 1) (fi := iOf (eVar 1)) (fg := gC 3) (p := fun _ => .ok true) (f := p_0) (δ := [some (.lst (T.map .int)), some (eT ps), some (.int m)]) (ds := zi ps) rfl (by rw [s_0]; omega) hc
 simp_arith [h_7, aj_5, evs, ec, co_0, c_5 hm]
 rfl
theorem p_8 {f : FE} {fa : FA} {δ : DE} {w : W} {ds : List D} (h1 : f δ = .ok w) (h2 : fa δ = .ok ds) : aCons f fa δ = .ok (w.d :: ds) := by
 unfold aCons; rw [h1, R.bind_ok, h2, R.bind_ok]
theorem cq_7 {n : Nat} {F : List D → R W} {fa : FA} {δ : DE} {ds : List D} (h : fa δ = .ok ds) (hl : ds.length = n) : eFn n F fa δ = F ds := by
 unfold eFn; rw [h, R.bind_ok, if_pos hl]
theorem an_2 {n : Int} (h0 : 0 ≤ n) (h1 : n ≤ 999999999999999999) : isKey (.int n) := .inl ⟨n, rfl, h0, h1⟩
structure MkOk (s kind part : Int) (T : List Int) : Prop where
 s0 : 0 ≤ s
 s1 : s ≤ 1000
 kd : kind = 2 ∨ kind = 3
 p0 : 0 < part
 p1 : part ≤ 2000
 len : (T.length : Int) = kind * part
def s_9 (T : List Int) (s kind part m : Int) (n : Int) : Bool := decide (h_9 T (e_8 (.int n) s kind part) % m = n_8 (f_7 (.int n)) 3 m)
section
variable {s kind part c : Int} {T : List Int} {w : Nat} {n : Int}
theorem az_4 (H : MkOk s kind part T) (hn : isKey (.int n)) : e_3 [.int n, .int s, .int kind, .int part] = .ok (.sh (eT (e_8 (.int n) s kind part))) ∧ (∀ p ∈ e_8 (.int n) s kind part, p < T.length) ∧ (e_8 (.int n) s kind part).length ≤ 1000 := by
 have h1 := H.s1
 have hk := H.kd
 refine ⟨?_, fun p hp => ?_, ?_⟩
 ·rw [(ay_2 hn s kind part H.s0 (by omega) H.kd H.p0 H.p1).1, ar_5 _ _ _ _ H.p0]
  rfl
 ·have := ar_6 (.int n) s kind part H.p0 (by omega) p hp
  have := H.len
  omega
 ·rw [y_5]; omega
theorem cq_8 (H : MkOk s kind part T) (hw : w ≤ 100) (hn : isKey (.int n)) : d_1 [mrkO c (w : Int) (k_6 s kind part (2 ^ w) T), .int n] = .ok (.sh (.bl (s_9 T s kind part (2 ^ w) n))) := by
 obtain ⟨h1, h2, h3⟩ := az_4 H hn
 exact cg_0 w (cf_6 (Int.pow_pos (by decide)) h1 h2 h3) (ca_3 hn w hw)
theorem bu_2 {width : Int} {t : D} {m : Str} {F : List D → R W} {k : Nat} (hm : (["how_many", "width", "own_table"] : List Str).contains m = false) (fo : FE) (fa : FA) (δ : DE) (as : List D) (ho : fo δ = .ok (.sh (mrkO c width t))) (ha : fa δ = .ok as) (hk : as.length = k) : h_5 m k [("Marked", F)] fo fa δ = F (mrkO c width t :: as) := by
 have lu : ([("Marked", F)] : List (Str × (List D → R W))).lookup ("Marked" : Str) = some F := by kernel_rfl
 subst hk
 unfold mrkO at ho ⊢
 simp only [h_5, ho, ha, R.bind_ok, W.d_sh, hm, Bool.false_eq_true, if_false, lu, if_true]
end
theorem cy_6 : (["how_many", "width", "own_table"] : List Str).contains "knows" = false := by decide +kernel
theorem cq_9 : (["how_many", "width", "own_table"] : List Str).contains "places" = false := by decide +kernel
theorem cy_7 : (["how_many", "width", "own_table"] : List Str).contains "table" = false := by decide +kernel
def u_8 (ks : List D) (g : Int → Bool) (lo : Int) (k : Nat) : List Int := ((List.range k).map fun (j : Nat) => lo + (j : Int)).filter fun n => !p_9 (.int n) ks && g n
theorem cg_1 (ks : List D) (g : Int → Bool) (lo : Int) (k : Nat) : u_8 ks g lo (k + 1) = u_8 ks g lo k ++ (if (!p_9 (.int (lo + (k : Int))) ks && g (lo + (k : Int))) = true then [lo + (k : Int)] else []) := by
 unfold u_8
 rw [List.range_succ, List.map_append, List.filter_append]
 congr 1
 simp only [List.map_cons, List.map_nil, List.filter_cons, List.filter_nil]
theorem bo_1 (ks : List D) (g : Int → Bool) (lo : Int) (k : Nat) : (u_8 ks g lo k).length ≤ k := by
 have := List.length_filter_le (fun n => !p_9 (.int n) ks && g n) ((List.range k).map fun (j : Nat) => lo + (j : Int))
 rw [List.length_map, List.length_range] at this
 exact this
theorem dg_8 {s kind part c : Int} {T : List Int} {w : Nat} (H : MkOk s kind part T) (hw : w ≤ 100) {ks : List D} (hk : ∀ k ∈ ks, isKey k) (lo hi : Int) (h0 : 0 ≤ lo) (h1 : hi ≤ 999999999999999999) (h2 : hi - lo < 2000) (h3 : lo ≤ 1000000000000000000) (h4 : 0 ≤ hi) :
  u_6 [mrkO c (w : Int) (k_6 s kind part (2 ^ w) T), .lst ks, .int lo, .int hi, .int (2 ^ w)] = .ok (.ow (.lst ((u_8 ks (s_9 T s kind part (2 ^ w)) lo (hi + 1 - lo).toNat).map .int))) := by
 have pos : (0 : Int) < 2 ^ w := Int.pow_pos (by decide)
 generalize hM : mrkO c (w : Int) (k_6 s kind part (2 ^ w) T) = M
 have mt : d_0 [M] = .ok (.ow (.lst (T.map .int))) := by rw [← hM]; exact cf_9
 have t2 : sSet 6 [0] (h_5 "table" 0 [("Marked", d_0)] (eVar 0) aNil) [.sh M, .sh (.lst ks), .sh (.int lo), .sh (.int hi), .sh (.int (2 ^ w)), .ow (.lst []), .no, .no, .no] = .nx [.sh M, .sh (.lst ks), .sh (.int lo), .sh (.int hi), .sh (.int (2 ^ w)), .ow (.lst []), .ow (.lst (T.map .int)), .no, .no] := by
  have : h_5 "table" 0 [("Marked", d_0)] (eVar 0) aNil (vsh [.sh M, .sh (.lst ks), .sh (.int lo), .sh (.int hi), .sh (.int (2 ^ w)), .ow (.lst []), .no, .no, .no]) = .ok (.ow (.lst (T.map .int))) := by
   rw [← hM] at mt ⊢
   exact (bu_2 (k := 0) cy_7 _ _ _ [] rfl rfl rfl).trans mt
  unfold sSet
  rw [this]
  rfl
 obtain ⟨Δ', e, a7, a8, rfl⟩ := u_5 (gV 7) y_2 (fun k Δ => ∃ a7 a8, Δ = [.sh M, .sh (.lst ks), .sh (.int lo), .sh (.int hi), .sh (.int (2 ^ w)), .ow (.lst ((u_8 ks (s_9 T s kind part (2 ^ w)) lo k).map .int)), .ow (.lst (T.map .int)), a7, a8]) (n := (hi + 1 - lo).toNat) (lo := lo) (Δ := [.sh M, .sh (.lst ks), .sh (.int lo), .sh (.int hi), .sh (.int (2 ^ w)), .ow (.lst []), .ow (.lst (T.map .int)), .no, .no])
  ⟨_, _, rfl⟩ (fun k Δ hk' hI => by
   obtain ⟨a7, a8, rfl⟩ := hI
   have hn : isKey (.int (lo + (k : Int))) := an_2 (by omega) (by omega)
   obtain ⟨p1, p2, p3⟩ := az_4 H hn
   have mp : b_6 [M, .int (lo + (k : Int))] = .ok (.sh (eT (e_8 (.int (lo + (k : Int))) s kind part))) := by rw [← hM]; exact bu_1 p1
   have tl := be_7 T _ (2 ^ w) pos p2 p3
   have st := bd_8 hn
   have mx := (ar_1 (f_7 (.int (lo + (k : Int)))) 3 (2 ^ w) (by decide) (by decide) pos).2
   have ni := ar_0 hn hk
   have hl := bo_1 ks (s_9 T s kind part (2 ^ w)) lo k
   have sn := cg_1 ks (s_9 T s kind part (2 ^ w)) lo k
   generalize hL : u_8 ks (s_9 T s kind part (2 ^ w)) lo k = L at hl sn
   have zm : (L.map D.int).length < 16777216 := by rw [List.length_map]; omega
   generalize hz : h_9 T (e_8 (.int (lo + (k : Int))) s kind part) % 2 ^ w = z at tl
   have hg : s_9 T s kind part (2 ^ w) (lo + (k : Int)) = decide (z = n_8 (f_7 (.int (lo + (k : Int)))) 3 (2 ^ w)) := by unfold s_9; rw [hz]
   have s1 : sSet 8 [0, 4, 6, 7] (eFn 3 h_7 (aCons (eVar 6) (aCons (h_5 "places" 1 [("Marked", b_6)] (eVar 0) (aCons (eVar 7) aNil)) (aCons (eVar 4) aNil)))) [.sh M, .sh (.lst ks), .sh (.int lo), .sh (.int hi), .sh (.int (2 ^ w)), .ow (.lst (L.map .int)), .ow (.lst (T.map .int)), .sh (.int (lo + (k : Int))), a8] = .nx [.sh M, .sh (.lst ks), .sh (.int lo), .sh (.int hi), .sh (.int (2 ^ w)), .ow (.lst (L.map .int)), .ow (.lst (T.map .int)), .sh (.int (lo + (k : Int))), .sh (.int z)] := by
    have v1 : eFn 3 h_7 (aCons (eVar 6) (aCons (h_5 "places" 1 [("Marked", b_6)] (eVar 0) (aCons (eVar 7) aNil)) (aCons (eVar 4) aNil))) (vsh [.sh M, .sh (.lst ks), .sh (.int lo), .sh (.int hi), .sh (.int (2 ^ w)), .ow (.lst (L.map .int)), .ow (.lst (T.map .int)), .sh (.int (lo + (k : Int))), a8]) = .no := rfl
    have hm : h_5 "places" 1 [("Marked", b_6)] (eVar 0) (aCons (eVar 7) aNil) (vall [.sh M, .sh (.lst ks), .sh (.int lo), .sh (.int hi), .sh (.int (2 ^ w)), .ow (.lst (L.map .int)), .ow (.lst (T.map .int)), .sh (.int (lo + (k : Int))), a8]) = .ok (.sh (eT (e_8 (.int (lo + (k : Int))) s kind part))) := by
     rw [← hM] at mp ⊢
     exact (bu_2 (k := 1) cq_9 _ _ _ [.int (lo + (k : Int))] rfl rfl rfl).trans mp
    have v2 : eFn 3 h_7 (aCons (eVar 6) (aCons (h_5 "places" 1 [("Marked", b_6)] (eVar 0) (aCons (eVar 7) aNil)) (aCons (eVar 4) aNil))) (vall [.sh M, .sh (.lst ks), .sh (.int lo), .sh (.int hi), .sh (.int (2 ^ w)), .ow (.lst (L.map .int)), .ow (.lst (T.map .int)), .sh (.int (lo + (k : Int))), a8]) = .ok (.sh (.int z)) := by
     exact (cq_7 (p_8 (w := .sh (.lst (T.map .int))) rfl (p_8 hm (p_8 (w := .sh (.int (2 ^ w))) rfl rfl))) rfl).trans tl
    unfold sSet
    rw [v1]
    simp only [v2, W.d_sh, flatD, if_true, List.set_cons_succ, List.set_cons_zero]
   have s2 : ∃ L', L' = u_8 ks (s_9 T s kind part (2 ^ w)) lo (k + 1) ∧ sIf [1, 4, 7, 8] (tAndF (eTest (eOp (inD true) (eVar 7) (eVar 1))) (eTest (eOp eqD (eVar 8) (eFn 3 m_8 (aCons (eFn 1 k_1 (aCons (eVar 7) aNil)) (aCons (eC (.int 3)) (aCons (eVar 4) aNil))))))) (sApp 5 (eVar 7)) sNil [.sh M, .sh (.lst ks), .sh (.int lo), .sh (.int hi), .sh (.int (2 ^ w)), .ow (.lst (L.map .int)), .ow (.lst (T.map .int)), .sh (.int (lo + (k : Int))), .sh (.int z)] = .nx [.sh M, .sh (.lst ks), .sh (.int lo), .sh (.int hi), .sh (.int (2 ^ w)), .ow (.lst (L'.map .int)), .ow (.lst (T.map .int)), .sh (.int (lo + (k : Int))), .sh (.int z)] := by
    rw [hg] at sn
    cases hb : p_9 (.int (lo + (k : Int))) ks with
    | true =>
     rw [hb] at ni sn
     refine ⟨L, by rw [sn]; simp, ?_⟩
     simp_arith [evs, ni]
    | false =>
     rw [hb] at ni sn
     by_cases hq : z = n_8 (f_7 (.int (lo + (k : Int)))) 3 (2 ^ w)
     ·refine ⟨L ++ [lo + (k : Int)], by rw [sn]; simp [hq], ?_⟩
      have hap : (L ++ [lo + (k : Int)]).map D.int = L.map D.int ++ [.int (lo + (k : Int))] := by rw [List.map_append]; rfl
      rw [hap]
      simp_arith [evs, ni, st, mx, d_9, hq, sApp, zm]
     ·refine ⟨L, by rw [sn]; simp [hq], ?_⟩
      simp_arith [evs, ni, st, mx, d_9, hq]
   obtain ⟨L', hL', s2⟩ := s2
   refine ⟨_, rfl, _, .inl ((b_0 s1).trans s2), _, _, by rw [hL']⟩)
 refine l_6 ?_
 unfold ax_8
 have t3 : h_2 [2, 3] (iArgs rng2 (aCons (eVar 2) (aCons (eOp d_7 (eVar 3) (eC (.int 1))) aNil))) (gV 7) y_2 [.sh M, .sh (.lst ks), .sh (.int lo), .sh (.int hi), .sh (.int (2 ^ w)), .ow (.lst []), .ow (.lst (T.map .int)), .no, .no] = .nx [.sh M, .sh (.lst ks), .sh (.int lo), .sh (.int hi), .sh (.int (2 ^ w)), .ow (.lst ((u_8 ks (s_9 T s kind part (2 ^ w)) lo (hi + 1 - lo).toNat).map .int)), .ow (.lst (T.map .int)), a7, a8] := by
  have e1 : iArgs rng2 (aCons (eVar 2) (aCons (eOp d_7 (eVar 3) (eC (.int 1))) aNil)) (vsh [.sh M, .sh (.lst ks), .sh (.int lo), .sh (.int hi), .sh (.int (2 ^ w)), .ow (.lst []), .ow (.lst (T.map .int)), .no, .no]) = .ok (g_8 lo (hi + 1 - lo).toNat) := by
   simp_arith [evs, e_2, by_0 (show -4611686018427387903 ≤ lo by omega) (show lo < 4611686018427387904 by omega) (show -4611686018427387903 ≤ hi + 1 by omega) (show hi + 1 < 4611686018427387904 by omega)]
  unfold h_2
  rw [e1]
  exact e
 refine (b_0 (Δ' := [.sh M, .sh (.lst ks), .sh (.int lo), .sh (.int hi), .sh (.int (2 ^ w)), .ow (.lst []), .no, .no, .no]) rfl).trans ?_
 rw [b_0 t2]
 rw [b_0 t3]
 rfl
def xNoRange : Xn := ⟨"NoRange", [], []⟩
theorem cy_8 {M : D} {ks : List D} (hk : ∀ k ∈ ks, isKey k) (lo hi : Int) (h2 : 2000 ≤ hi - lo) : f_6 [M, .lst ks, .int lo, .int hi] = .ex xNoRange := by
 have e := bd_9 hk
 simp_arith [f_6, ac_4, evs, e, n_4, bj_6, h2, ae_3]
 rfl
theorem ca_4 {s kind part c : Int} {T : List Int} {w : Nat} (H : MkOk s kind part T) (hw : w ≤ 100) {ks : List D} (hk : ∀ k ∈ ks, isKey k) (nd : ks.Nodup) (hl : ks.length ≤ 200) (lo hi : Int) (h0 : 0 ≤ lo) (h1 : hi ≤ 999999999999999999) (h2 : hi - lo < 2000) (h3 : lo ≤ 1000000000000000000) (h4 : 0 ≤ hi) :
  f_6 [mrkO c (w : Int) (k_6 s kind part (2 ^ w) T), .lst ks, .int lo, .int hi] = .ok (.ow (.lst ((u_8 ks (s_9 T s kind part (2 ^ w)) lo (hi + 1 - lo).toNat).map .int))) := by
 have kn : ∀ n : Int, isKey (.int n) → d_1 [mrkO c (w : Int) (k_6 s kind part (2 ^ w) T), .int n] = .ok (.sh (.bl (s_9 T s kind part (2 ^ w) n))) := fun n hn => cq_8 H hw hn
 generalize hM : mrkO c (w : Int) (k_6 s kind part (2 ^ w) T) = M at kn
 generalize s_9 T s kind part (2 ^ w) = g at kn
 have e := bd_9 hk
 obtain ⟨Δ', e4, a5, rfl⟩ := g_0 (gV 5) q_4 (fun k Δ => ∃ a5, Δ = [.sh M, .sh (.lst ks), .sh (.int lo), .sh (.int hi), .ow (.dic (h_8 (ks.take k))), a5, .no, .no]) (ds := ks) (Δ := [.sh M, .sh (.lst ks), .sh (.int lo), .sh (.int hi), .ow (.dic []), .no, .no, .no])
  ⟨_, rfl⟩ (fun k d Δ hd hI => by
   obtain ⟨a5, rfl⟩ := hI
   have hkk : k < ks.length := (List.getElem?_eq_some_iff.mp hd).1
   have hdk := hk d (List.mem_of_getElem? hd)
   have ay : ∀ x ∈ ks.take k, isKey x := fun x hx => hk x (List.mem_of_mem_take hx)
   have bu : d ∉ ks.take k := fun z => by
    obtain ⟨j, hj⟩ := List.getElem?_of_mem z
    have hjk : j < k := by
     have := (List.getElem?_eq_some_iff.mp hj).1
     rw [List.length_take] at this
     omega
    rw [List.getElem?_take_of_lt hjk] at hj
    obtain ⟨b1, b2⟩ := List.getElem?_eq_some_iff.mp hj
    obtain ⟨c1, c2⟩ := List.getElem?_eq_some_iff.mp hd
    exact List.pairwise_iff_getElem.mp nd j k b1 c1 hjk (b2.trans c2.symm)
   have sp := bn_6 ay hdk bu
   have kd := ar_2 hdk
   have tk : ks.take (k + 1) = ks.take k ++ [d] := by rw [List.take_add_one, hd]; rfl
   have ln : (h_8 (ks.take k)).length < 16777216 := by unfold h_8; rw [List.length_map, List.length_take]; omega
   refine ⟨_, rfl, [.sh M, .sh (.lst ks), .sh (.int lo), .sh (.int hi), .ow (.dic (h_8 (ks.take (k + 1)))), .sh d, .no, .no], .inl ?_, _, rfl⟩
   rw [tk, ← sp]
   simp_arith [q_4, ae_1, evs, kd, ln])
 rw [List.take_length] at e4
 have t4 : h_2 [1] (iOf (eVar 1)) (gV 5) q_4 [.sh M, .sh (.lst ks), .sh (.int lo), .sh (.int hi), .ow (.dic []), .no, .no, .no] = .nx [.sh M, .sh (.lst ks), .sh (.int lo), .sh (.int hi), .ow (.dic (h_8 ks)), a5, .no, .no] := by
  have e1 : iOf (eVar 1) (vsh [.sh M, .sh (.lst ks), .sh (.int lo), .sh (.int hi), .ow (.dic []), .no, .no, .no]) = .ok ks := rfl
  unfold h_2
  rw [e1]
  exact e4
 have ec : c_6 1 (iArgs rng2 (aCons (eVar 6) (aCons (eVar 7) aNil))) (gC 8) k_5 (eVar 8) (vall [.sh M, .sh (.lst ks), .sh (.int lo), .sh (.int hi), .ow (.dic (h_8 ks)), a5, .sh (.int lo), .sh (.int (hi + 1))]) = .ok (.ow (.lst ((u_8 ks g lo (hi + 1 - lo).toNat).map .int))) := by
  refine i_2 (m := 1) (ds := g_8 lo (hi + 1 - lo).toNat) ?_ (by rw [u_3]; omega) ?_
  ·simp_arith [evs, by_0 (show -4611686018427387903 ≤ lo by omega) (show lo < 4611686018427387904 by omega) (show -4611686018427387903 ≤ hi + 1 by omega) (show hi + 1 < 4611686018427387904 by omega)]
  ·have hcl := q_6 (fg := gC 8) (p := k_5) (f := eVar 8) (δ := vall [.sh M, .sh (.lst ks), .sh (.int lo), .sh (.int hi), .ow (.dic (h_8 ks)), a5, .sh (.int lo), .sh (.int (hi + 1))] ++ List.replicate 1 none) (fun d => match d with | .int i => !p_9 (.int i) ks && g i | _ => false) (fun d => d) (g_8 lo (hi + 1 - lo).toNat) (fun d hd => by
    obtain ⟨j, hj, rfl⟩ := List.mem_map.mp hd
    have hj' := List.mem_range.mp hj
    have hn : isKey (.int (lo + (j : Int))) := an_2 (by omega) (by omega)
    have hkn := kn _ hn
    refine ⟨_, rfl, ?_, fun _ => ⟨_, rfl, rfl⟩⟩
    have hin : inK true (.int (lo + (j : Int))) (.dic (h_8 ks)) = .ok (.sh (.bl (!p_9 (.int (lo + (j : Int))) ks))) := by
     have hh : hasA (h_8 ks) (kOf (.int (lo + (j : Int)))) = p_9 (.int (lo + (j : Int))) ks := by
      rw [Bool.eq_iff_iff, bn_5 hk hn, af_0 hn hk]
     simp only [inK, ar_2 hn, hh, if_true]
    have hm : ∀ r : DE, ∀ b1 b2 b3 b4 b5 b6 b7 : Option D, h_5 "knows" 1 [("Marked", d_1)] (eVar 0) (aCons (eVar 8) aNil) (some M :: b1 :: b2 :: b3 :: b4 :: b5 :: b6 :: b7 :: some (.int (lo + (j : Int))) :: r) = .ok (.sh (.bl (g (lo + (j : Int))))) := fun r b1 b2 b3 b4 b5 b6 b7 => by
     rw [← hM] at hkn ⊢
     exact (bu_2 (k := 1) cy_6 _ _ _ [.int (lo + (j : Int))] rfl rfl rfl).trans hkn
    show k_5 [some M, some (.lst ks), some (.int lo), some (.int hi), some (.dic (h_8 ks)), Sl.any a5, some (.int lo), some (.int (hi + 1)), some (.int (lo + (j : Int)))] = _
    cases hb : p_9 (.int (lo + (j : Int))) ks with
    | true =>
     rw [hb] at hin
     simp_arith [k_5, evs, hin, hb]
    | false =>
     rw [hb] at hin
     simp_arith [k_5, evs, hin, hm, hb])
   rw [List.map_id'] at hcl
   refine hcl.trans ?_
   unfold g_8 u_8
   rw [List.filter_map, List.filter_map, List.map_map]
   rfl
 refine l_6 ?_
 unfold ac_4
 refine (b_0 (Δ' := [.sh M, .sh (.lst ks), .sh (.int lo), .sh (.int hi), .no, .no, .no, .no]) (by simp_arith [evs, e])).trans ?_
 refine (b_0 (Δ' := [.sh M, .sh (.lst ks), .sh (.int lo), .sh (.int hi), .no, .no, .no, .no]) (by simp_arith [evs, n_4, bj_6, show ¬ (2000 : Int) ≤ hi - lo by omega])).trans ?_
 refine (b_0 (Δ' := [.sh M, .sh (.lst ks), .sh (.int lo), .sh (.int hi), .ow (.dic []), .no, .no, .no]) rfl).trans ?_
 rw [b_0 t4]
 refine (b_0 (Δ' := [.sh M, .sh (.lst ks), .sh (.int lo), .sh (.int hi), .ow (.dic (h_8 ks)), a5, .sh (.int lo), .no]) (by simp_arith [evs, ap_8, show max lo 0 = lo by omega])).trans ?_
 refine (b_0 (Δ' := [.sh M, .sh (.lst ks), .sh (.int lo), .sh (.int hi), .ow (.dic (h_8 ks)), a5, .sh (.int lo), .sh (.int (hi + 1))]) (by simp_arith [evs, bc_0, show min hi 999999999999999999 = hi by omega, e_2])).trans ?_
 unfold sRet
 rw [ec]
theorem cr_0 : s_7 [.exn "NoRange" [] []] = .ok (.sh (.bl true)) := by rfl
theorem bu_3 {M : D} {ks : List D} {lo hi : Int} (e : f_6 [M, .lst ks, .int lo, .int hi] = .ex xNoRange) : p_1 [M, .lst ks, .int lo, .int hi] = .ok (.sh (.bl true)) := by
 have lk : ([("NoKey", false), ("NoKeys", false), ("NoRange", true), ("NoTry", false), ("Twice", false)] : List (Str × Bool)).lookup xNoRange.c = some true := by decide +kernel
 have hb : l_8 [.sh M, .sh (.lst ks), .sh (.int lo), .sh (.int hi), .sh (.bl false), .no] = .ex xNoRange [.sh M, .sh (.lst ks), .sh (.int lo), .sh (.int hi), .sh (.bl false), .no] := by
  simp_arith [l_8, exG, evs, e]
 have ht : w_1 l_8 [⟨some 5, [("NoKey", false), ("NoKeys", false), ("NoRange", true), ("NoTry", false), ("Twice", false)], i_6⟩] [.sh M, .sh (.lst ks), .sh (.int lo), .sh (.int hi), .sh (.bl false), .no] = .nx [.sh M, .sh (.lst ks), .sh (.int lo), .sh (.int hi), .sh (.bl true), .no] := by
  have ha := cr_0
  unfold w_1
  simp only [hb, tryH, lk, hdGo]
  show cm_7 5 (i_6 [.sh M, .sh (.lst ks), .sh (.int lo), .sh (.int hi), .sh (.bl false), .sh (.exn "NoRange" [] [])]) = _
  have hh : i_6 [.sh M, .sh (.lst ks), .sh (.int lo), .sh (.int hi), .sh (.bl false), .sh (.exn "NoRange" [] [])] = .nx [.sh M, .sh (.lst ks), .sh (.int lo), .sh (.int hi), .sh (.bl true), .sh (.exn "NoRange" [] [])] := by
   simp_arith [i_6, evs, ha]
  rw [hh]
  rfl
 have t1 : sSet 4 [] (eC (.bl false)) (start3 6 [M, .lst ks, .int lo, .int hi]) = .nx [.sh M, .sh (.lst ks), .sh (.int lo), .sh (.int hi), .sh (.bl false), .no] := rfl
 refine l_6 ?_
 unfold aa_9
 rw [b_0 t1, b_0 ht]
 rfl
theorem cy_9 (ns : List Int) : neD (.lst (ns.map .int)) (.lst (ns.map .int)) = .ok (.sh (.bl false)) := cn_8 1 (cn_9 0 (fun i => i) ns)
theorem ar_9 {M : D} {ks : List D} (hk : ∀ k ∈ ks, isKey k) {lo hi : Int} {L : List Int} (hl : L.length ≤ 3000) (e : f_6 [M, .lst ks, .int lo, .int hi] = .ok (.ow (.lst (L.map .int)))) : g_3 [M, .lst ks, .int lo, .int hi, .lst (L.map .int)] = .ok (.sh (.bl true)) := by
 have nk := cy_4 hk
 have nl := cy_9 L
 have nn : neD (.lst []) (.lst []) = .ok (.sh (.bl false)) := rfl
 have zm : (L.map D.int).length < 16777216 := by rw [List.length_map]; omega
 have hc : c_6 1 (iOf (eVar 6)) (gC 7) l_5 (eVar 7) (vall [.sh M, .sh (.lst ks), .sh (.int lo), .sh (.int hi), .sh (.lst (L.map .int)), .sh (.lst ks), .ow (.lst (L.map .int))]) = .ok (.ow (.lst [])) := by
  refine i_2 (m := 1) (ds := L.map .int) rfl (by rw [List.length_map]; omega) ?_
  have hcl := q_6 (fg := gC 7) (p := l_5) (f := eVar 7) (δ := vall [.sh M, .sh (.lst ks), .sh (.int lo), .sh (.int hi), .sh (.lst (L.map .int)), .sh (.lst ks), .ow (.lst (L.map .int))] ++ List.replicate 1 none) (fun _ => false) (fun d => d) (L.map .int) (fun d hd => by
   obtain ⟨i, hi', rfl⟩ := List.mem_map.mp hd
   have hw := cf_7 i
   refine ⟨_, rfl, ?_, fun _ => ⟨_, rfl, rfl⟩⟩
   show l_5 [some M, some (.lst ks), some (.int lo), some (.int hi), some (.lst (L.map .int)), some (.lst ks), some (.lst (L.map .int)), some (.int i)] = _
   simp_arith [l_5, evs, hw])
  refine hcl.trans ?_
  rw [List.filter_eq_nil_iff.mpr (fun _ _ => Bool.false_ne_true)]
  rfl
 refine l_6 ?_
 unfold aj_8
 refine (b_0 (Δ' := [.sh M, .sh (.lst ks), .sh (.int lo), .sh (.int hi), .sh (.lst (L.map .int)), .ow (.lst ks), .no]) rfl).trans ?_
 refine (b_0 (Δ' := [.sh M, .sh (.lst ks), .sh (.int lo), .sh (.int hi), .sh (.lst (L.map .int)), .sh (.lst ks), .ow (.lst (L.map .int))]) (by simp_arith [evs, e])).trans ?_
 refine (b_0 (Δ' := [.sh M, .sh (.lst ks), .sh (.int lo), .sh (.int hi), .sh (.lst (L.map .int)), .sh (.lst ks), .ow (.lst (L.map .int))]) (by simp_arith [evs, nl, nk])).trans ?_
 refine (b_0 (Δ' := [.sh M, .sh (.lst ks), .sh (.int lo), .sh (.int hi), .sh (.lst (L.map .int)), .sh (.lst ks), .ow (.lst (L.map .int))]) (by
  unfold sIf eTest eOp
  rw [hc]
  simp_arith [evs, nn])).trans ?_
 refine (b_0 (Δ' := [.sh M, .sh (.lst ks), .sh (.int lo), .sh (.int hi), .sh (.lst (L.map .int)), .sh (.lst ks), .ow (.lst (L.map .int ++ [.int lo]))]) (by simp_arith [sApp, evs, zm])).trans ?_
 rfl
theorem cr_1 {ks : List D} (hk : ∀ k ∈ ks, isKey k) (g : Int → Bool) (lo : Int) (k : Nat) (h0 : 0 ≤ lo) (h1 : lo + k ≤ 1000000000000000000) : u_8 ks.reverse g lo k = u_8 ks g lo k := by
 unfold u_8
 apply List.filter_congr
 intro n hn
 obtain ⟨j, hj, rfl⟩ := List.mem_map.mp hn
 have hj' := List.mem_range.mp hj
 have hn : isKey (.int (lo + (j : Int))) := an_2 (by omega) (by omega)
 have : p_9 (.int (lo + (j : Int))) ks.reverse = p_9 (.int (lo + (j : Int))) ks := by
  rw [Bool.eq_iff_iff, af_0 hn hk, af_0 hn (fun k hk' => hk k (List.mem_reverse.mp hk')), List.mem_reverse]
 rw [this]
theorem cr_2 (ns : List Int) (hn : ns.length ≤ 63) : ∃ v, cn_5 [.lst (ns.map .int)] = .ok v ∧ v.d = .bl true := by
 obtain ⟨ks0, di, hl0, hk0, hd0, ek⟩ := cx_5 ns 2 20 hn (by decide) (by decide) (by decide) (by decide)
 have er := ah_7 ns 1 (by decide)
 generalize ns.getD (1 : Int).toNat 0 = c at er
 have p18 : powD (.int 10) (.int 18) = .ok (.sh (.int 1000000000000000000)) := bs_1 (ap_7 (i := 10) (j := 18) (by decide) (by decide) (by decide) (by decide))
 have p6 : powD (.int 10) (.int 6) = .ok (.sh (.int 1000000)) := bs_1 (ap_7 (i := 10) (j := 6) (by decide) (by decide) (by decide) (by decide))
 obtain ⟨kd, hkd, ekd⟩ : ∃ kd : Int, (kd = 2 ∨ kd = 3) ∧ 2 + c % 2 = kd := ⟨2 + c % 2, by omega, rfl⟩
 obtain ⟨q, hq, eq⟩ : ∃ q : Int, (q = 6 ∨ q = 32) ∧ ixD (.lst [.int 6, .int 6, .int 6, .int 32]) (.int (c / 64 % 4)) = .ok (.sh (.int q)) := by
  have : c / 64 % 4 = 0 ∨ c / 64 % 4 = 1 ∨ c / 64 % 4 = 2 ∨ c / 64 % 4 = 3 := by omega
  rcases this with e | e | e | e
  ·exact ⟨6, .inl rfl, by rw [e]; rfl⟩
  ·exact ⟨6, .inl rfl, by rw [e]; rfl⟩
  ·exact ⟨6, .inl rfl, by rw [e]; rfl⟩
  ·exact ⟨32, .inr rfl, by rw [e]; rfl⟩
 have b0 := Int.emod_nonneg (c / 2) (show q ≠ 0 by omega)
 have b1 := Int.emod_lt_of_pos (c / 2) (show 0 < q by omega)
 obtain ⟨w, hw0, ew⟩ : ∃ w : Nat, w ≤ 100 ∧ 1 + c / 2 % q = (w : Int) := ⟨(1 + c / 2 % q).toNat, by omega, by omega⟩
 obtain ⟨u, hu, eu⟩ : ∃ u : Int, (u = 1000 ∨ u = 1000000000000000000 - 4000) ∧ ixD (.lst [.int 1000, .int (1000000000000000000 - 4000)]) (.int (c / 128 % 2)) = .ok (.sh (.int u)) := by
  have : c / 128 % 2 = 0 ∨ c / 128 % 2 = 1 := by omega
  rcases this with e | e
  ·exact ⟨1000, .inl rfl, by rw [e]; rfl⟩
  ·exact ⟨1000000000000000000 - 4000, .inr rfl, by rw [e]; rfl⟩
 have c0 := Int.emod_nonneg (c / 256) (show u ≠ 0 by omega)
 have c1 := Int.emod_lt_of_pos (c / 256) (show 0 < u by omega)
 obtain ⟨l0, hl0a, hl0b, el0⟩ : ∃ l0 : Int, 1 ≤ l0 ∧ l0 ≤ 999999999999996000 ∧ 1 + c / 256 % u = l0 := ⟨1 + c / 256 % u, by omega, by omega, rfl⟩
 obtain ⟨lo, hloa, hlob, t6⟩ : ∃ lo : Int, 1 ≤ lo ∧ lo ≤ 999999999999996000 ∧ ae_8 [.sh (.lst (ns.map .int)), .ow (.lst ks0), .sh (.int c), .sh (.int kd), .sh (.int (w : Int)), .sh (.int l0), .no, .no, .no, .no, .no, .no, .no, .no, .no] = .nx [.sh (.lst (ns.map .int)), .ow (.lst ks0), .sh (.int c), .sh (.int kd), .sh (.int (w : Int)), .sh (.int lo), .no, .no, .no, .no, .no, .no, .no, .no, .no] := by
  obtain ⟨k0, kr, rfl⟩ : ∃ k0 kr, ks0 = k0 :: kr := by
   cases ks0 with
   | nil => exact absurd rfl di
   | cons a b => exact ⟨a, b, rfl⟩
  have hx : ixD (.lst (k0 :: kr)) (.int 0) = .ok (.sh k0) := ab_8 (bs_2 (by decide) rfl)
  by_cases h0 : c / 512 % 4 = 0
  ·rcases hk0 k0 List.mem_cons_self with ⟨n, rfl, n0, n1⟩ | ⟨l, rfl, _, _⟩
   ·have m0 := Int.emod_nonneg (c / 2048) (show (9 : Int) ≠ 0 by decide)
    refine ⟨max 1 (min (n - c / 2048 % 9) (1000000000000000000 - 4000)), by omega, by omega, ?_⟩
    simp_arith [ae_8, evs, f_9 (show (0 : Int) < 512 by decide) (by decide), c_5 (show (0 : Int) < 4 by decide), d_9, h0, hx, f_9 (show (0 : Int) < 2048 by decide) (by decide), c_5 (show (0 : Int) < 9 by decide), n_4, p18, bc_0, ap_8]
   ·refine ⟨l0, hl0a, hl0b, ?_⟩
    simp_arith [ae_8, evs, f_9 (show (0 : Int) < 512 by decide) (by decide), c_5 (show (0 : Int) < 4 by decide), d_9, h0, hx]
  ·refine ⟨l0, hl0a, hl0b, ?_⟩
   simp_arith [ae_8, evs, f_9 (show (0 : Int) < 512 by decide) (by decide), c_5 (show (0 : Int) < 4 by decide), d_9, h0]
 have f0 := Int.emod_nonneg (c / 4096) (show (301 : Int) ≠ 0 by decide)
 have f1 := Int.emod_lt_of_pos (c / 4096) (show (0 : Int) < 301 by decide)
 obtain ⟨hi, hhia, hhib, ehi⟩ : ∃ hi : Int, lo - 1 ≤ hi ∧ hi ≤ lo + 299 ∧ lo - 1 + c / 4096 % 301 = hi := ⟨lo - 1 + c / 4096 % 301, by omega, by omega, rfl⟩
 obtain ⟨ks, a9, a14, hpos, hlk, hk, hd, t8⟩ : ∃ (ks : List D) (a9 a14 : Sl), 0 < ks.length ∧ ks.length ≤ 40 ∧ (∀ k ∈ ks, isKey k) ∧ ks.Nodup ∧ am_7 [.sh (.lst (ns.map .int)), .ow (.lst ks0), .sh (.int c), .sh (.int kd), .sh (.int (w : Int)), .sh (.int lo), .sh (.int hi), .no, .no, .no, .no, .no, .no, .no, .no] = .nx [.sh (.lst (ns.map .int)), .ow (.lst ks), .sh (.int c), .sh (.int kd), .sh (.int (w : Int)), .sh (.int lo), .sh (.int hi), .no, .no, a9, .no, .no, .no, .no, a14] := by
  have hp0 : 0 < ks0.length := List.length_pos_iff.mpr di
  by_cases h0 : c / 16384 % 2 = 0
  ·have g0 := Int.emod_nonneg (c / 32768) (show (20 : Int) ≠ 0 by decide)
   have g1 := Int.emod_lt_of_pos (c / 32768) (show (0 : Int) < 20 by decide)
   obtain ⟨z, ez⟩ := bd_7 ns 1 (by decide) (by decide)
   obtain ⟨Δ', e, ks, a9, a14, h1, h2, h3, h4, rfl⟩ := u_5 (gV 9) bz_1 (fun k Δ => ∃ (ks : List D) (a9 a14 : Sl), 0 < ks.length ∧ ks.length ≤ ks0.length + k ∧ (∀ k ∈ ks, isKey k) ∧ ks.Nodup ∧ Δ = [.sh (.lst (ns.map .int)), .ow (.lst ks), .sh (.int c), .sh (.int kd), .sh (.int (w : Int)), .sh (.int lo), .sh (.int hi), .no, .no, a9, .no, .no, .no, .no, a14]) (n := (c / 32768 % 20).toNat) (lo := 0) (Δ := [.sh (.lst (ns.map .int)), .ow (.lst ks0), .sh (.int c), .sh (.int kd), .sh (.int (w : Int)), .sh (.int lo), .sh (.int hi), .no, .no, .no, .no, .no, .no, .no, .no])
    ⟨ks0, _, _, hp0, by omega, hk0, hd0, rfl⟩ (fun k Δ hk' hI => by
     obtain ⟨ks, a9, a14, h1, h2, h3, h4, rfl⟩ := hI
     have em := ah_6 z (0 + (k : Int)) (by omega) (by omega)
     have r0 := Int.emod_nonneg (mixZ z (0 + (k : Int))) (show (300 : Int) ≠ 0 by decide)
     have r1 := Int.emod_lt_of_pos (mixZ z (0 + (k : Int))) (show (0 : Int) < 300 by decide)
     obtain ⟨n, hna, hnb, en⟩ : ∃ n : Int, 0 ≤ n ∧ n ≤ 999999999999999999 ∧ lo + mixZ z (0 + (k : Int)) % 300 = n := ⟨_, by omega, by omega, rfl⟩
     have hnk : isKey (.int n) := an_2 hna hnb
     have ni := ar_0 hnk h3
     have s1 : sSet 14 [0, 5, 9] (eOp d_7 (eVar 5) (eOp h_4 (eFn 2 f_4 (aCons (eFn 2 f_5 (aCons (eVar 0) (aCons (eC (.int 1)) aNil))) (aCons (eVar 9) aNil))) (eC (.int 300)))) [.sh (.lst (ns.map .int)), .ow (.lst ks), .sh (.int c), .sh (.int kd), .sh (.int (w : Int)), .sh (.int lo), .sh (.int hi), .no, .no, .sh (.int (0 + (k : Int))), .no, .no, .no, .no, a14] = .nx [.sh (.lst (ns.map .int)), .ow (.lst ks), .sh (.int c), .sh (.int kd), .sh (.int (w : Int)), .sh (.int lo), .sh (.int hi), .no, .no, .sh (.int (0 + (k : Int))), .no, .no, .no, .no, .sh (.int n)] := by
      simp_arith [evs, ez, em, c_5 (show (0 : Int) < 300 by decide), e_2, en]
     have zm : ks.length < 16777216 := by omega
     cases hb : p_9 (.int n) ks with
     | true =>
      rw [hb] at ni
      refine ⟨_, rfl, [.sh (.lst (ns.map .int)), .ow (.lst ks), .sh (.int c), .sh (.int kd), .sh (.int (w : Int)), .sh (.int lo), .sh (.int hi), .no, .no, .sh (.int (0 + (k : Int))), .no, .no, .no, .no, .sh (.int n)], .inl ((b_0 s1).trans ?_), ks, _, _, h1, by omega, h3, h4, rfl⟩
      simp_arith [evs, ni]
     | false =>
      rw [hb] at ni
      have bu : (.int n : D) ∉ ks := fun hm => by rw [(af_0 hnk h3).mpr hm] at hb; cases hb
      refine ⟨_, rfl, [.sh (.lst (ns.map .int)), .ow (.lst (ks ++ [.int n])), .sh (.int c), .sh (.int kd), .sh (.int (w : Int)), .sh (.int lo), .sh (.int hi), .no, .no, .sh (.int (0 + (k : Int))), .no, .no, .no, .no, .sh (.int n)], .inl ((b_0 s1).trans ?_), ks ++ [.int n], _, _, by simp, by rw [List.length_append, List.length_singleton]; omega, fun x hx => ?_, ?_, rfl⟩
      ·simp_arith [evs, ni, sApp, zm]
      ·rcases List.mem_append.mp hx with hx | hx
       ·exact h3 x hx
       ·rw [List.mem_singleton.mp hx]; exact hnk
      ·rw [List.nodup_append]
       refine ⟨h4, by simp, fun a ha b hb' e => ?_⟩
       rw [List.mem_singleton.mp hb'] at e
       exact bu (e ▸ ha))
   refine ⟨ks, a9, a14, h1, by omega, h3, h4, ?_⟩
   simp_arith [am_7, evs, h_2, f_9 (show (0 : Int) < 16384 by decide) (by decide), c_5 (show (0 : Int) < 2 by decide), d_9, h0, f_9 (show (0 : Int) < 32768 by decide) (by decide), c_5 (show (0 : Int) < 20 by decide), o_7 (show (-4611686018427387903 : Int) ≤ c / 32768 % 20 by omega) (by omega), e]
  ·refine ⟨ks0, .no, .no, hp0, by omega, hk0, hd0, ?_⟩
   simp_arith [am_7, evs, f_9 (show (0 : Int) < 16384 by decide) (by decide), c_5 (show (0 : Int) < 2 by decide), d_9, h0]
 have h0 : Ks ks 0 kd := ⟨hk, hd, by omega, by omega, by decide, by decide, hkd⟩
 refine ⟨.sh (.bl true), ?_, rfl⟩
 unfold cn_5
 refine l_6 ?_
 unfold cz_9
 refine (b_0 (Δ' := [.sh (.lst (ns.map .int)), .ow (.lst ks0), .no, .no, .no, .no, .no, .no, .no, .no, .no, .no, .no, .no, .no]) (by simp_arith [bz_2, evs, ek])).trans ?_
 refine (b_0 (Δ' := [.sh (.lst (ns.map .int)), .ow (.lst ks0), .sh (.int c), .no, .no, .no, .no, .no, .no, .no, .no, .no, .no, .no, .no]) (by simp_arith [bz_3, evs, er])).trans ?_
 refine (b_0 (Δ' := [.sh (.lst (ns.map .int)), .ow (.lst ks0), .sh (.int c), .sh (.int kd), .no, .no, .no, .no, .no, .no, .no, .no, .no, .no, .no]) (by simp_arith [bz_4, evs, c_5 (show (0 : Int) < 2 by decide), e_2, ekd])).trans ?_
 refine (b_0 (Δ' := [.sh (.lst (ns.map .int)), .ow (.lst ks0), .sh (.int c), .sh (.int kd), .sh (.int (w : Int)), .no, .no, .no, .no, .no, .no, .no, .no, .no, .no]) (by simp_arith [bz_5, evs, f_9 (show (0 : Int) < 2 by decide) (by decide), f_9 (show (0 : Int) < 64 by decide) (by decide), c_5 (show (0 : Int) < 4 by decide), eq, c_5 (show 0 < q by omega), e_2, ew])).trans ?_
 refine (b_0 (Δ' := [.sh (.lst (ns.map .int)), .ow (.lst ks0), .sh (.int c), .sh (.int kd), .sh (.int (w : Int)), .sh (.int l0), .no, .no, .no, .no, .no, .no, .no, .no, .no]) (by simp_arith [bz_6, evs, p18, n_4, f_9 (show (0 : Int) < 256 by decide) (by decide), f_9 (show (0 : Int) < 128 by decide) (by decide), c_5 (show (0 : Int) < 2 by decide), eu, c_5 (show 0 < u by omega), e_2, el0])).trans ?_
 rw [b_0 t6]
 refine (b_0 (Δ' := [.sh (.lst (ns.map .int)), .ow (.lst ks0), .sh (.int c), .sh (.int kd), .sh (.int (w : Int)), .sh (.int lo), .sh (.int hi), .no, .no, .no, .no, .no, .no, .no, .no]) (by simp_arith [bz_7, evs, n_4, f_9 (show (0 : Int) < 4096 by decide) (by decide), c_5 (show (0 : Int) < 301 by decide), e_2, ehi])).trans ?_
 rw [b_0 t8]
 rcases cp_9 h0 20 (by decide) (by decide) with f1 | ⟨s, hs, f1, f2⟩
 ·have mno := at_8 w (cy_5 w f1)
  have t9 : am_8 [.sh (.lst (ns.map .int)), .ow (.lst ks), .sh (.int c), .sh (.int kd), .sh (.int (w : Int)), .sh (.int lo), .sh (.int hi), .no, .no, a9, .no, .no, .no, .no, a14] = .nx [.sh (.lst (ns.map .int)), .ow (.lst ks), .sh (.int c), .sh (.int kd), .sh (.int (w : Int)), .sh (.int lo), .sh (.int hi), .sh .non, .no, a9, .no, .no, .no, .no, a14] := by
   simp_arith [am_8, evs, mno]
  rw [b_0 t9]
  rfl
 ·obtain ⟨T, i1, i2, i3, i4⟩ := bo_0 h0 w hw0 (by omega) f1 f2
  have mok := at_9 w i4
  obtain ⟨_, _, pp0, pp1⟩ := an_0 (ks.length : Int) kd (by omega) (by omega) hkd
  have HM : MkOk (s : Int) kd (f_2 (ks.length : Int) kd) T := ⟨by omega, by omega, hkd, pp0, pp1, i1⟩
  have hkr : ∀ k ∈ ks.reverse, isKey k := fun k h => hk k (List.mem_reverse.mp h)
  have hdr : ks.reverse.Nodup := (List.reverse_perm ks).nodup_iff.mpr hd
  have due := fun lo hi => dg_8 (c := (ks.length : Int)) HM hw0 hk lo hi
  have mis := fun lo hi => ca_4 (c := (ks.length : Int)) HM hw0 hk hd (by omega) lo hi
  have bp := fun lo hi => ca_4 (c := (ks.length : Int)) HM hw0 hkr hdr (by rw [List.length_reverse]; omega) lo hi
  have mno := fun lo hi => cy_8 (M := mrkO (ks.length : Int) (w : Int) (k_6 (s : Int) kd (f_2 (ks.length : Int) kd) (2 ^ w) T)) hk lo hi
  generalize hM : mrkO (ks.length : Int) (w : Int) (k_6 (s : Int) kd (f_2 (ks.length : Int) kd) (2 ^ w) T) = M at due mis bp mno
  have fu : k_4 [.lst ks, .int (w : Int), .int kd] = .ok (.sh M) := by rw [mok, ← hM]; rfl
  obtain ⟨oc, on, ov, hMM⟩ : ∃ oc on ov, M = .obj oc on ov := by rw [← hM]; exact ⟨_, _, _, rfl⟩
  have flM : flatD M = false := by rw [← hM]; rfl
  generalize s_9 T (s : Int) kd (f_2 (ks.length : Int) kd) (2 ^ w) = g at due mis bp
  obtain ⟨Δ', e12, b9, rfl⟩ := u_5 (gV 9) bd_5 (fun k Δ => ∃ b9, Δ = [.sh (.lst (ns.map .int)), .sh (.lst ks), .sh (.int c), .sh (.int kd), .sh (.int (w : Int)), .sh (.int lo), .sh (.int hi), .sh M, .sh (.int (2 ^ k)), b9, .no, .no, .no, .no, a14]) (n := w) (lo := 0) (Δ := [.sh (.lst (ns.map .int)), .sh (.lst ks), .sh (.int c), .sh (.int kd), .sh (.int (w : Int)), .sh (.int lo), .sh (.int hi), .sh M, .sh (.int 1), a9, .no, .no, .no, .no, a14]) ⟨_, rfl⟩ (fun k Δ hk' hI => by
   obtain ⟨b9, rfl⟩ := hI
   refine ⟨_, rfl, [.sh (.lst (ns.map .int)), .sh (.lst ks), .sh (.int c), .sh (.int kd), .sh (.int (w : Int)), .sh (.int lo), .sh (.int hi), .sh M, .sh (.int (2 ^ (k + 1))), .sh (.int (0 + (k : Int))), .no, .no, .no, .no, a14], .inl ?_, _, rfl⟩
   simp_arith [bd_5, evs, f_8 (m_1 (show (-18446744073709551616 : Int) < 2 by decide) (by decide))]
   rw [Int.pow_succ, Int.mul_comm])
  have hw' : ((w : Int)).toNat = w := by omega
  have du := due lo hi (by omega) (by omega) (by omega) (by omega) (by omega)
  have mi := mis lo hi (by omega) (by omega) (by omega) (by omega) (by omega)
  have mr := bp lo hi (by omega) (by omega) (by omega) (by omega) (by omega)
  rw [cr_1 hk g lo _ (by omega) (by omega)] at mr
  have ll : ∀ (lo : Int) (k : Nat), k ≤ 3000 → (u_8 ks g lo k).length ≤ 3000 := fun lo k h => Nat.le_trans (bo_1 ks g lo k) h
  have as1 := ar_9 hk (ll lo _ (by omega)) mi
  have as2 := ar_9 hkr (ll lo _ (by omega)) mr
  have cz := mis lo (lo + 1999) (by omega) (by omega) (by omega) (by omega) (by omega)
  obtain ⟨near, hna, hnb, en⟩ : ∃ near : Int, 999999999999999959 ≤ near ∧ near ≤ 999999999999999999 ∧ (1000000000000000000 : Int) - 1 - c / 64 % 40 = near := ⟨1000000000000000000 - 1 - c / 64 % 40, by omega, by omega, rfl⟩
  have cw := due near (1000000000000000000 - 1) (by omega) (by omega) (by omega) (by omega) (by omega)
  have de := ar_9 hk (ll near _ (by omega)) (mis near (1000000000000000000 - 1) (by omega) (by omega) (by omega) (by omega) (by omega))
  have df := mis (hi + 1) (lo - 1) (by omega) (by omega) (by omega) (by omega) (by omega)
  rw [show (lo - 1 + 1 - (hi + 1)).toNat = 0 by omega, show u_8 ks g (hi + 1) 0 = [] from rfl] at df
  generalize u_8 ks g lo (hi + 1 - lo).toNat = L at du as1 as2
  generalize u_8 ks g near (1000000000000000000 - 1 + 1 - near).toNat = L2 at cw de
  generalize u_8 ks g lo (lo + 1999 + 1 - lo).toNat = L3' at cz
  have hrv : c_6 1 (iRev (eVar 1)) (gC 15) (fun _ => .ok true) (eVar 15) (vall [.sh (.lst (ns.map .int)), .sh (.lst ks), .sh (.int c), .sh (.int kd), .sh (.int (w : Int)), .sh (.int lo), .sh (.int hi), .sh M, .sh (.int (2 ^ w)), b9, .ow (.lst (L.map .int)), .no, .no, .no, a14]) = .ok (.ow (.lst ks.reverse)) := by
   refine i_2 (m := 1) (ds := ks.reverse) rfl (by rw [List.length_reverse]; omega) ?_
   have := x_3 (fg := gC 15) (f := eVar 15) (δ := vall [.sh (.lst (ns.map .int)), .sh (.lst ks), .sh (.int c), .sh (.int kd), .sh (.int (w : Int)), .sh (.int lo), .sh (.int hi), .sh M, .sh (.int (2 ^ w)), b9, .ow (.lst (L.map .int)), .no, .no, .no, a14] ++ List.replicate 1 none) (fun d => d) ks.reverse (fun d _ => ⟨_, .sh d, rfl, rfl, rfl⟩)
   rw [List.map_id'] at this
   exact this
  have t15 : aq_9 [.sh (.lst (ns.map .int)), .sh (.lst ks), .sh (.int c), .sh (.int kd), .sh (.int (w : Int)), .sh (.int lo), .sh (.int hi), .sh M, .sh (.int (2 ^ w)), b9, .ow (.lst (L.map .int)), .no, .no, .no, a14] = .nx [.sh (.lst (ns.map .int)), .sh (.lst ks), .sh (.int c), .sh (.int kd), .sh (.int (w : Int)), .sh (.int lo), .sh (.int hi), .sh M, .sh (.int (2 ^ w)), b9, .ow (.lst (L.map .int)), .no, .no, .no, a14] := by
   have hv : tNotF (eTruth (eFn 5 g_3 (aCons (eVar 7) (aCons (c_6 1 (iRev (eVar 1)) (gC 15) (fun _ => .ok true) (eVar 15)) (aCons (eVar 5) (aCons (eVar 6) (aCons (eVar 10) aNil))))))) (vall [.sh (.lst (ns.map .int)), .sh (.lst ks), .sh (.int c), .sh (.int kd), .sh (.int (w : Int)), .sh (.int lo), .sh (.int hi), .sh M, .sh (.int (2 ^ w)), b9, .ow (.lst (L.map .int)), .no, .no, .no, a14]) = .ok false := by
    have ha := (cq_7 (n := 5) (F := g_3) (p_8 (f := eVar 7) (w := .sh M) rfl (p_8 hrv (p_8 (f := eVar 5) (w := .sh (.int lo)) rfl (p_8 (f := eVar 6) (w := .sh (.int hi)) rfl (p_8 (f := eVar 10) (w := .sh (.lst (L.map .int))) rfl (show aNil _ = .ok [] from rfl)))))) rfl).trans as2
    unfold tNotF eTruth
    rw [ha]
    rfl
   unfold aq_9 sIf
   rw [hv]
   rfl
  obtain ⟨Δ', e16, a11, rfl⟩ := g_0 (gV 11) ae_7 (fun k Δ => ∃ a11, Δ = [.sh (.lst (ns.map .int)), .sh (.lst ks), .sh (.int c), .sh (.int kd), .sh (.int (w : Int)), .sh (.int lo), .sh (.int hi), .sh M, .sh (.int (2 ^ w)), b9, .ow (.lst (L.map .int)), a11, .no, .no, a14]) (ds := [.int 2000, .int 2001, .int 1000000, .int (1000000000000000000 - 1 - lo)]) (Δ := [.sh (.lst (ns.map .int)), .sh (.lst ks), .sh (.int c), .sh (.int kd), .sh (.int (w : Int)), .sh (.int lo), .sh (.int hi), .sh M, .sh (.int (2 ^ w)), b9, .ow (.lst (L.map .int)), .no, .no, .no, a14]) ⟨_, rfl⟩ (fun k x Δ hx hI => by
   obtain ⟨a11, rfl⟩ := hI
   obtain ⟨far, rfl⟩ : ∃ far : Int, x = .int far := by
    have := List.mem_of_getElem? hx
    simp only [List.mem_cons, List.not_mem_nil, or_false] at this
    rcases this with rfl | rfl | rfl | rfl <;> exact ⟨_, rfl⟩
   refine ⟨_, rfl, [.sh (.lst (ns.map .int)), .sh (.lst ks), .sh (.int c), .sh (.int kd), .sh (.int (w : Int)), .sh (.int lo), .sh (.int hi), .sh M, .sh (.int (2 ^ w)), b9, .ow (.lst (L.map .int)), .sh (.int far), .no, .no, a14], .inl ?_, _, rfl⟩
   by_cases g1 : 2000 ≤ far
   ·have rf := bu_3 (mno lo (lo + far) (by omega))
    by_cases g2 : lo + far < 1000000000000000000
    ·simp_arith [ae_7, evs, bj_6, g1, e_2, p18, ax_3, g2, rf]
    ·simp_arith [ae_7, evs, bj_6, g1, e_2, p18, ax_3, g2]
   ·simp_arith [ae_7, evs, bj_6, g1])
  have t17 : ae_9 [.sh (.lst (ns.map .int)), .sh (.lst ks), .sh (.int c), .sh (.int kd), .sh (.int (w : Int)), .sh (.int lo), .sh (.int hi), .sh M, .sh (.int (2 ^ w)), b9, .ow (.lst (L.map .int)), a11, .no, .no, a14] = .nx [.sh (.lst (ns.map .int)), .sh (.lst ks), .sh (.int c), .sh (.int kd), .sh (.int (w : Int)), .sh (.int lo), .sh (.int hi), .sh M, .sh (.int (2 ^ w)), b9, .ow (.lst (L.map .int)), a11, .no, .no, a14] := by
   by_cases g1 : c / 16 % 16 = 3
   ·simp_arith [ae_9, evs, f_9 (show (0 : Int) < 16 by decide) (by decide), c_5 (show (0 : Int) < 16 by decide), d_9, g1, e_2, cz]
   ·simp_arith [ae_9, evs, f_9 (show (0 : Int) < 16 by decide) (by decide), c_5 (show (0 : Int) < 16 by decide), d_9, g1]
  refine (b_0 (Δ' := [.sh (.lst (ns.map .int)), .sh (.lst ks), .sh (.int c), .sh (.int kd), .sh (.int (w : Int)), .sh (.int lo), .sh (.int hi), .sh M, .no, a9, .no, .no, .no, .no, a14]) (by simp_arith [am_8, evs, fu, flM])).trans ?_
  refine (b_0 (Δ' := [.sh (.lst (ns.map .int)), .sh (.lst ks), .sh (.int c), .sh (.int kd), .sh (.int (w : Int)), .sh (.int lo), .sh (.int hi), .sh M, .no, a9, .no, .no, .no, .no, a14]) (by
   rw [hMM]
   simp_arith [bm_2, evs])).trans ?_
  refine (b_0 (Δ' := [.sh (.lst (ns.map .int)), .sh (.lst ks), .sh (.int c), .sh (.int kd), .sh (.int (w : Int)), .sh (.int lo), .sh (.int hi), .sh M, .sh (.int 1), a9, .no, .no, .no, .no, a14]) (by rfl)).trans ?_
  refine (b_0 (Δ' := [.sh (.lst (ns.map .int)), .sh (.lst ks), .sh (.int c), .sh (.int kd), .sh (.int (w : Int)), .sh (.int lo), .sh (.int hi), .sh M, .sh (.int (2 ^ w)), b9, .no, .no, .no, .no, a14]) (by simp_arith [bm_3, evs, h_2, o_7 (show (-4611686018427387903 : Int) ≤ w by omega) (by omega), hw', e12])).trans ?_
  refine (b_0 (Δ' := [.sh (.lst (ns.map .int)), .sh (.lst ks), .sh (.int c), .sh (.int kd), .sh (.int (w : Int)), .sh (.int lo), .sh (.int hi), .sh M, .sh (.int (2 ^ w)), b9, .ow (.lst (L.map .int)), .no, .no, .no, a14]) (by simp_arith [bm_4, evs, du])).trans ?_
  refine (b_0 (Δ' := [.sh (.lst (ns.map .int)), .sh (.lst ks), .sh (.int c), .sh (.int kd), .sh (.int (w : Int)), .sh (.int lo), .sh (.int hi), .sh M, .sh (.int (2 ^ w)), b9, .ow (.lst (L.map .int)), .no, .no, .no, a14]) (by simp_arith [bm_5, evs, as1])).trans ?_
  rw [b_0 t15]
  refine (b_0 (Δ' := [.sh (.lst (ns.map .int)), .sh (.lst ks), .sh (.int c), .sh (.int kd), .sh (.int (w : Int)), .sh (.int lo), .sh (.int hi), .sh M, .sh (.int (2 ^ w)), b9, .ow (.lst (L.map .int)), a11, .no, .no, a14]) (by simp_arith [bm_6, evs, h_2, p6, p18, n_4, e16])).trans ?_
  rw [b_0 t17]
  refine (b_0 (Δ' := [.sh (.lst (ns.map .int)), .sh (.lst ks), .sh (.int c), .sh (.int kd), .sh (.int (w : Int)), .sh (.int lo), .sh (.int hi), .sh M, .sh (.int (2 ^ w)), b9, .ow (.lst (L.map .int)), a11, .sh (.int (1000000000000000000 - 1)), .no, a14]) (by simp_arith [bm_7, evs, p18, n_4])).trans ?_
  refine (b_0 (Δ' := [.sh (.lst (ns.map .int)), .sh (.lst ks), .sh (.int c), .sh (.int kd), .sh (.int (w : Int)), .sh (.int lo), .sh (.int hi), .sh M, .sh (.int (2 ^ w)), b9, .ow (.lst (L.map .int)), a11, .sh (.int (1000000000000000000 - 1)), .sh (.int near), a14]) (by simp_arith [bm_8, evs, f_9 (show (0 : Int) < 64 by decide) (by decide), c_5 (show (0 : Int) < 40 by decide), n_4, en])).trans ?_
  refine (b_0 (Δ' := [.sh (.lst (ns.map .int)), .sh (.lst ks), .sh (.int c), .sh (.int kd), .sh (.int (w : Int)), .sh (.int lo), .sh (.int hi), .sh M, .sh (.int (2 ^ w)), b9, .ow (.lst (L.map .int)), a11, .sh (.int (1000000000000000000 - 1)), .sh (.int near), a14]) (by simp_arith [bm_9, evs, cw, de])).trans ?_
  have e0 : eqD (.lst []) (.lst []) = .ok (.sh (.bl true)) := rfl
  simp_arith [bn_0, evs, e_2, n_4, df, e0, as1]
end My
set_option maxHeartbeats 20000000
namespace My
open PySem PyProof.Rows L2 L3
def top (i : Nat) : Stmt := PySem.Challenge.pw_lodge_k54_mistaken.main.body.getD i (.Pass ⟨0, 0, 0, 0⟩)
def ai_0 : Stmt → List Stmt
 | .ClassDef (body := b) .. => b
 | _ => []
def inC (i j : Nat) : Stmt := (ai_0 (top i)).getD j (.Pass ⟨0, 0, 0, 0⟩)
section
variable {P : Program} {w : World} {K : Frag} {mg : Str → Option Value} {base : Heap} {f : Addr} {fd : FuncData}
abbrev TF (c : Bool) (x : Str) (k : Nat) (ps : List Str) (F : List D → R W) (P : Program) (w : World) (K : Frag) (mg : Str → Option Value) (base : Heap) : Prop := FnD P w K mg base c x k ps F
abbrev u_9 := TF true "_law_raw" 1 ["_law_script", "_law_k"] h_3
abbrev v_0 := TF true "_law_mix" 1 ["_law_cell_here", "_law_k"] f_4
abbrev ac_5 := TF true "_law_cell" 2 ["_law_script", "_law_k"] f_5
abbrev ak_3 := TF true "_law_great" 2 ["_law_cell_here"] j_7
abbrev ak_4 := TF true "_law_cells" 3 ["_law_script", "_law_start", "_law_most"] m_4
abbrev az_5 := TF true "_law_key" 1 ["_law_cell_here"] m_5
abbrev as_0 := TF true "_law_keys" 4 ["_law_script", "_law_start", "_law_most"] o_0
abbrev ab_0 := TF true "is_key_text" 1 ["text"] l_2
abbrev as_1 := TF true "is_key" 2 ["thing"] r_4
abbrev q_0 := TF true "look_each_key" 3 ["keys"] g_1
abbrev ab_1 := TF true "look_unlike" 3 ["keys"] l_3
abbrev y_6 := TF true "look_keys" 4 ["keys"] j_8
abbrev t_0 := TF true "part_size" 1 ["many", "kind"] h_6
abbrev ca_5 := TF true "worth" 1 ["text"] ae_4
abbrev be_8 := TF true "stamp" 3 ["key"] v_5
abbrev be_9 := TF true "mixed" 1 ["number", "salt", "size"] z_4
abbrev y_7 := TF true "places_of" 4 ["key", "salt", "kind", "part"] e_3
abbrev ac_6 := TF true "edges_of" 5 ["keys", "salt", "kind"] o_1
abbrev ab_2 := TF true "standing_at" 1 ["edges"] o_9
abbrev bo_2 := TF true "peeled" 2 ["edges", "size"] ae_5
abbrev bu_4 := TF true "fate" 6 ["keys", "salt", "kind"] ac_0
abbrev as_2 := TF true "succeeds" 7 ["keys", "salt", "kind"] g_6
abbrev ak_5 := TF true "first_try" 8 ["keys", "kind", "most"] d_5
abbrev ac_7 := TF true "is_below" 1 ["number", "limit"] o_3
abbrev y_8 := TF true "remainder" 1 ["number", "modulus"] m_6
abbrev as_3 := TF true "summed" 2 ["table", "places", "modulus"] k_0
abbrev bo_3 := TF true "filled" 3 ["edges", "size", "order", "wanted", "modulus"] x_8
abbrev ak_6 := TF true "table_for" 7 ["keys", "salt", "kind", "modulus", "wanted"] m_7
abbrev as_4 := TF true "two_to" 1 ["width"] r_7
abbrev bu_5 := TF true "mark" 4 ["key", "width"] ac_3
abbrev af_4 := TF true "_law_marked" 11 ["_law_keys_here", "_law_width", "_law_kind"] k_4
abbrev ak_7 := TF true "_law_tells" 1 ["_law_table", "_law_places", "_law_modulus"] h_7
abbrev ak_8 := TF true "_law_mixed" 1 ["_law_number", "_law_salt", "_law_size"] m_8
abbrev ak_9 := TF true "_law_stamp" 1 ["_law_key_here"] k_1
abbrev az_6 := TF true "_law_due" 7 ["_law_marked_here", "_law_keys_here", "_law_low", "_law_high", "_law_modulus"] u_6
abbrev w_0 := TF true "mistaken" 8 ["marked", "keys", "low", "high"] f_6
abbrev al_0 := TF true "_law_whole" 1 ["_law_found"] p_5
abbrev al_1 := TF true "_law_asked" 9 ["_law_marked_here", "_law_keys_here", "_law_low", "_law_high", "_law_due_here"] g_3
abbrev al_2 := TF false "_law_alone" 1 ["_law_error"] s_7
abbrev ab_3 := TF true "_law_refused" 9 ["_law_marked_here", "_law_keys_here", "_law_low", "_law_high"] p_1
abbrev k_7 : Stmt := (ai_0 (top 4)).getD 0 (.Pass ⟨0, 0, 0, 0⟩)
theorem au_0 : FnScope ["self", "at"] ["self", "at"] (b_2 k_7) := ⟨rfl, rfl, rfl, by decide +kernel, rfl, by decide +kernel, by decide +kernel⟩
theorem au_1 {C f : Addr} {fd : FuncData} (F : Fun K "__init__" "Twice.__init__" k_7 f fd) (xc : XCls K C) (hn : findIn K (.ref C) "at" = some none) : FnX P w K mg base false 1 f fd ["self", "at"] (aq_0 C "at") :=
 by_4 (k := 0) F au_0 fun zq A outer s H E => az_8 (by_1 xc hn (i_9 rfl (.inl rfl)) (i_9 rfl (.inl rfl)))
abbrev k_8 : Stmt := (ai_0 (top 3)).getD 0 (.Pass ⟨0, 0, 0, 0⟩)
theorem au_2 : FnScope ["self", "at"] ["self", "at"] (b_2 k_8) := ⟨rfl, rfl, rfl, by decide +kernel, rfl, by decide +kernel, by decide +kernel⟩
theorem au_3 {C f : Addr} {fd : FuncData} (F : Fun K "__init__" "NoKey.__init__" k_8 f fd) (xc : XCls K C) (hn : findIn K (.ref C) "at" = some none) : FnX P w K mg base false 1 f fd ["self", "at"] (aq_0 C "at") :=
 by_4 (k := 0) F au_2 fun zq A outer s H E => az_8 (by_1 xc hn (i_9 rfl (.inl rfl)) (i_9 rfl (.inl rfl)))
theorem bu_6 (F : Fun K "_law_raw" "_law_raw" (top 56) f fd) (j2 : mg "len" = none) : FnX P w K mg base true 1 f fd ["_law_script", "_law_k"] (spX K 2 h_3) :=
 c_4 (N := ["_law_script", "_law_k"]) F fun _ _ _ _ _ _ zr zu hu nd zv => (a_4 (e_1 [0, 1] (d_2 bb_0 (a_0 1) (b_7 d_8 rfl j2 PySem.boot_len (a_1 (a_0 0) a_5)) (d_6 _))
   (a_6 (b_4 [0, 1] (q_9 (a_0 0) (a_0 1))))
   c_3)
  (a_6 (b_4 [] a_2)))
theorem bu_7 (F : Fun K "_law_mix" "_law_mix" (top 55) f fd) : FnX P w K mg base true 1 f fd ["_law_cell_here", "_law_k"] (spX K 2 f_4) :=
 c_4 (N := ["_law_cell_here", "_law_k", "_law_first"]) F fun _ _ _ _ _ _ zr zu hu nd zv => (a_4 (a_9 (i := 2) [0, 1] (a_3 b_5 (a_3 c_1 (a_3 b_3 (a_0 0) a_2) (a_3 b_3 a_2 (a_3 c_1 a_2 (a_0 1)))) a_2) nd)
  (a_6 (b_4 [1, 2] (a_3 b_5 (a_3 b_3 (a_3 b_3 (a_3 c_1 (a_3 e_7 (a_0 2) a_2) a_2) (a_3 c_1 (a_0 2) (a_3 b_3 (a_3 c_1 (a_0 1) (a_0 1)) a_2))) (a_0 1)) a_2))))
theorem bo_4 (F : Fun K "_law_cell" "_law_cell" (top 57) f fd) (j1 : v_0 P w K mg base) (j4 : u_9 P w K mg base) : FnX P w K mg base true 2 f fd ["_law_script", "_law_k"] (spX K 2 f_5) :=
 c_4 (N := ["_law_script", "_law_k"]) F fun _ _ _ _ _ _ zr zu hu nd zv => (a_6 (b_4 [0, 1] (a_7 zu zv j1 (a_1 (a_3 b_5 (a_7 zu zv j4 (a_1 (a_0 0) (a_1 (a_0 1) a_5))) a_2) (a_1 (a_3 b_3 (a_0 1) a_2) a_5)))))
theorem bf_0 (F : Fun K "_law_great" "_law_great" (top 59) f fd) (j1 : v_0 P w K mg base) : FnX P w K mg base true 2 f fd ["_law_cell_here"] (spX K 1 j_7) :=
 c_4 (N := ["_law_cell_here"]) F fun _ _ _ _ _ _ zr zu hu nd zv => (a_6 (b_4 [0] (a_3 b_3 (a_3 c_1 (a_3 b_3 (a_3 c_1 (a_7 zu zv j1 (a_1 (a_0 0) (a_1 a_2 a_5))) a_2) (a_7 zu zv j1 (a_1 (a_0 0) (a_1 a_2 a_5)))) a_2) (a_7 zu zv j1 (a_1 (a_0 0) (a_1 a_2 a_5))))))
theorem bf_1 (F : Fun K "_law_cells" "_law_cells" (top 60) f fd) (j4 : u_9 P w K mg base) (o6 : ac_5 P w K mg base) (aa8 : ak_3 P w K mg base) (j1 : v_0 P w K mg base) (ac2 : mg "max" = none) (j2 : mg "len" = none) (g8 : mg "range" = none) (y8 : mg "min" = none) : FnX P w K mg base true 3 f fd ["_law_script", "_law_start", "_law_most"] (spX K 3 m_4) :=
 c_4 (N := ["_law_script", "_law_start", "_law_most", "_law_cells_here", "_law_many"]) F fun _ _ _ _ _ _ zr zu hu nd zv => (a_4 (a_9 (i := 3) [0, 1] (b_7 (u_1 zr) rfl ac2 PyProof.Rows.boot_max (a_1 a_2 (a_1 (a_3 j_0 (b_7 d_8 rfl j2 PySem.boot_len (a_1 (a_0 0) a_5)) (a_0 1)) a_5))) nd)
  (a_4 (e_1 [0] (d_2 (l_9 hu) (a_3 b_5 (a_7 zu zv j4 (a_1 (a_0 0) (a_1 a_2 a_5))) a_2) a_2 (d_6 _))
   (a_6 (b_4 [0, 1, 2, 3] (o_6 (N' := ["_law_script", "_law_start", "_law_most", "_law_cells_here", "_law_many", "_law_k"]) zr (k_2 g8 (a_1 (b_7 (z_0 (cm_9 zr)) rfl y8 PyProof.Rows.boot_min (a_1 (a_0 2) (a_1 (a_0 3) a_5))) a_5)) rfl (by kernel_rfl) rfl (fun C s0 H0 fp pn => ⟨(gcM (i := 5)), x_0, (a_7 (i_7 zu) n_1 j4 (a_1 (a_0 0) (a_1 (a_3 b_3 (a_0 1) (a_0 5)) a_5)))⟩))))
   c_3)
  (a_4 (a_9 (i := 4) [0, 2, 3] (b_7 (z_0 zr) rfl y8 PyProof.Rows.boot_min (a_1 (a_0 2) (a_1 (b_7 (u_1 zr) rfl ac2 PyProof.Rows.boot_max (a_1 (a_0 3) (a_1 (a_3 b_3 a_2 (a_3 b_5 (a_7 zu zv o6 (a_1 (a_0 0) (a_1 a_2 a_5))) (a_0 2))) a_5))) a_5))) nd)
  (a_6 (b_4 [0, 1, 3, 4] (o_6 (N' := ["_law_script", "_law_start", "_law_most", "_law_cells_here", "_law_many", "_law_k"]) zr (k_2 g8 (a_1 (a_0 4) a_5)) rfl (by kernel_rfl) rfl (fun C s0 H0 fp pn => ⟨(gcM (i := 5)), x_0, (a_7 (i_7 zu) n_1 aa8 (a_1 (a_7 (i_7 zu) n_1 j1 (a_1 (a_7 (i_7 zu) n_1 o6 (a_1 (a_0 0) (a_1 (a_3 b_3 (a_0 1) (a_3 b_5 (a_0 5) (b_7 (u_1 (cc_9 zr)) rfl ac2 PyProof.Rows.boot_max (a_1 a_2 (a_1 (a_0 3) a_5))))) a_5))) (a_1 (a_0 5) a_5))) a_5))⟩)))))))
theorem bu_8 (F : Fun K "_law_key" "_law_key" (top 58) f fd) (g8 : mg "range" = none) (x5 : mg "int" = none) : FnX P w K mg base true 1 f fd ["_law_cell_here"] (spX K 1 m_5) :=
 c_4 (N := ["_law_cell_here", "_law_signs", "_law_rest", "_law_found", "_law_size", "_law_k"]) F fun _ _ _ _ _ _ zr zu hu nd zv => (a_4 (a_9 (i := 1) [] bq_4 nd)
  (a_4 (a_9 (i := 2) [0] (a_3 e_7 (a_0 0) a_2) nd)
  (a_4 (e_1 [0] (d_2 (l_9 hu) (a_3 b_5 (a_0 0) a_2) a_2 (d_6 _))
   (a_6 (b_4 [2] (a_3 b_5 (a_0 2) (a_3 v_3 a_2 a_2))))
   c_3)
  (a_4 (e_1 [0] (d_2 (l_9 hu) (a_3 b_5 (a_0 0) a_2) a_2 (d_6 _))
   (a_6 (b_4 [2] (a_3 b_5 (a_0 2) a_2)))
   c_3)
  (a_4 (a_9 (i := 3) [] bq_4 nd)
  (a_4 (a_9 (i := 4) [2] (a_3 b_5 (a_0 2) a_2) nd)
  (a_4 (j_6 [4] c_2 zr (k_2 g8 (a_1 (a_0 4) a_5)) (k_3 (i := 5) nd)
   (a_4 (a_9 (i := 2) [2, 5] (a_3 e_7 (a_0 2) (q_9 (q_8 (a_1 a_2 (a_1 a_2 a_5))) (u_0 bq_9 rfl x5 PyProof.Rows.boot_int (a_1 (af_7 bq_7 (a_0 5) a_2 (d_6 _)) a_5)))) nd)
  (a_6 (a_9 (i := 3) [1, 2, 3] (a_3 b_3 (a_0 3) (q_9 (a_0 1) (a_3 b_5 (a_0 2) a_2))) nd))))
  (a_6 (o_5 3)))))))))
theorem bo_5 (F : Fun K "_law_keys" "_law_keys" (top 61) f fd) (ac4 : ak_4 P w K mg base) (ad1 : az_5 P w K mg base) (j4 : u_9 P w K mg base) : FnX P w K mg base true 4 f fd ["_law_script", "_law_start", "_law_most"] (spX K 3 o_0) :=
 c_4 (N := ["_law_script", "_law_start", "_law_most", "_law_found", "_law_cell_here", "_law_key_here"]) F fun _ _ _ _ _ _ zr zu hu nd zv => (a_4 (a_9 (i := 3) [] (q_8 a_5) nd)
  (a_4 (j_6 [0, 1, 2] c_2 zr (u_4 (a_7 zu zv ac4 (a_1 (a_0 0) (a_1 (a_0 1) (a_1 (a_0 2) a_5))))) (k_3 (i := 4) nd)
   (a_4 (a_9 (i := 5) [4] (a_7 zu zv ad1 (a_1 (a_0 4) a_5)) nd)
  (a_6 (e_1 [3, 5] (d_2 ag_1 (a_0 5) (a_0 3) (by with_unfolding_all rfl))
   (a_6 (ao_7 (i := 3) (a_0 5)))
   c_3))))
  (a_4 (e_1 [3] (d_2 (l_9 hu) (a_0 3) (q_8 a_5) (d_6 _))
   (a_6 (a_9 (i := 3) [0] (q_8 (a_1 (a_7 zu zv ad1 (a_1 (a_3 e_7 (a_7 zu zv j4 (a_1 (a_0 0) (a_1 a_2 a_5))) a_2) a_5)) a_5)) nd))
   c_3)
  (a_6 (o_5 3)))))
theorem as_5 (F : Fun K "is_key_text" "is_key_text" (top 23) f fd) (j2 : mg "len" = none) (bj4 : mg "all" = none) {an0 : Tok} (z9 : mg "MOST_SIGNS" = some (.int 11 an0)) {am8 : Tok} (ac5 : mg "SIGNS" = some (.str "abcdefghijklmnopqrstuvwxyz0123456789-_ " am8)) : FnX P w K mg base true 1 f fd ["text"] (spX K 1 l_2) :=
 c_4 (N := ["text"]) F fun _ _ _ _ _ _ zr zu hu nd zv => (a_6 (b_4 [0] (ao_0 (af_7 bb_1 (b_7 d_8 rfl j2 PySem.boot_len (a_1 (a_0 0) a_5)) (q_1 rfl z9) (d_6 _)) (an_9 (b_7 (cd_1 zr) rfl bj4 PyProof.Rows.boot_all (a_1 (o_6 (N' := ["text", "sign"]) zr (u_4 (a_0 0)) rfl (by kernel_rfl) rfl (fun C s0 H0 fp pn => ⟨(gcM (i := 1)), x_0, (af_7 de_5 (a_0 1) (bw_0 rfl ac5) (by with_unfolding_all rfl))⟩)) a_5))))))
theorem cg_2 (F : Fun K "is_key" "is_key" (top 24) f fd) (y2 : ab_0 P w K mg base) (c6 : mg "isinstance" = none) (aa1 : mg "bool" = none) (x5 : mg "int" = none) (al2 : mg "str" = none) (p9 : KitT K "bool") (o5 : KitT K "int") (ad0 : KitT K "str") {q5 : Tok} (j3 : mg "GREATEST_NUMBER" = some (.int 999999999999999999 q5)) : FnX P w K mg base true 2 f fd ["thing"] (spX K 1 r_4) :=
 c_4 (N := ["thing"]) F fun _ _ _ _ _ _ zr zu hu nd zv => (a_4 (e_1 [0] (c_8 (r_2 p9 (a_0 0) c6 aa1 ag_3))
   (a_6 (b_4 [] p_2))
   c_3)
  (a_4 (e_1 [0] (c_8 (r_2 o5 (a_0 0) c6 x5 PyProof.Rows.boot_int))
   (a_6 (b_4 [0] (bh_2 bb_1 bb_1 a_2 (a_0 0) (q_1 rfl j3))))
   c_3)
  (a_6 (b_4 [0] (ao_0 (r_2 ad0 (a_0 0) c6 al2 PyProof.Rows.boot_str) (an_9 (a_7 zu zv y2 (a_1 (a_0 0) a_5))))))))
theorem ai_1 (F : Fun K "look_each_key" "look_each_key" (top 29) f fd) (y9 : as_1 P w K mg base) (k7 : mg "enumerate" = none) {d0 : Addr} (ad2 : XC P w K mg base "NoKey" "at" d0) : FnX P w K mg base true 3 f fd ["keys"] (spX K 1 g_1) :=
 c_4 (N := ["keys", "place", "key"]) F fun _ _ _ _ _ _ zr zu hu nd zv => (a_6 (j_6 [0] c_2 zr (bb_7 k7 (a_0 0)) (bb_5 (i := 1) (j := 2) zr nd)
   (a_6 (e_1 [2] (q_7 (c_8 (a_7 zu zv y9 (a_1 (a_0 2) a_5))))
   (a_6 (aq_2 [1] ad2 (RoomC.mono zu (by decide)) z_1 (a_0 1)))
   c_3))))
theorem as_6 (F : Fun K "look_unlike" "look_unlike" (top 30) f fd) (k7 : mg "enumerate" = none) {g7 : Addr} (am2 : XC P w K mg base "Twice" "at" g7) : FnX P w K mg base true 3 f fd ["keys"] (spX K 1 l_3) :=
 c_4 (N := ["keys", "seen", "place", "key"]) F fun _ _ _ _ _ _ zr zu hu nd zv => (a_4 (a_9 (i := 1) [] am_5 nd)
  (a_6 (j_6 [0] c_2 zr (bb_7 k7 (a_0 0)) (bb_5 (i := 2) (j := 3) zr nd)
   (a_4 (e_1 [1, 3] (d_2 (df_5 hu) (a_0 3) (a_0 1) (by with_unfolding_all rfl))
   (a_6 (aq_2 [2] am2 (RoomC.mono zu (by decide)) z_1 (a_0 2)))
   c_3)
  (a_6 (bb_8 (i := 1) [] hu p_2 (a_0 3)))))))
theorem bf_2 (F : Fun K "look_keys" "look_keys" (top 31) f fd) (j8 : q_0 P w K mg base) (y0 : ab_1 P w K mg base) (j2 : mg "len" = none) {c9 : Addr} (ag6 : XC0 K mg "NoKeys" c9) {ao0 : Tok} (aa7 : mg "MOST_KEYS" = some (.int 200 ao0)) : FnX P w K mg base true 4 f fd ["keys"] (spX K 1 j_8) :=
 c_4 (N := ["keys"]) F fun _ _ _ _ _ _ zr zu hu nd zv => (a_4 (e_1 [0] (td_w (bw_1 (d_2 (l_9 hu) (b_7 d_8 rfl j2 PySem.boot_len (a_1 (a_0 0) a_5)) a_2 (d_6 _)) (bq_5 (d_2 bq_7 (b_7 d_8 rfl j2 PySem.boot_len (a_1 (a_0 0) a_5)) (q_1 rfl aa7) (d_6 _)))))
   (a_6 (ah_3 ag6 (RoomC.mono zu (by decide)) z_1))
   c_3)
  (a_4 (ad_7 [0] (a_7 zu zv j8 (a_1 (a_0 0) a_5)))
  (a_4 (ad_7 [0] (a_7 zu zv y0 (a_1 (a_0 0) a_5)))
  (a_6 (b_4 [0] (b_7 d_8 rfl j2 PySem.boot_len (a_1 (a_0 0) a_5)))))))
theorem bf_3 (F : Fun K "part_size" "part_size" (top 41) f fd) : FnX P w K mg base true 1 f fd ["many", "kind"] (spX K 2 h_6) :=
 c_4 (N := ["many", "kind"]) F fun _ _ _ _ _ _ zr zu hu nd zv => (a_4 (e_1 [1] (d_2 bb_0 (a_0 1) a_2 (d_6 _))
   (a_6 (b_4 [0] (a_3 b_3 (a_3 b_3 (a_0 0) (a_3 e_7 (a_0 0) a_2)) a_2)))
   c_3)
  (a_6 (b_4 [0] (a_3 b_3 (a_3 e_7 (a_3 c_1 a_2 (a_0 0)) a_2) a_2))))
theorem cr_3 (F : Fun K "worth" "worth" (top 25) f fd) {am8 : Tok} (ac5 : mg "SIGNS" = some (.str "abcdefghijklmnopqrstuvwxyz0123456789-_ " am8)) : FnX P w K mg base true 1 f fd ["text"] (spX K 1 ae_4) :=
 c_4 (N := ["text", "total", "sign"]) F fun _ _ _ _ _ _ zr zu hu nd zv => (a_4 (a_9 (i := 1) [] a_2 nd)
  (a_4 (j_6 [0] c_2 zr (u_4 (a_0 0)) (k_3 (i := 2) nd)
   (a_6 (a_9 (i := 1) [1, 2] (a_3 b_3 (a_3 b_3 (a_3 c_1 a_2 (a_0 1)) (bw_6 PySem.F.plainAttrs_str PySem.F.slot_str_find PySem.F.type_str_find ck_6 (bw_0 rfl ac5) (a_1 (a_0 2) a_5))) a_2) nd)))
  (a_6 (o_5 1))))
theorem cr_4 (F : Fun K "stamp" "stamp" (top 26) f fd) (y9 : as_1 P w K mg base) (am1 : ca_5 P w K mg base) (c6 : mg "isinstance" = none) (al2 : mg "str" = none) (ad0 : KitT K "str") {d0 : Addr} (ad2 : XC P w K mg base "NoKey" "at" d0) : FnX P w K mg base true 3 f fd ["key"] (spX K 1 v_5) :=
 c_4 (N := ["key"]) F fun _ _ _ _ _ _ zr zu hu nd zv => (a_4 (e_1 [0] (q_7 (c_8 (a_7 zu zv y9 (a_1 (a_0 0) a_5))))
   (a_6 (aq_2 [] ad2 (RoomC.mono zu (by decide)) z_1 a_2))
   c_3)
  (a_4 (e_1 [0] (c_8 (r_2 ad0 (a_0 0) c6 al2 PyProof.Rows.boot_str))
   (a_6 (b_4 [0] (a_3 b_3 (a_3 c_1 a_2 (a_7 zu zv am1 (a_1 (a_0 0) a_5))) a_2)))
   c_3)
  (a_6 (b_4 [0] (a_3 c_1 a_2 (a_0 0))))))
theorem cr_5 (F : Fun K "mixed" "mixed" (top 27) f fd) {bq5 : Tok} (ag1 : mg "PRIME" = some (.int 2305843009213693951 bq5)) : FnX P w K mg base true 1 f fd ["number", "salt", "size"] (spX K 3 z_4) :=
 c_4 (N := ["number", "salt", "size", "factor", "shift", "first"]) F fun _ _ _ _ _ _ zr zu hu nd zv => (a_4 (e_1 [2] (d_2 (l_9 hu) (a_0 2) a_2 (d_6 _))
   (a_6 (b_4 [] a_2))
   c_3)
  (a_4 (a_9 (i := 3) [1] (a_3 b_3 a_2 (a_3 b_5 (a_3 b_3 (a_3 c_1 a_2 (a_0 1)) a_2) (a_3 j_0 (q_1 rfl ag1) a_2))) nd)
  (a_4 (a_9 (i := 4) [1] (a_3 b_5 (a_3 b_3 (a_3 c_1 (a_3 c_1 a_2 (a_0 1)) (a_0 1)) (a_3 c_1 a_2 (a_0 1))) (q_1 rfl ag1)) nd)
  (a_4 (a_9 (i := 5) [0, 3, 4] (a_3 b_5 (a_3 b_3 (a_3 c_1 (a_0 3) (a_0 0)) (a_0 4)) (q_1 rfl ag1)) nd)
  (a_6 (b_4 [2, 5] (a_3 b_5 (a_3 b_3 (a_0 5) (a_3 e_7 (a_0 5) a_2)) (a_0 2))))))))
theorem bf_4 (F : Fun K "places_of" "places_of" (top 42) f fd) (ad6 : be_8 P w K mg base) (ad5 : be_9 P w K mg base) (am9 : mg "tuple" = none) (g8 : mg "range" = none) : FnX P w K mg base true 4 f fd ["key", "salt", "kind", "part"] (spX K 4 e_3) :=
 c_4 (N := ["key", "salt", "kind", "part", "number"]) F fun _ _ _ _ _ _ zr zu hu nd zv => (a_4 (a_9 (i := 4) [0] (a_7 zu zv ad6 (a_1 (a_0 0) a_5)) nd)
  (a_6 (b_4 [1, 2, 3, 4] (u_0 br_0 rfl am9 PyProof.Rows.boot_tuple (a_1 (o_6 (N' := ["key", "salt", "kind", "part", "number", "turn"]) zr (k_2 g8 (a_1 (a_0 2) a_5)) rfl (by kernel_rfl) rfl (fun C s0 H0 fp pn => ⟨(gcM (i := 5)), x_0, (a_3 b_3 (a_3 c_1 (a_0 5) (a_0 3)) (a_7 (i_7 zu) n_1 ad5 (a_1 (a_0 4) (a_1 (a_3 b_3 (a_3 c_1 a_2 (a_0 1)) (a_0 5)) (a_1 (a_0 3) a_5)))))⟩)) a_5)))))
theorem bo_6 (F : Fun K "edges_of" "edges_of" (top 43) f fd) (j9 : t_0 P w K mg base) (o8 : y_6 P w K mg base) (p8 : y_7 P w K mg base) : FnX P w K mg base true 5 f fd ["keys", "salt", "kind"] (spX K 3 o_1) :=
 c_4 (N := ["keys", "salt", "kind", "part"]) F fun _ _ _ _ _ _ zr zu hu nd zv => (a_4 (a_9 (i := 3) [0, 2] (a_7 zu zv j9 (a_1 (a_7 zu zv o8 (a_1 (a_0 0) a_5)) (a_1 (a_0 2) a_5))) nd)
  (a_6 (b_4 [0, 1, 2, 3] (o_6 (N' := ["keys", "salt", "kind", "part", "key"]) zr (u_4 (a_0 0)) rfl (by kernel_rfl) rfl (fun C s0 H0 fp pn => ⟨(gcM (i := 4)), x_0, (a_7 (i_7 zu) n_1 p8 (a_1 (a_0 4) (a_1 (a_0 1) (a_1 (a_0 2) (a_1 (a_0 3) a_5)))))⟩)))))
theorem as_7 (F : Fun K "standing_at" "standing_at" (top 37) f fd) (k7 : mg "enumerate" = none) : FnX P w K mg base true 1 f fd ["edges"] (spX K 1 o_9) :=
 c_4 (N := ["edges", "standing", "number", "edge", "place"]) F fun _ _ _ _ _ _ zr zu hu nd zv => (a_4 (a_9 (i := 1) [] am_5 nd)
  (a_4 (j_6 [0] c_2 zr (bb_7 k7 (a_0 0)) (bb_5 (i := 2) (j := 3) zr nd)
   (a_6 (j_6 [3] c_2 zr (u_4 (a_0 3)) (k_3 (i := 4) nd)
   (a_4 (e_1 [1, 4] (d_2 (ag_8 hu) (a_0 4) (a_0 1) (by with_unfolding_all rfl))
   (a_6 (cv_1 (i := 1) hu (a_0 4)))
   c_3)
  (a_6 (cu_9 (i := 1) hu p_2 (a_0 4) (a_0 2)))))))
  (a_6 (o_5 1))))
theorem bf_5 (F : Fun K "take_away" "take_away" (top 38) f fd) : FnX P w K mg base true 1 f fd ["number", "edge", "standing"] (spM K 2 j_9) :=
 dk_9 (n := 2) (N := ["number", "edge", "standing", "place"]) F (by decide) (by decide) fun _ _ _ _ _ _ zr zu hu nd zv => (a_6 (j_6 [1] c_2 zr (u_4 (a_0 1)) (k_3 (i := 3) nd)
   (a_6 (cv_0 (i := 2) hu (a_0 3) (a_0 0)))))
theorem cg_3 (F : Fun K "peeled" "peeled" (top 39) f fd) (x9 : ab_2 P w K mg base) (ab6 : FnMd P w K mg base true "take_away" 1 2 ["number", "edge", "standing"] j_9) (u6 : mg "list" = none) (j2 : mg "len" = none) (y8 : mg "min" = none) (g8 : mg "range" = none) : FnX P w K mg base true 2 f fd ["edges", "size"] (spX K 2 ae_5) :=
 c_4 (N := ["edges", "size", "standing", "waiting", "order", "taken", "left", "place", "number"]) F fun _ _ _ _ _ _ zr zu hu nd zv => (a_4 (a_9 (i := 2) [0] (a_7 zu zv x9 (a_1 (a_0 0) a_5)) nd)
  (a_4 (cv_5 (i := 3) (u_0 (br_9 zr) rfl u6 PyProof.Rows.boot_list (a_1 (a_0 2) a_5)) nd)
  (a_4 (a_9 (i := 4) [] (q_8 a_5) nd)
  (a_4 (a_9 (i := 5) [] am_5 nd)
  (a_4 (ck_0 [3] 3000 c_2 (d_2 bq_7 (b_7 d_8 rfl j2 PySem.boot_len (a_1 (a_0 3) a_5)) a_2 (d_6 _))
   (a_4 (cv_4 (i := 7) (j := 3) nd)
  (a_6 (e_1 [2, 7] (d_2 (l_9 hu) (b_7 cd_4 rfl j2 PySem.boot_len (a_1 (bx_3 hu (a_0 2) (a_0 7)) a_5)) a_2 (d_6 _))
   (a_4 (a_9 (i := 8) [2, 7] (b_7 (cd_6 zr) rfl y8 PyProof.Rows.boot_min (a_1 (bx_3 hu (a_0 2) (a_0 7)) a_5)) nd)
  (a_4 (ao_7 (i := 4) (de_0 (a_1 (a_0 8) (a_1 (a_0 7) a_5))))
  (a_4 (bb_8 (i := 5) [] hu p_2 (a_0 8))
  (a_4 (cl_5 (i := 2) zu zv ab6 (a_0 8) (q_9 (a_0 0) (a_0 8)))
  (a_6 (df_8 (i := 3) (q_9 (a_0 0) (a_0 8))))))))
   c_3))))
  (a_4 (bw_5 (i := 6) [0, 5] (N' := ["edges", "size", "standing", "waiting", "order", "taken", "left", "place", "?8", "number"]) zr (k_2 g8 (a_1 (b_7 d_8 rfl j2 PySem.boot_len (a_1 (a_0 0) a_5)) a_5)) rfl (by kernel_rfl) rfl (fun C s0 H0 fp pn => ⟨(gcM (i := 9)), (bb_6 (d_2 (ag_8 hu) (a_0 9) (a_0 5) (by with_unfolding_all rfl))), (a_0 9)⟩) nd)
  (a_6 (cv_7 (i := 4) (j := 6)))))))))
theorem cz_0 (F : Fun K "fate" "fate" (top 44) f fd) (q8 : ac_6 P w K mg base) (ak3 : bo_2 P w K mg base) (j9 : t_0 P w K mg base) (j2 : mg "len" = none) : FnX P w K mg base true 6 f fd ["keys", "salt", "kind"] (spX K 3 ac_0) :=
 c_4 (N := ["keys", "salt", "kind", "edges"]) F fun _ _ _ _ _ _ zr zu hu nd zv => (a_4 (a_9 (i := 3) [0, 1, 2] (a_7 zu zv q8 (a_1 (a_0 0) (a_1 (a_0 1) (a_1 (a_0 2) a_5)))) nd)
  (a_6 (b_4 [0, 2, 3] (a_7 zu zv ak3 (a_1 (a_0 3) (a_1 (a_3 c_1 (a_0 2) (a_7 zu zv j9 (a_1 (b_7 d_8 rfl j2 PySem.boot_len (a_1 (a_0 0) a_5)) (a_1 (a_0 2) a_5)))) a_5))))))
theorem bo_7 (F : Fun K "succeeds" "succeeds" (top 45) f fd) (ah3 : bu_4 P w K mg base) (j2 : mg "len" = none) : FnX P w K mg base true 7 f fd ["keys", "salt", "kind"] (spX K 3 g_6) :=
 c_4 (N := ["keys", "salt", "kind", "left"]) F fun _ _ _ _ _ _ zr zu hu nd zv => (a_4 (a_9 (i := 3) [0, 1, 2] (q_9 (a_7 zu zv ah3 (a_1 (a_0 0) (a_1 (a_0 1) (a_1 (a_0 2) a_5)))) a_2) nd)
  (a_6 (b_4 [3] (af_7 (l_9 hu) (b_7 d_8 rfl j2 PySem.boot_len (a_1 (a_0 3) a_5)) a_2 (d_6 _)))))
theorem bf_6 (F : Fun K "first_try" "first_try" (top 46) f fd) (o8 : y_6 P w K mg base) (ae7 : as_2 P w K mg base) (g8 : mg "range" = none) {c7 : Addr} (aj2 : XC0 K mg "NoTry" c7) : FnX P w K mg base true 8 f fd ["keys", "kind", "most"] (spX K 3 d_5) :=
 c_4 (N := ["keys", "kind", "most", "salt"]) F fun _ _ _ _ _ _ zr zu hu nd zv => (a_4 (ad_7 [0] (a_7 zu zv o8 (a_1 (a_0 0) a_5)))
  (a_4 (j_6 [2] c_2 zr (k_2 g8 (a_1 (a_0 2) a_5)) (k_3 (i := 3) nd)
   (a_6 (e_1 [0, 1, 3] (c_8 (a_7 zu zv ae7 (a_1 (a_0 0) (a_1 (a_0 3) (a_1 (a_0 1) a_5)))))
   (a_6 (o_5 3))
   c_3)))
  (a_6 (ah_3 aj2 (RoomC.mono zu (by decide)) z_1))))
theorem bo_8 (F : Fun K "is_below" "is_below" (top 14) f fd) (c6 : mg "isinstance" = none) (aa1 : mg "bool" = none) (p9 : KitT K "bool") : FnX P w K mg base true 1 f fd ["number", "limit"] (spX K 2 o_3) :=
 c_4 (N := ["number", "limit"]) F fun _ _ _ _ _ _ zr zu hu nd zv => (a_6 (b_4 [0, 1] (ao_0 (bq_6 (r_2 p9 (a_0 0) c6 aa1 ag_3)) (an_9 (bh_2 bb_1 bb_0 a_2 (a_0 0) (a_0 1))))))
theorem bf_7 (F : Fun K "remainder" "remainder" (top 33) f fd) : FnX P w K mg base true 1 f fd ["number", "modulus"] (spX K 2 m_6) :=
 c_4 (N := ["number", "modulus"]) F fun _ _ _ _ _ _ zr zu hu nd zv => (a_6 (b_4 [0, 1] (dj_7 (d_2 (l_9 hu) (a_0 1) a_2 (d_6 _)) a_2 (a_3 b_5 (a_0 0) (a_0 1)))))
theorem cg_4 (F : Fun K "summed" "summed" (top 34) f fd) (q9 : ac_7 P w K mg base) (p5 : y_8 P w K mg base) (j2 : mg "len" = none) (al5 : mg "sum" = none) : FnX P w K mg base true 2 f fd ["table", "places", "modulus"] (spX K 3 k_0) :=
 c_4 (N := ["table", "places", "modulus", "found"]) F fun _ _ _ _ _ _ zr zu hu nd zv => (a_4 (bw_5 (i := 3) [0, 1] (N' := ["table", "places", "modulus", "found", "place"]) zr (u_4 (a_0 1)) rfl (by kernel_rfl) rfl (fun C s0 H0 fp pn => ⟨(gcM (i := 4)), (bb_6 (c_8 (a_7 (i_7 zu) n_1 q9 (a_1 (a_0 4) (a_1 (b_7 d_8 rfl j2 PySem.boot_len (a_1 (a_0 0) a_5)) a_5))))), (q_9 (a_0 0) (a_0 4))⟩) nd)
  (a_6 (b_4 [2, 3] (a_7 zu zv p5 (a_1 (b_7 (aw_8 zr) rfl al5 PyProof.Rows.boot_sum (a_1 (a_0 3) a_5)) (a_1 (a_0 2) a_5))))))
theorem cg_5 (F : Fun K "filled" "filled" (top 35) f fd) (z7 : as_3 P w K mg base) (q9 : ac_7 P w K mg base) (p5 : y_8 P w K mg base) (t7 : mg "reversed" = none) : FnX P w K mg base true 3 f fd ["edges", "size", "order", "wanted", "modulus"] (spX K 5 x_8) :=
 c_4 (N := ["edges", "size", "order", "wanted", "modulus", "table", "number", "place", "lacking"]) F fun _ _ _ _ _ _ zr zu hu nd zv => (a_4 (a_9 (i := 5) [1] (df_4 (a_1 a_2 a_5) (a_0 1)) nd)
  (a_4 (j_6 [2] c_2 zr (cl_2 t7 (a_0 2)) (bb_5 (i := 6) (j := 7) zr nd)
   (a_4 (a_9 (i := 8) [0, 3, 4, 5, 6] (a_3 j_0 (q_9 (a_0 3) (a_0 6)) (a_7 zu zv z7 (a_1 (a_0 5) (a_1 (q_9 (a_0 0) (a_0 6)) (a_1 (a_0 4) a_5))))) nd)
  (a_6 (e_1 [1, 7] (c_8 (a_7 zu zv q9 (a_1 (a_0 7) (a_1 (a_0 1) a_5))))
   (a_6 (cu_8 (i := 5) [4, 8] (a_7 zu zv p5 (a_1 (a_0 8) (a_1 (a_0 4) a_5))) (a_0 7)))
   c_3))))
  (a_6 (o_5 5))))
theorem af_5 (F : Fun K "__init__" "Table.__init__" (inC 48 0) f fd) {CI : Addr} (hCI : ClsAt K "Table" CI) (u7 : OFld K ["Table"] "by_salt") (ac7 : OFld K ["Table"] "kind") (ac8 : OFld K ["Table"] "part") (r6 : OFld K ["Table"] "modulus") (n9 : OFld K ["Table"] "listed") : FnX P w K mg base true 1 f fd ["self", "salt", "kind", "part", "modulus", "listed"] (spI K CI 5 ae_6) :=
 cz_8 (n := 5) (cn := "Table") (N := ["self", "salt", "kind", "part", "modulus", "listed"]) F hCI (by decide) (by decide) fun _ _ _ _ _ _ zr zu hu nd zv => (a_4 (s_6 (i := 0) [1] u7 (a_0 1))
  (a_4 (s_6 (i := 0) [2] ac7 (a_0 2))
  (a_4 (s_6 (i := 0) [3] ac8 (a_0 3))
  (a_4 (s_6 (i := 0) [4] r6 (a_0 4))
  (a_6 (s_6 (i := 0) [5] n9 (a_0 5)))))))
theorem bf_8 (F : Fun K "table_for" "table_for" (top 49) f fd) (j9 : t_0 P w K mg base) (q8 : ac_6 P w K mg base) (ah3 : bu_4 P w K mg base) (aj7 : bo_3 P w K mg base) (ai9 : MakD P w K mg base true "Table" 1 5 ae_6) (j2 : mg "len" = none) : FnX P w K mg base true 7 f fd ["keys", "salt", "kind", "modulus", "wanted"] (spX K 5 m_7) :=
 c_4 (N := ["keys", "salt", "kind", "modulus", "wanted", "part", "edges", "order"]) F fun _ _ _ _ _ _ zr zu hu nd zv => (a_4 (a_9 (i := 5) [0, 2] (a_7 zu zv j9 (a_1 (b_7 d_8 rfl j2 PySem.boot_len (a_1 (a_0 0) a_5)) (a_1 (a_0 2) a_5))) nd)
  (a_4 (a_9 (i := 6) [0, 1, 2] (a_7 zu zv q8 (a_1 (a_0 0) (a_1 (a_0 1) (a_1 (a_0 2) a_5)))) nd)
  (a_4 (a_9 (i := 7) [0, 1, 2] (q_9 (a_7 zu zv ah3 (a_1 (a_0 0) (a_1 (a_0 1) (a_1 (a_0 2) a_5)))) a_2) nd)
  (a_6 (b_4 [1, 2, 3, 4, 5, 6, 7] (bx_7 zu zv ai9 (a_1 (a_0 1) (a_1 (a_0 2) (a_1 (a_0 5) (a_1 (a_0 3) (a_1 (a_7 zu zv aj7 (a_1 (a_0 6) (a_1 (a_3 c_1 (a_0 2) (a_0 5)) (a_1 (a_0 7) (a_1 (a_0 4) (a_1 (a_0 3) a_5)))))) a_5)))))))))))
theorem cg_6 (F : Fun K "two_to" "two_to" (top 15) f fd) (g8 : mg "range" = none) : FnX P w K mg base true 1 f fd ["width"] (spX K 1 r_7) :=
 c_4 (N := ["width", "power", "turn"]) F fun _ _ _ _ _ _ zr zu hu nd zv => (a_4 (a_9 (i := 1) [] a_2 nd)
  (a_4 (j_6 [0] c_2 zr (k_2 g8 (a_1 (a_0 0) a_5)) (k_3 (i := 2) nd)
   (a_6 (a_9 (i := 1) [1] (a_3 c_1 (a_0 1) a_2) nd)))
  (a_6 (o_5 1))))
theorem cz_1 (F : Fun K "mark" "mark" (top 28) f fd) (ad5 : be_9 P w K mg base) (z6 : as_4 P w K mg base) (ad6 : be_8 P w K mg base) {an1 : Tok} (ac0 : mg "MARK_SALT" = some (.int 3 an1)) : FnX P w K mg base true 4 f fd ["key", "width"] (spX K 2 ac_3) :=
 c_4 (N := ["key", "width"]) F fun _ _ _ _ _ _ zr zu hu nd zv => (a_6 (b_4 [0, 1] (a_7 zu zv ad5 (a_1 (a_7 zu zv ad6 (a_1 (a_0 0) a_5)) (a_1 (q_1 rfl ac0) (a_1 (a_7 zu zv z6 (a_1 (a_0 1) a_5)) a_5))))))
theorem ac_8 (F : Fun K "__init__" "Marked.__init__" (inC 52 0) f fd) {CI : Addr} (hCI : ClsAt K "Marked" CI) (ab7 : ak_5 P w K mg base) (ab0 : ak_6 P w K mg base) (ah7 : bu_5 P w K mg base) (z6 : as_4 P w K mg base) (aa6 : OFld K ["Marked"] "how_many") (y7 : OFld K ["Marked"] "width") (h9 : OFld K ["Marked"] "own_table") (j2 : mg "len" = none) : FnX P w K mg base true 9 f fd ["self", "keys", "width", "kind", "most"] (spI K CI 4 l_4) :=
 cz_8 (n := 4) (cn := "Marked") (N := ["self", "keys", "width", "kind", "most", "salt"]) F hCI (by decide) (by decide) fun _ _ _ _ _ _ zr zu hu nd zv => (a_4 (a_9 (i := 5) [1, 3, 4] (a_7 zu zv ab7 (a_1 (a_0 1) (a_1 (a_0 3) (a_1 (a_0 4) a_5)))) nd)
  (a_4 (s_6 (i := 0) [1] aa6 (b_7 d_8 rfl j2 PySem.boot_len (a_1 (a_0 1) a_5)))
  (a_4 (s_6 (i := 0) [2] y7 (a_0 2))
  (a_6 (s_6 (i := 0) [1, 2, 3, 5] h9 (a_7 zu zv ab0 (a_1 (a_0 1) (a_1 (a_0 5) (a_1 (a_0 3) (a_1 (a_7 zu zv z6 (a_1 (a_0 2) a_5)) (a_1 (o_6 (N' := ["self", "keys", "width", "kind", "most", "salt", "key"]) zr (u_4 (a_0 1)) rfl (by kernel_rfl) rfl (fun C s0 H0 fp pn => ⟨(gcM (i := 6)), x_0, (a_7 (i_7 zu) n_1 ah7 (a_1 (a_0 6) (a_1 (a_0 2) a_5)))⟩)) a_5)))))))))))
theorem au_4 (F : Fun K "_law_marked" "_law_marked" (top 67) f fd) (ah9 : MakD P w K mg base true "Marked" 9 4 l_4) {c7 : Addr} (x0 : mg "NoTry" = some (.ref c7)) (ak5 : Catches K c7 [("NoKey", false), ("NoKeys", false), ("NoRange", false), ("NoTry", true), ("Twice", false)]) : FnX P w K mg base true 11 f fd ["_law_keys_here", "_law_width", "_law_kind"] (spX K 3 k_4) :=
 c_4 (N := ["_law_keys_here", "_law_width", "_law_kind", "_law_found"]) F fun _ _ _ _ _ _ zr zu hu nd zv => (a_4 (by_8 nd rfl rfl (fun zd W EXB lkB => (a_6 (a_9 (i := 3) [0, 1, 2] (bx_7 (bl_5 zu) lkB ah9 (a_1 (a_0 0) (a_1 (a_0 1) (a_1 (a_0 2) (a_1 a_2 a_5))))) nd))) (HOk3.bare x0 ak5 (fun e => (a_6 (a_9 (i := 3) [] ci_8 nd))) .nil))
  (a_6 (o_5 3)))
theorem bf_9 (F : Fun K "_law_tells" "_law_tells" (top 65) f fd) (al5 : mg "sum" = none) : FnX P w K mg base true 1 f fd ["_law_table", "_law_places", "_law_modulus"] (spX K 3 h_7) :=
 c_4 (N := ["_law_table", "_law_places", "_law_modulus"]) F fun _ _ _ _ _ _ zr zu hu nd zv => (a_6 (b_4 [0, 1, 2] (a_3 b_5 (b_7 (aw_8 zr) rfl al5 PyProof.Rows.boot_sum (a_1 (o_6 (N' := ["_law_table", "_law_places", "_law_modulus", "_law_place"]) zr (u_4 (a_0 1)) rfl (by kernel_rfl) rfl (fun C s0 H0 fp pn => ⟨(gcM (i := 3)), x_0, (q_9 (a_0 0) (a_0 3))⟩)) a_5)) (a_0 2))))
theorem bg_0 (F : Fun K "_law_mixed" "_law_mixed" (top 63) f fd) : FnX P w K mg base true 1 f fd ["_law_number", "_law_salt", "_law_size"] (spX K 3 m_8) :=
 c_4 (N := ["_law_number", "_law_salt", "_law_size", "_law_prime", "_law_a", "_law_b", "_law_first"]) F fun _ _ _ _ _ _ zr zu hu nd zv => (a_4 (a_9 (i := 3) [] a_2 nd)
  (a_4 (a_9 (i := 4) [1, 3] (a_3 b_3 a_2 (a_3 b_5 (a_3 b_3 (a_3 c_1 a_2 (a_0 1)) a_2) (a_3 j_0 (a_0 3) a_2))) nd)
  (a_4 (a_9 (i := 5) [1, 3] (a_3 b_5 (a_3 b_3 (a_3 c_1 (a_3 c_1 a_2 (a_0 1)) (a_0 1)) (a_3 c_1 a_2 (a_0 1))) (a_0 3)) nd)
  (a_4 (a_9 (i := 6) [0, 3, 4, 5] (a_3 b_5 (a_3 b_3 (a_3 c_1 (a_0 4) (a_0 0)) (a_0 5)) (a_0 3)) nd)
  (a_6 (b_4 [2, 6] (a_3 b_5 (a_3 b_3 (a_0 6) (a_3 e_7 (a_0 6) a_2)) (a_0 2))))))))
theorem bg_1 (F : Fun K "_law_stamp" "_law_stamp" (top 62) f fd) (c6 : mg "isinstance" = none) (x5 : mg "int" = none) (o5 : KitT K "int") : FnX P w K mg base true 1 f fd ["_law_key_here"] (spX K 1 k_1) :=
 c_4 (N := ["_law_key_here", "_law_worth", "_law_sign"]) F fun _ _ _ _ _ _ zr zu hu nd zv => (a_4 (e_1 [0] (c_8 (r_2 o5 (a_0 0) c6 x5 PyProof.Rows.boot_int))
   (a_6 (b_4 [0] (a_3 c_1 a_2 (a_0 0))))
   c_3)
  (a_4 (a_9 (i := 1) [] a_2 nd)
  (a_4 (j_6 [0] c_2 zr (u_4 (a_0 0)) (k_3 (i := 2) nd)
   (a_6 (a_9 (i := 1) [1, 2] (a_3 b_3 (a_3 b_3 (a_3 c_1 (a_0 1) a_2) (bw_6 PySem.F.plainAttrs_str PySem.F.slot_str_index PySem.F.type_str_index cd_2 bq_4 (a_1 (a_0 2) a_5))) a_2) nd)))
  (a_6 (b_4 [1] (a_3 b_3 (a_3 c_1 a_2 (a_0 1)) a_2))))))
theorem as_8 (F : Fun K "table" "Table.table" (inC 48 2) f fd) (n9 : OFld K ["Table"] "listed") (u6 : mg "list" = none) : FnX P w K mg base true 1 f fd ["self"] (spX K 1 g_7) :=
 c_4 (N := ["self"]) F fun _ _ _ _ _ _ zr zu hu nd zv => (a_6 (b_4 [0] (u_0 ai_6 rfl u6 PyProof.Rows.boot_list (a_1 (t_1 n9 (a_0 0)) a_5))))
theorem al_6 (F : Fun K "table" "Marked.table" (inC 52 3) f fd) (x4 : MethT P w K mg base true 1 0 "table" [("Table", g_7)]) (h9 : OFld K ["Marked"] "own_table") : FnX P w K mg base true 2 f fd ["self"] (spX K 1 d_0) :=
 c_4 (N := ["self"]) F fun _ _ _ _ _ _ zr zu hu nd zv => (a_6 (b_4 [0] (bj_3 x4 zu zv (t_1 h9 (a_0 0)))))
theorem al_7 (F : Fun K "places" "Table.places" (inC 48 3) f fd) (p8 : y_7 P w K mg base) (ac8 : OFld K ["Table"] "part") (ac7 : OFld K ["Table"] "kind") (u7 : OFld K ["Table"] "by_salt") : FnX P w K mg base true 5 f fd ["self", "key"] (spX K 2 c_0) :=
 c_4 (N := ["self", "key"]) F fun _ _ _ _ _ _ zr zu hu nd zv => (a_6 (b_4 [0, 1] (a_7 zu zv p8 (a_1 (a_0 1) (a_1 (t_1 u7 (a_0 0)) (a_1 (t_1 ac7 (a_0 0)) (a_1 (t_1 ac8 (a_0 0)) a_5)))))))
theorem ai_2 (F : Fun K "places" "Marked.places" (inC 52 4) f fd) (j7 : MethT P w K mg base true 5 1 "places" [("Table", c_0)]) (h9 : OFld K ["Marked"] "own_table") : FnX P w K mg base true 6 f fd ["self", "key"] (spX K 2 b_6) :=
 c_4 (N := ["self", "key"]) F fun _ _ _ _ _ _ zr zu hu nd zv => (a_6 (b_4 [0, 1] (ae_2 j7 zu zv (t_1 h9 (a_0 0)) (a_1 (a_0 1) a_5))))
theorem bu_9 (F : Fun K "_law_due" "_law_due" (top 68) f fd) (ac3 : ak_7 P w K mg base) (ac1 : ak_8 P w K mg base) (ab9 : ak_9 P w K mg base) (v9 : MethT P w K mg base true 2 0 "table" [("Marked", d_0)]) (u0 : MethT P w K mg base true 6 1 "places" [("Marked", b_6)]) (g8 : mg "range" = none) : FnX P w K mg base true 7 f fd ["_law_marked_here", "_law_keys_here", "_law_low", "_law_high", "_law_modulus"] (spX K 5 u_6) :=
 c_4 (N := ["_law_marked_here", "_law_keys_here", "_law_low", "_law_high", "_law_modulus", "_law_found", "_law_table", "_law_number", "_law_told"]) F fun _ _ _ _ _ _ zr zu hu nd zv => (a_4 (a_9 (i := 5) [] (q_8 a_5) nd)
  (a_4 (a_9 (i := 6) [0] (bj_3 v9 zu zv (a_0 0)) nd)
  (a_4 (j_6 [2, 3] c_2 zr (aw_4 g8 (a_1 (a_0 2) (a_1 (a_3 b_3 (a_0 3) a_2) a_5))) (k_3 (i := 7) nd)
   (a_4 (a_9 (i := 8) [0, 4, 6, 7] (a_7 zu zv ac3 (a_1 (a_0 6) (a_1 (ae_2 u0 zu zv (a_0 0) (a_1 (a_0 7) a_5)) (a_1 (a_0 4) a_5)))) nd)
  (a_6 (e_1 [1, 4, 7, 8] (td_w (af_9 (d_2 ag_1 (a_0 7) (a_0 1) (by with_unfolding_all rfl)) (ad_4 (d_2 (l_9 hu) (a_0 8) (a_7 zu zv ac1 (a_1 (a_7 zu zv ab9 (a_1 (a_0 7) a_5)) (a_1 a_2 (a_1 (a_0 4) a_5)))) (d_6 _)))))
   (a_6 (ao_7 (i := 5) (a_0 7)))
   c_3))))
  (a_6 (o_5 5)))))
theorem as_9 (F : Fun K "total" "Table.total" (inC 48 4) f fd) (z7 : as_3 P w K mg base) (j7 : MethT P w K mg base true 5 1 "places" [("Table", c_0)]) (r6 : OFld K ["Table"] "modulus") (n9 : OFld K ["Table"] "listed") : FnX P w K mg base true 6 f fd ["self", "key"] (spX K 2 f_1) :=
 c_4 (N := ["self", "key"]) F fun _ _ _ _ _ _ zr zu hu nd zv => (a_6 (b_4 [0, 1] (a_7 zu zv z7 (a_1 (t_1 n9 (a_0 0)) (a_1 (ae_2 j7 zu zv (a_0 0) (a_1 (a_0 1) a_5)) (a_1 (t_1 r6 (a_0 0)) a_5))))))
theorem al_8 (F : Fun K "knows" "Marked.knows" (inC 52 5) f fd) (ah7 : bu_5 P w K mg base) (x6 : MethT P w K mg base true 6 1 "total" [("Table", f_1)]) (h9 : OFld K ["Marked"] "own_table") (y7 : OFld K ["Marked"] "width") : FnX P w K mg base true 7 f fd ["self", "key"] (spX K 2 d_1) :=
 c_4 (N := ["self", "key"]) F fun _ _ _ _ _ _ zr zu hu nd zv => (a_6 (b_4 [0, 1] (af_7 (l_9 hu) (ae_2 x6 zu zv (t_1 h9 (a_0 0)) (a_1 (a_0 1) a_5)) (a_7 zu zv ah7 (a_1 (a_0 1) (a_1 (t_1 y7 (a_0 0)) a_5))) (d_6 _))))
theorem bo_9 (F : Fun K "mistaken" "mistaken" (top 53) f fd) (j8 : q_0 P w K mg base) (v7 : MethT P w K mg base true 7 1 "knows" [("Marked", d_1)]) (ac2 : mg "max" = none) (y8 : mg "min" = none) (g8 : mg "range" = none) {c8 : Addr} (ae6 : XC0 K mg "NoRange" c8) {ag4 : Tok} (r9 : mg "MOST_LOOKED_AT" = some (.int 2000 ag4)) {q5 : Tok} (j3 : mg "GREATEST_NUMBER" = some (.int 999999999999999999 q5)) : FnX P w K mg base true 8 f fd ["marked", "keys", "low", "high"] (spX K 4 f_6) :=
 c_4 (N := ["marked", "keys", "low", "high", "own", "key", "start", "end"]) F fun _ _ _ _ _ _ zr zu hu nd zv => (a_4 (ad_7 [1] (a_7 zu zv j8 (a_1 (a_0 1) a_5)))
  (a_4 (e_1 [2, 3] (d_2 cj_7 (a_3 j_0 (a_0 3) (a_0 2)) (q_1 rfl r9) (d_6 _))
   (a_6 (ah_3 ae6 (RoomC.mono zu (by decide)) z_1))
   c_3)
  (a_4 (a_9 (i := 4) [] am_5 nd)
  (a_4 (j_6 [1] c_2 zr (u_4 (a_0 1)) (k_3 (i := 5) nd)
   (a_6 (bb_8 (i := 4) [] hu p_2 (a_0 5))))
  (a_4 (a_9 (i := 6) [2] (b_7 (u_1 zr) rfl ac2 PyProof.Rows.boot_max (a_1 (a_0 2) (a_1 a_2 a_5))) nd)
  (a_4 (a_9 (i := 7) [3] (a_3 b_3 (b_7 (z_0 zr) rfl y8 PyProof.Rows.boot_min (a_1 (a_0 3) (a_1 (q_1 rfl j3) a_5))) a_2) nd)
  (a_6 (b_4 [0, 4, 6, 7] (o_6 (N' := ["marked", "keys", "low", "high", "own", "key", "start", "end", "number"]) zr (aw_4 g8 (a_1 (a_0 6) (a_1 (a_0 7) a_5))) rfl (by kernel_rfl) rfl (fun C s0 H0 fp pn => ⟨(gcM (i := 8)), (bb_6 (td_w (af_9 (d_2 (ag_8 hu) (a_0 8) (a_0 4) (by with_unfolding_all rfl)) (ad_4 (c_8 (ae_2 v7 (i_7 zu) n_1 (a_0 0) (a_1 (a_0 8) a_5))))))), (a_0 8)⟩))))))))))
theorem bg_2 (F : Fun K "_law_whole" "_law_whole" (top 64) f fd) (c6 : mg "isinstance" = none) (x5 : mg "int" = none) (aa1 : mg "bool" = none) (o5 : KitT K "int") (p9 : KitT K "bool") : FnX P w K mg base true 1 f fd ["_law_found"] (spX K 1 p_5) :=
 c_4 (N := ["_law_found"]) F fun _ _ _ _ _ _ zr zu hu nd zv => (a_6 (b_4 [0] (ao_0 (r_2 o5 (a_0 0) c6 x5 PyProof.Rows.boot_int) (an_9 (bq_6 (r_2 p9 (a_0 0) c6 aa1 ag_3))))))
theorem bg_3 (F : Fun K "_law_asked" "_law_asked" (top 70) f fd) (k8 : w_0 P w K mg base) (ab4 : al_0 P w K mg base) (u6 : mg "list" = none) (c6 : mg "isinstance" = none) (y6 : KitT K "list") : FnX P w K mg base true 9 f fd ["_law_marked_here", "_law_keys_here", "_law_low", "_law_high", "_law_due_here"] (spX K 5 g_3) :=
 c_4 (N := ["_law_marked_here", "_law_keys_here", "_law_low", "_law_high", "_law_due_here", "_law_handed", "_law_found"]) F fun _ _ _ _ _ _ zr zu hu nd zv => (a_4 (a_9 (i := 5) [1] (u_0 ai_6 rfl u6 PyProof.Rows.boot_list (a_1 (a_0 1) a_5)) nd)
  (a_4 (a_9 (i := 6) [0, 2, 3, 5] (a_7 zu zv k8 (a_1 (a_0 0) (a_1 (a_0 5) (a_1 (a_0 2) (a_1 (a_0 3) a_5))))) nd)
  (a_4 (e_1 [1, 4, 5, 6] (td_w (bw_1 (q_7 (c_8 (r_2 y6 (a_0 6) c6 u6 PyProof.Rows.boot_list))) (bw_1 (d_2 (bq_8 hu) (a_0 6) (a_0 4) (d_6 _)) (bq_5 (d_2 (bq_8 hu) (a_0 5) (a_0 1) (d_6 _))))))
   (a_6 (b_4 [] p_2))
   c_3)
  (a_4 (e_1 [6] (d_2 (bq_8 hu) (o_6 (N' := ["_law_marked_here", "_law_keys_here", "_law_low", "_law_high", "_law_due_here", "_law_handed", "_law_found", "_law_number"]) zr (u_4 (a_0 6)) rfl (by kernel_rfl) rfl (fun C s0 H0 fp pn => ⟨(gcM (i := 7)), (bb_6 (q_7 (c_8 (a_7 (i_7 zu) n_1 ab4 (a_1 (a_0 7) a_5))))), (a_0 7)⟩)) (q_8 a_5) (d_6 _))
   (a_6 (b_4 [] p_2))
   c_3)
  (a_4 (ao_7 (i := 6) (a_0 2))
  (a_6 (b_4 [] p_2)))))))
theorem bg_4 (F : Fun K "_law_alone" "_law_alone" (top 66) f fd) (c6 : mg "isinstance" = none) (z8 : mg "ValueError" = none) {i9 : Addr} {j5 : Addr} {i7 : Addr} {l6 : Addr} {d0 : Addr} {c9 : Addr} {j6 : Addr} {c7 : Addr} {i8 : Addr} {l9 : Addr} {g7 : Addr} (y4 : mg "LodgeError" = some (.ref i9)) (ah0 : mg "NoBits" = some (.ref j5)) (af1 : mg "NoEdges" = some (.ref i7)) (ak1 : mg "NoFit" = some (.ref l6)) (af8 : mg "NoKey" = some (.ref d0)) (ac9 : mg "NoKeys" = some (.ref c9)) (ah4 : mg "NoSuch" = some (.ref j6)) (x0 : mg "NoTry" = some (.ref c7)) (ae9 : mg "NoValue" = some (.ref i8)) (aj9 : mg "Stuck" = some (.ref l9)) (ag0 : mg "Twice" = some (.ref g7)) (y1 : IsOne K (.ref i9) [("NoKey", true), ("NoKeys", true), ("NoRange", true), ("NoTry", true), ("Twice", true)]) (x3 : IsOne K (.type "ValueError") [("NoKey", true), ("NoKeys", true), ("NoRange", true), ("NoTry", true), ("Twice", true)]) (g9 : IsAny K [j5, i7, l6, d0, c9] [("NoKey", true), ("NoKeys", true), ("NoRange", false), ("NoTry", false), ("Twice", false)]) (h8 : IsAny K [j6, c7, i8, l9, g7] [("NoKey", false), ("NoKeys", false), ("NoRange", false), ("NoTry", true), ("Twice", true)]) : FnX P w K mg base false 1 f fd ["_law_error"] (spX K 1 s_7) :=
 c_4 (N := ["_law_error"]) F fun _ _ _ _ _ _ zr zu hu nd zv => (a_4 (e_1 [0] (td_w (bw_1 (q_7 (c_8 (dg_4 y1 (a_0 0) c6 y4))) (bq_5 (q_7 (c_8 (dg_5 x3 (a_0 0) c6 z8 al_5))))))
   (a_6 (b_4 [] p_2))
   c_3)
  (a_4 (e_1 [0] (c_8 (bl_4 g9 (a_0 0) c6 (l_1 ah0 (l_1 af1 (l_1 ak1 (l_1 af8 (l_1 ac9 by_7)))))))
   (a_6 (b_4 [] p_2))
   c_3)
  (a_6 (b_4 [0] (bq_6 (bl_4 h8 (a_0 0) c6 (l_1 ah4 (l_1 x0 (l_1 ae9 (l_1 aj9 (l_1 ag0 by_7)))))))))))
theorem at_0 (F : Fun K "_law_refused" "_law_refused" (top 69) f fd) (k8 : w_0 P w K mg base) (aa9 : al_2 P w K mg base) {c8 : Addr} (aa0 : mg "NoRange" = some (.ref c8)) (af2 : Catches K c8 [("NoKey", false), ("NoKeys", false), ("NoRange", true), ("NoTry", false), ("Twice", false)]) : FnX P w K mg base true 9 f fd ["_law_marked_here", "_law_keys_here", "_law_low", "_law_high"] (spX K 4 p_1) :=
 c_4 (N := ["_law_marked_here", "_law_keys_here", "_law_low", "_law_high", "_law_told", "_law_error"]) F fun _ _ _ _ _ _ zr zu hu nd zv => (a_4 (a_9 (i := 4) [] p_2 nd)
  (a_4 (by_8 nd rfl rfl (fun zd W EXB lkB => (a_6 (ad_7 [0, 1, 2, 3] (a_7 (bl_5 zu) lkB k8 (a_1 (a_0 0) (a_1 (a_0 1) (a_1 (a_0 2) (a_1 (a_0 3) a_5)))))))) (HOk3.as_ (i := 5) aa0 af2 (fun e => (a_6 (a_9 (i := 4) [5] (a_7 (ce_4 zu) n_1 aa9 (a_1 (a_0 5) a_5)) nd))) .nil))
  (a_6 (o_5 4))))
theorem dg_9 (F : Fun K "law" "law" (top 71) f fd) (af0 : as_0 P w K mg base) (j4 : u_9 P w K mg base) (j1 : v_0 P w K mg base) (o6 : ac_5 P w K mg base) (aa3 : af_4 P w K mg base) (ad3 : az_6 P w K mg base) (o9 : al_1 P w K mg base) (y3 : ab_3 P w K mg base) (k8 : w_0 P w K mg base) (c6 : mg "isinstance" = none) (x5 : mg "int" = none) (ac2 : mg "max" = none) (y8 : mg "min" = none) (g8 : mg "range" = none) (t7 : mg "reversed" = none) (u6 : mg "list" = none) (o5 : KitT K "int") (y6 : KitT K "list") : FnX P w K mg base true 12 f fd ["_law_script"] (spX K 1 cn_5) :=
 c_4 (N := ["_law_script", "_law_keys_here", "_law_cell_here", "_law_kind", "_law_width", "_law_low", "_law_high", "_law_marked_here", "_law_modulus", "_law_k", "_law_due_here", "_law_far", "_law_most", "_law_near", "_law_number"]) F fun _ _ _ _ _ _ zr zu hu nd zv => (a_4 (a_9 (i := 1) [0] (a_7 zu zv af0 (a_1 (a_0 0) (a_1 a_2 (a_1 a_2 a_5)))) nd)
  (a_4 (a_9 (i := 2) [0] (a_7 zu zv j4 (a_1 (a_0 0) (a_1 a_2 a_5))) nd)
  (a_4 (a_9 (i := 3) [2] (a_3 b_3 a_2 (a_3 b_5 (a_0 2) a_2)) nd)
  (a_4 (a_9 (i := 4) [2] (a_3 b_3 a_2 (a_3 b_5 (a_3 e_7 (a_0 2) a_2) (q_9 (q_8 (a_1 a_2 (a_1 a_2 (a_1 a_2 (a_1 a_2 a_5))))) (a_3 b_5 (a_3 e_7 (a_0 2) a_2) a_2)))) nd)
  (a_4 (a_9 (i := 5) [2] (a_3 b_3 a_2 (a_3 b_5 (a_3 e_7 (a_0 2) a_2) (q_9 (q_8 (a_1 a_2 (a_1 (a_3 j_0 (a_3 v_3 a_2 a_2) a_2) a_5))) (a_3 b_5 (a_3 e_7 (a_0 2) a_2) a_2)))) nd)
  (a_4 (e_1 [1, 2] (td_w (af_9 (d_2 (l_9 hu) (a_3 b_5 (a_3 e_7 (a_0 2) a_2) a_2) a_2 (d_6 _)) (ad_4 (c_8 (r_2 o5 (q_9 (a_0 1) a_2) c6 x5 PyProof.Rows.boot_int)))))
   (a_6 (a_9 (i := 5) [1, 2] (b_7 (u_1 zr) rfl ac2 PyProof.Rows.boot_max (a_1 a_2 (a_1 (b_7 (z_0 zr) rfl y8 PyProof.Rows.boot_min (a_1 (a_3 j_0 (q_9 (a_0 1) a_2) (a_3 b_5 (a_3 e_7 (a_0 2) a_2) a_2)) (a_1 (a_3 j_0 (a_3 v_3 a_2 a_2) a_2) a_5))) a_5))) nd))
   c_3)
  (a_4 (a_9 (i := 6) [2, 5] (a_3 b_3 (a_3 j_0 (a_0 5) a_2) (a_3 b_5 (a_3 e_7 (a_0 2) a_2) a_2)) nd)
  (a_4 (e_1 [2] (d_2 (l_9 hu) (a_3 b_5 (a_3 e_7 (a_0 2) a_2) a_2) a_2 (d_6 _))
   (a_6 (j_6 [2] c_2 zr (k_2 g8 (a_1 (a_3 b_5 (a_3 e_7 (a_0 2) a_2) a_2) a_5)) (k_3 (i := 9) nd)
   (a_4 (a_9 (i := 14) [0, 5, 9] (a_3 b_3 (a_0 5) (a_3 b_5 (a_7 zu zv j1 (a_1 (a_7 zu zv o6 (a_1 (a_0 0) (a_1 a_2 a_5))) (a_1 (a_0 9) a_5))) a_2)) nd)
  (a_6 (e_1 [1, 14] (d_2 ag_1 (a_0 14) (a_0 1) (by with_unfolding_all rfl))
   (a_6 (ao_7 (i := 1) (a_0 14)))
   c_3)))))
   c_3)
  (a_4 (a_9 (i := 7) [1, 3, 4] (a_7 zu zv aa3 (a_1 (a_0 1) (a_1 (a_0 4) (a_1 (a_0 3) a_5)))) nd)
  (a_4 (e_1 [7] (d_2 cu_5 (a_0 7) ci_8 (d_6 _))
   (a_6 (b_4 [] p_2))
   c_3)
  (a_4 (a_9 (i := 8) [] a_2 nd)
  (a_4 (j_6 [4] c_2 zr (k_2 g8 (a_1 (a_0 4) a_5)) (k_3 (i := 9) nd)
   (a_6 (a_9 (i := 8) [8] (a_3 c_1 a_2 (a_0 8)) nd)))
  (a_4 (a_9 (i := 10) [1, 5, 6, 7, 8] (a_7 zu zv ad3 (a_1 (a_0 7) (a_1 (a_0 1) (a_1 (a_0 5) (a_1 (a_0 6) (a_1 (a_0 8) a_5)))))) nd)
  (a_4 (e_1 [1, 5, 6, 7, 10] (q_7 (c_8 (a_7 zu zv o9 (a_1 (a_0 7) (a_1 (a_0 1) (a_1 (a_0 5) (a_1 (a_0 6) (a_1 (a_0 10) a_5))))))))
   (a_6 (b_4 [] p_2))
   c_3)
  (a_4 (e_1 [1, 5, 6, 7, 10] (q_7 (c_8 (a_7 zu zv o9 (a_1 (a_0 7) (a_1 (o_6 (N' := ["_law_script", "_law_keys_here", "_law_cell_here", "_law_kind", "_law_width", "_law_low", "_law_high", "_law_marked_here", "_law_modulus", "_law_k", "_law_due_here", "_law_far", "_law_most", "_law_near", "_law_number", "_law_key_here"]) zr (cl_2 t7 (a_0 1)) rfl (by kernel_rfl) rfl (fun C s0 H0 fp pn => ⟨(gcM (i := 15)), x_0, (a_0 15)⟩)) (a_1 (a_0 5) (a_1 (a_0 6) (a_1 (a_0 10) a_5))))))))
   (a_6 (b_4 [] p_2))
   c_3)
  (a_4 (j_6 [5] c_2 zr (u_4 (q_8 (a_1 a_2 (a_1 a_2 (a_1 (a_3 v_3 a_2 a_2) (a_1 (a_3 j_0 (a_3 j_0 (a_3 v_3 a_2 a_2) a_2) (a_0 5)) a_5)))))) (k_3 (i := 11) nd)
   (a_6 (e_1 [1, 5, 7, 11] (td_w (af_9 (d_2 cj_7 (a_0 11) a_2 (d_6 _)) (af_9 (d_2 bb_0 (a_3 b_3 (a_0 5) (a_0 11)) (a_3 v_3 a_2 a_2) (d_6 _)) (ad_4 (q_7 (c_8 (a_7 zu zv y3 (a_1 (a_0 7) (a_1 (a_0 1) (a_1 (a_0 5) (a_1 (a_3 b_3 (a_0 5) (a_0 11)) a_5)))))))))))
   (a_6 (b_4 [] p_2))
   c_3)))
  (a_4 (e_1 [1, 2, 5, 7] (td_w (af_9 (d_2 (l_9 hu) (a_3 b_5 (a_3 e_7 (a_0 2) a_2) a_2) a_2 (d_6 _)) (ad_4 (q_7 (c_8 (r_2 y6 (a_7 zu zv k8 (a_1 (a_0 7) (a_1 (a_0 1) (a_1 (a_0 5) (a_1 (a_3 b_3 (a_0 5) a_2) a_5))))) c6 u6 PyProof.Rows.boot_list))))))
   (a_6 (b_4 [] p_2))
   c_3)
  (a_4 (a_9 (i := 12) [] (a_3 j_0 (a_3 v_3 a_2 a_2) a_2) nd)
  (a_4 (a_9 (i := 13) [2, 12] (a_3 j_0 (a_0 12) (a_3 b_5 (a_3 e_7 (a_0 2) a_2) a_2)) nd)
  (a_4 (e_1 [1, 7, 8, 12, 13] (q_7 (c_8 (a_7 zu zv o9 (a_1 (a_0 7) (a_1 (a_0 1) (a_1 (a_0 13) (a_1 (a_0 12) (a_1 (a_7 zu zv ad3 (a_1 (a_0 7) (a_1 (a_0 1) (a_1 (a_0 13) (a_1 (a_0 12) (a_1 (a_0 8) a_5)))))) a_5))))))))
   (a_6 (b_4 [] p_2))
   c_3)
  (a_6 (b_4 [1, 5, 6, 7, 10] (ao_0 (af_7 (l_9 hu) (a_7 zu zv k8 (a_1 (a_0 7) (a_1 (a_0 1) (a_1 (a_3 b_3 (a_0 6) a_2) (a_1 (a_3 j_0 (a_0 5) a_2) a_5))))) (q_8 a_5) (d_6 _)) (an_9 (a_7 zu zv o9 (a_1 (a_0 7) (a_1 (a_0 1) (a_1 (a_0 5) (a_1 (a_0 6) (a_1 (a_0 10) a_5))))))))))))))))))))))))))))))
abbrev at_1 : Stmt := top 71
end
theorem dh_0 {l : PySem.W.OpenLaw} {w : World} {K : Frag} {h : Heap} {mg : Str → Option Value} {fa : Addr} (X : K.In h) (G : h.Ns mainGlobals mg) (hfa : mg "law" = some (.ref fa))
  {j0 : Addr}
  {i6 : Addr}
  {f50 : Addr} {bs6 br6 : Option Addr} {bs8 : Array (Option Value)} {bs7 br8 bs4 br5 br1 br9 : Value}
  {ak8 : Tok}
  {be3 : Tok}
  {af5 : Tok}
  {am3 : Tok}
  {bm3 : Tok}
  {am6 : Tok}
  {af7 : Tok}
  {d0 : Addr}
  {g7 : Addr}
  {c9 : Addr}
  {c7 : Addr}
  {c8 : Addr}
  {i9 : Addr}
  {j5 : Addr}
  {i7 : Addr}
  {l6 : Addr}
  {j6 : Addr}
  {i8 : Addr}
  {l9 : Addr}
  {ab8 av0 av2 : Addr} {bk4 bl0 : Str} {bi6 ba7 : List Value} {bl9 : List Str} {bn7 : Bool} {bd6 : Option Bool} {bo1 bn6 az7 aw5 ay0 be5 : Option Addr} {bl7 bm6 bm1 bg9 bp0 : Option Value} {bo5 be7 bn2 bo2 bi4 bj2 ap2 bk6 : Value} {aj8 ag8 : Array DictEntry} {bg0 ay7 : Nat} {bf9 ay1 az9 bd3 : Array (Option Value)} {al1 : ClassData}
  {ab1 av1 av5 : Addr} {bp5 bh5 : Str} {bl6 ay4 : List Value} {bl4 : List Str} {bg5 : Bool} {bd5 : Option Bool} {bf1 bo4 bc3 av6 bb6 bh0 : Option Addr} {bo3 bm9 bf3 bp4 bp8 : Option Value} {bj5 be6 bo9 be4 bf5 bp2 an6 bn4 : Value} {ak2 ag9 : Array DictEntry} {bp6 bb2 : Nat} {bg6 av7 ba2 ax6 : Array (Option Value)} {am0 : ClassData}
  {ao4 ao6 : Addr} {bd8 ay5 : Str} {bb1 aq7 : List Value} {ay8 : List Str} {ax4 : Bool} {ar5 : Option Bool} {az4 bd2 as8 ar7 : Option Addr} {av9 ay2 bc9 bb5 ba0 : Option Value} {ax1 ax7 aw0 : Value} {ah1 af4 : Array DictEntry} {ax9 ar9 : Nat} {aw1 au1 aq4 : Array (Option Value)} {aj3 : ClassData}
  {av4 av3 : Addr} {bm0 bf6 : Str} {bq1 ax8 : List Value} {bn1 : List Str} {bi7 : Bool} {be1 : Option Bool} {bq2 bi8 aw4 ax5 : Option Addr} {bq0 bl1 bg7 bg4 bj0 : Option Value} {bi2 bh7 bo0 : Value} {aj5 ah5 : Array DictEntry} {bm4 ba1 : Nat} {bk9 az8 aw7 : Array (Option Value)} {al6 : ClassData}
  {al7 al0 : Addr} {as4 au8 : Str} {as9 ao5 : List Value} {aq6 : List Str} {au2 : Bool} {an8 : Option Bool} {as3 as0 ao3 ao1 : Option Addr} {ap5 at8 at2 at6 au5 : Option Value} {ar2 aq3 au7 : Value} {ae5 ab5 : Array DictEntry} {at5 ao9 : Nat} {aq5 an5 an7 : Array (Option Value)} {ai1 : ClassData}
  (n6 : nsIn K mainGlobals "Table" = some (some (.ref j0)))
  (bn9 : plainGet K j0 Str.empty = true)
  (bo8 : hasDictIn K j0 = true)
  (bk0 : plainOver K j0 = true)
  (bf2 : findIn K (.ref j0) "__setattr__" = some (some (.builtin "object.__setattr__")))
  (bn5 : makesIn K j0 = true)
  (bi5 : keepIn K (.ref j0) = true)
  (ah2 : findIn K (.ref j0) "by_salt" = some none)
  (ak7 : findIn K (.ref j0) "kind" = some none)
  (ak6 : findIn K (.ref j0) "part" = some none)
  (ag5 : findIn K (.ref j0) "modulus" = some none)
  (ai5 : findIn K (.ref j0) "listed" = some none)
  (n8 : nsIn K mainGlobals "Marked" = some (some (.ref i6)))
  (bd7 : plainGet K i6 Str.empty = true)
  (ba5 : hasDictIn K i6 = true)
  (bc1 : plainOver K i6 = true)
  (bc8 : findIn K (.ref i6) "__setattr__" = some (some (.builtin "object.__setattr__")))
  (aw8 : makesIn K i6 = true)
  (bd4 : keepIn K (.ref i6) = true)
  (ae8 : findIn K (.ref i6) "how_many" = some none)
  (ai4 : findIn K (.ref i6) "width" = some none)
  (ad9 : findIn K (.ref i6) "own_table" = some none)
  (w1 : FnTop K "_law_raw" (top 56))
  (w2 : FnTop K "_law_mix" (top 55))
  (w3 : FnTop K "_law_cell" (top 57))
  (w4 : FnTop K "_law_great" (top 59))
  (w5 : FnTop K "_law_cells" (top 60))
  (w6 : FnTop K "_law_key" (top 58))
  (w7 : FnTop K "_law_keys" (top 61))
  (w8 : FnTop K "is_key_text" (top 23))
  (w9 : FnTop K "is_key" (top 24))
  (w10 : FnTop K "look_each_key" (top 29))
  (w11 : FnTop K "look_unlike" (top 30))
  (w12 : FnTop K "look_keys" (top 31))
  (w13 : FnTop K "part_size" (top 41))
  (w14 : FnTop K "worth" (top 25))
  (w15 : FnTop K "stamp" (top 26))
  (w16 : FnTop K "mixed" (top 27))
  (w17 : FnTop K "places_of" (top 42))
  (w18 : FnTop K "edges_of" (top 43))
  (w19 : FnTop K "standing_at" (top 37))
  (w20 : FnTop K "take_away" (top 38))
  (w21 : FnTop K "peeled" (top 39))
  (w22 : FnTop K "fate" (top 44))
  (w23 : FnTop K "succeeds" (top 45))
  (w24 : FnTop K "first_try" (top 46))
  (w25 : FnTop K "is_below" (top 14))
  (w26 : FnTop K "remainder" (top 33))
  (w27 : FnTop K "summed" (top 34))
  (w28 : FnTop K "filled" (top 35))
  (w29 : FnMet K j0 "__init__" "Table.__init__" (inC 48 0))
  (w30 : FnTop K "table_for" (top 49))
  (w31 : FnTop K "two_to" (top 15))
  (w32 : FnTop K "mark" (top 28))
  (w33 : FnMet K i6 "__init__" "Marked.__init__" (inC 52 0))
  (w34 : FnTop K "_law_marked" (top 67))
  (w35 : FnTop K "_law_tells" (top 65))
  (w36 : FnTop K "_law_mixed" (top 63))
  (w37 : FnTop K "_law_stamp" (top 62))
  (w38 : FnMet K j0 "table" "Table.table" (inC 48 2))
  (w39 : FnMet K i6 "table" "Marked.table" (inC 52 3))
  (w40 : FnMet K j0 "places" "Table.places" (inC 48 3))
  (w41 : FnMet K i6 "places" "Marked.places" (inC 52 4))
  (w42 : FnTop K "_law_due" (top 68))
  (w43 : FnMet K j0 "total" "Table.total" (inC 48 4))
  (w44 : FnMet K i6 "knows" "Marked.knows" (inC 52 5))
  (w45 : FnTop K "mistaken" (top 53))
  (w46 : FnTop K "_law_whole" (top 64))
  (w47 : FnTop K "_law_asked" (top 70))
  (w48 : FnTop K "_law_alone" (top 66))
  (w49 : FnTop K "_law_refused" (top 69))
  (a50 : nsIn K mainGlobals "law" = some (some (.ref f50))) (l50 : K.lookup f50 = some ⟨bs7, bs6, .func (fnOf "law" "law" (g_2 at_1) (d_3 at_1) (b_2 at_1) .none br8 bs4 br5 br6 br1 br9), bs8⟩) (c50 : codeIn K br1 "law" = true) (k50 : keepIn K (.ref f50) = true)
  (bs1 : nsIn K mainGlobals "len" = some none)
  (br3 : nsIn K mainGlobals "max" = some none)
  (bq6 : nsIn K mainGlobals "range" = some none)
  (bs0 : nsIn K mainGlobals "min" = some none)
  (br7 : nsIn K mainGlobals "int" = some none)
  (bs2 : nsIn K mainGlobals "all" = some none)
  (am4 : nsIn K mainGlobals "isinstance" = some none)
  (bq9 : nsIn K mainGlobals "bool" = some none)
  (bs3 : nsIn K mainGlobals "str" = some none)
  (ao7 : nsIn K mainGlobals "enumerate" = some none)
  (bq8 : nsIn K mainGlobals "tuple" = some none)
  (br0 : nsIn K mainGlobals "list" = some none)
  (br2 : nsIn K mainGlobals "sum" = some none)
  (aq9 : nsIn K mainGlobals "reversed" = some none)
  (am5 : nsIn K mainGlobals "ValueError" = some none)
  (au4 : kitOne K (.type "NoneType") (.type "bool") = some false)
  (bb3 : kitOne K (.type "bool") (.type "bool") = some true)
  (ar0 : kitOne K (.type "int") (.type "bool") = some false)
  (as6 : kitOne K (.type "str") (.type "bool") = some false)
  (as5 : kitOne K (.type "list") (.type "bool") = some false)
  (ap4 : kitOne K (.type "tuple") (.type "bool") = some false)
  (aw9 : kitOne K (.type "NoneType") (.type "int") = some false)
  (bk1 : kitOne K (.type "bool") (.type "int") = some true)
  (bb4 : kitOne K (.type "int") (.type "int") = some true)
  (az5 : kitOne K (.type "str") (.type "int") = some false)
  (bb9 : kitOne K (.type "list") (.type "int") = some false)
  (bc7 : kitOne K (.type "tuple") (.type "int") = some false)
  (bc6 : kitOne K (.type "NoneType") (.type "str") = some false)
  (bl5 : kitOne K (.type "bool") (.type "str") = some false)
  (ay6 : kitOne K (.type "int") (.type "str") = some false)
  (be0 : kitOne K (.type "str") (.type "str") = some true)
  (az2 : kitOne K (.type "list") (.type "str") = some false)
  (ba4 : kitOne K (.type "tuple") (.type "str") = some false)
  (ar1 : kitOne K (.type "NoneType") (.type "list") = some false)
  (ax2 : kitOne K (.type "bool") (.type "list") = some false)
  (au3 : kitOne K (.type "int") (.type "list") = some false)
  (ap7 : kitOne K (.type "str") (.type "list") = some false)
  (au6 : kitOne K (.type "list") (.type "list") = some true)
  (aq8 : kitOne K (.type "tuple") (.type "list") = some false)
  (am7 : nsIn K mainGlobals "MOST_SIGNS" = some (some (.int 11 ak8)))
  (bq7 : nsIn K mainGlobals "SIGNS" = some (some (.str "abcdefghijklmnopqrstuvwxyz0123456789-_ " be3)))
  (af6 : nsIn K mainGlobals "GREATEST_NUMBER" = some (some (.int 999999999999999999 af5)))
  (an4 : nsIn K mainGlobals "MOST_KEYS" = some (some (.int 200 am3)))
  (bq4 : nsIn K mainGlobals "PRIME" = some (some (.int 2305843009213693951 bm3)))
  (an9 : nsIn K mainGlobals "MARK_SALT" = some (some (.int 3 am6)))
  (ah8 : nsIn K mainGlobals "MOST_LOOKED_AT" = some (some (.int 2000 af7)))
  (v5 : nsIn K mainGlobals "NoKey" = some (some (.ref d0)))
  (u9 : nsIn K mainGlobals "Twice" = some (some (.ref g7)))
  (o7 : nsIn K mainGlobals "NoKeys" = some (some (.ref c9)))
  (v6 : nsIn K mainGlobals "NoTry" = some (some (.ref c7)))
  (n5 : nsIn K mainGlobals "NoRange" = some (some (.ref c8)))
  (ak9 : nsIn K mainGlobals "LodgeError" = some (some (.ref i9)))
  (bd9 : nsIn K mainGlobals "NoBits" = some (some (.ref j5)))
  (ar4 : nsIn K mainGlobals "NoEdges" = some (some (.ref i7)))
  (bn3 : nsIn K mainGlobals "NoFit" = some (some (.ref l6)))
  (bc2 : nsIn K mainGlobals "NoSuch" = some (some (.ref j6)))
  (at4 : nsIn K mainGlobals "NoValue" = some (some (.ref i8)))
  (bg3 : nsIn K mainGlobals "Stuck" = some (some (.ref l9)))
  (ap0 : K.lookup d0 = some (excClassObj bk4 bl0 d0 av0 bi6 (.ref av2 :: bmVE) true bl9 ba7 bn7 bd6 bo1 bl7 bm6 bm1 bg9 bp0 "ValueError.__new__"))
  (bj1 : K.lookup av0 = some ⟨bo5, bn6, .dict aj8 bg0, bf9⟩)
  (bs5 : findIn K (.ref d0) "__init__" = some (some (.ref ab8)))
  (bm5 : e_5 aj8 = true)
  (be9 : nsFind aj8 "__init__" = some (.ref ab8))
  (bp7 : K.lookup av2 = some ⟨be7, az7, .cls al1, ay1⟩)
  (bn8 : K.lookup al1.ns = some ⟨bn2, aw5, .dict ag8 ay7, az9⟩)
  (bg2 : e_5 ag8 = true)
  (bj6 : nsFind ag8 "__init__" = none)
  (bh2 : findIn K (.ref d0) "__setattr__" = some (some (.builtin "object.__setattr__")))
  (bk3 : findIn K (.ref d0) "at" = some none)
  (aw2 : keepIn K (.ref d0) = true)
  (al4 : K.lookup ab8 = some ⟨.type "function", ay0, .func (fnOf "__init__" "NoKey.__init__" (g_2 k_8) (d_3 k_8) (b_2 k_8) .none bo2 bi4 bj2 be5 ap2 bk6), bd3⟩)
  (az6 : codeIn K ap2 "NoKey.__init__" = true)
  (az3 : keepIn K (.ref ab8) = true)
  (bi3 : findIn K (.ref d0) "__getattribute__" = some (some (.builtin "BaseException.__getattribute__")))
  (bh6 : findIn K (.ref d0) "__getattr__" = some none)
  (bo6 : mroIn K d0 (.type "BaseException") = some true)
  (bp3 : hasDictIn K d0 = true)
  (bl8 : findIn K (.ref d0) "__class__" = some (some (.builtin "object.__class__")))
  (bm7 : mroIn K d0 (.type "object") = some true)
  (aj4 : exmOne K (.ref d0) (.ref c7) = some false)
  (ah6 : exmOne K (.ref d0) (.ref c8) = some false)
  (ad8 : kitOne K (.ref d0) (.ref i9) = some true)
  (ae0 : kitOne K (.ref d0) (.type "ValueError") = some true)
  (m6 : kitAny K (.ref d0) [.ref j5, .ref i7, .ref l6, .ref d0, .ref c9] = some true)
  (m8 : kitAny K (.ref d0) [.ref j6, .ref c7, .ref i8, .ref l9, .ref g7] = some false)
  (ao2 : K.lookup g7 = some (excClassObj bp5 bh5 g7 av1 bl6 (.ref av5 :: bmVE) true bl4 ay4 bg5 bd5 bf1 bo3 bm9 bf3 bp4 bp8 "ValueError.__new__"))
  (bg8 : K.lookup av1 = some ⟨bj5, bo4, .dict ak2 bp6, bg6⟩)
  (br4 : findIn K (.ref g7) "__init__" = some (some (.ref ab1)))
  (bh3 : e_5 ak2 = true)
  (bo7 : nsFind ak2 "__init__" = some (.ref ab1))
  (bf4 : K.lookup av5 = some ⟨be6, bc3, .cls am0, av7⟩)
  (bp9 : K.lookup am0.ns = some ⟨bo9, av6, .dict ag9 bb2, ba2⟩)
  (bi0 : e_5 ag9 = true)
  (bf7 : nsFind ag9 "__init__" = none)
  (bj3 : findIn K (.ref g7) "__setattr__" = some (some (.builtin "object.__setattr__")))
  (bh9 : findIn K (.ref g7) "at" = some none)
  (bc5 : keepIn K (.ref g7) = true)
  (al8 : K.lookup ab1 = some ⟨.type "function", bb6, .func (fnOf "__init__" "Twice.__init__" (g_2 k_7) (d_3 k_7) (b_2 k_7) .none be4 bf5 bp2 bh0 an6 bn4), ax6⟩)
  (bd0 : codeIn K an6 "Twice.__init__" = true)
  (ba8 : keepIn K (.ref ab1) = true)
  (bh4 : findIn K (.ref g7) "__getattribute__" = some (some (.builtin "BaseException.__getattribute__")))
  (bm8 : findIn K (.ref g7) "__getattr__" = some none)
  (bh1 : mroIn K g7 (.type "BaseException") = some true)
  (be8 : hasDictIn K g7 = true)
  (bp1 : findIn K (.ref g7) "__class__" = some (some (.builtin "object.__class__")))
  (bi1 : mroIn K g7 (.type "object") = some true)
  (ai8 : exmOne K (.ref g7) (.ref c7) = some false)
  (ag3 : exmOne K (.ref g7) (.ref c8) = some false)
  (ae1 : kitOne K (.ref g7) (.ref i9) = some true)
  (ae2 : kitOne K (.ref g7) (.type "ValueError") = some true)
  (l4 : kitAny K (.ref g7) [.ref j5, .ref i7, .ref l6, .ref d0, .ref c9] = some false)
  (m7 : kitAny K (.ref g7) [.ref j6, .ref c7, .ref i8, .ref l9, .ref g7] = some true)
  (bb7 : K.lookup c9 = some (excClassObj bd8 ay5 c9 ao4 bb1 (.ref ao6 :: bmVE) true ay8 aq7 ax4 ar5 az4 av9 ay2 bc9 bb5 ba0 "ValueError.__new__"))
  (bb8 : K.lookup ao4 = some ⟨ax1, bd2, .dict ah1 ax9, aw1⟩)
  (ay9 : e_5 ah1 = true)
  (bb0 : nsFind ah1 "__init__" = none)
  (ay3 : K.lookup ao6 = some ⟨ax7, as8, .cls aj3, au1⟩)
  (bc4 : K.lookup aj3.ns = some ⟨aw0, ar7, .dict af4 ar9, aq4⟩)
  (aw3 : e_5 af4 = true)
  (az1 : nsFind af4 "__init__" = none)
  (ap9 : keepIn K (.ref c9) = true)
  (be2 : findIn K (.ref c9) "__getattribute__" = some (some (.builtin "BaseException.__getattribute__")))
  (ba9 : findIn K (.ref c9) "__getattr__" = some none)
  (av8 : mroIn K c9 (.type "BaseException") = some true)
  (ax0 : hasDictIn K c9 = true)
  (bc0 : findIn K (.ref c9) "__class__" = some (some (.builtin "object.__class__")))
  (az0 : mroIn K c9 (.type "object") = some true)
  (ai3 : exmOne K (.ref c9) (.ref c7) = some false)
  (af9 : exmOne K (.ref c9) (.ref c8) = some false)
  (ab2 : kitOne K (.ref c9) (.ref i9) = some true)
  (ab3 : kitOne K (.ref c9) (.type "ValueError") = some true)
  (l3 : kitAny K (.ref c9) [.ref j5, .ref i7, .ref l6, .ref d0, .ref c9] = some true)
  (l8 : kitAny K (.ref c9) [.ref j6, .ref c7, .ref i8, .ref l9, .ref g7] = some false)
  (bh8 : K.lookup c7 = some (excClassObj bm0 bf6 c7 av4 bq1 (.ref av3 :: bmVE) true bn1 ax8 bi7 be1 bq2 bq0 bl1 bg7 bg4 bj0 "ValueError.__new__"))
  (bq3 : K.lookup av4 = some ⟨bi2, bi8, .dict aj5 bm4, bk9⟩)
  (bk5 : e_5 aj5 = true)
  (bj8 : nsFind aj5 "__init__" = none)
  (bk7 : K.lookup av3 = some ⟨bh7, aw4, .cls al6, az8⟩)
  (bf8 : K.lookup al6.ns = some ⟨bo0, ax5, .dict ah5 ba1, aw7⟩)
  (bn0 : e_5 ah5 = true)
  (bg1 : nsFind ah5 "__init__" = none)
  (bd1 : keepIn K (.ref c7) = true)
  (bm2 : findIn K (.ref c7) "__getattribute__" = some (some (.builtin "BaseException.__getattribute__")))
  (bk2 : findIn K (.ref c7) "__getattr__" = some none)
  (bj9 : mroIn K c7 (.type "BaseException") = some true)
  (bi9 : hasDictIn K c7 = true)
  (bj7 : findIn K (.ref c7) "__class__" = some (some (.builtin "object.__class__")))
  (bl3 : mroIn K c7 (.type "object") = some true)
  (ak4 : exmOne K (.ref c7) (.ref c7) = some true)
  (ag7 : exmOne K (.ref c7) (.ref c8) = some false)
  (ae3 : kitOne K (.ref c7) (.ref i9) = some true)
  (ae4 : kitOne K (.ref c7) (.type "ValueError") = some true)
  (l7 : kitAny K (.ref c7) [.ref j5, .ref i7, .ref l6, .ref d0, .ref c9] = some false)
  (m9 : kitAny K (.ref c7) [.ref j6, .ref c7, .ref i8, .ref l9, .ref g7] = some true)
  (aq1 : K.lookup c8 = some (excClassObj as4 au8 c8 al7 as9 (.ref al0 :: bmVE) true aq6 ao5 au2 an8 as3 ap5 at8 at2 at6 au5 "ValueError.__new__"))
  (at3 : K.lookup al7 = some ⟨ar2, as0, .dict ae5 at5, aq5⟩)
  (ap3 : e_5 ae5 = true)
  (au0 : nsFind ae5 "__init__" = none)
  (ar3 : K.lookup al0 = some ⟨aq3, ao3, .cls ai1, an5⟩)
  (as7 : K.lookup ai1.ns = some ⟨au7, ao1, .dict ab5 ao9, an7⟩)
  (ar6 : e_5 ab5 = true)
  (au9 : nsFind ab5 "__init__" = none)
  (an3 : keepIn K (.ref c8) = true)
  (aq2 : findIn K (.ref c8) "__getattribute__" = some (some (.builtin "BaseException.__getattribute__")))
  (ap6 : findIn K (.ref c8) "__getattr__" = some none)
  (ar8 : mroIn K c8 (.type "BaseException") = some true)
  (aq0 : hasDictIn K c8 = true)
  (ap8 : findIn K (.ref c8) "__class__" = some (some (.builtin "object.__class__")))
  (at7 : mroIn K c8 (.type "object") = some true)
  (ai0 : exmOne K (.ref c8) (.ref c7) = some false)
  (af3 : exmOne K (.ref c8) (.ref c8) = some true)
  (aa4 : kitOne K (.ref c8) (.ref i9) = some true)
  (aa5 : kitOne K (.ref c8) (.type "ValueError") = some true)
  (k9 : kitAny K (.ref c8) [.ref j5, .ref i7, .ref l6, .ref d0, .ref c9] = some false)
  (l2 : kitAny K (.ref c8) [.ref j6, .ref c7, .ref i8, .ref l9, .ref g7] = some false)
  (aj6 : specialIn K (.builtin "object.__class__") "__get__" = some (some (.builtin "getset_descriptor.__get__")))
  (ak0 : takesIn K (.builtin "object.__class__") = some true) :
  ∃ fd : FuncData, (∀ (s : Shared) (v : Value), BindsTo s fd ⟨[v], []⟩ [("_law_script", v)]) ∧ ∀ base : Heap, K.In base → base.Ns mainGlobals mg → FnOk l.prog w K mg base CX0 12 fa fd ["_law_script"] (ap_0 K) := by
 have bl2 := mg_of X G n6
 have p7 : Cls K j0 := ⟨bn9, bo8, bk0, bf2⟩
 have ax3 := mg_of X G n8
 have u4 : Cls K i6 := ⟨bd7, ba5, bc1, bc8⟩
 have u7 : OFld K ["Table"] "by_salt" := (.one n6 p7 ah2 .nil)
 have ac7 : OFld K ["Table"] "kind" := (.one n6 p7 ak7 .nil)
 have ac8 : OFld K ["Table"] "part" := (.one n6 p7 ak6 .nil)
 have r6 : OFld K ["Table"] "modulus" := (.one n6 p7 ag5 .nil)
 have n9 : OFld K ["Table"] "listed" := (.one n6 p7 ai5 .nil)
 have aa6 : OFld K ["Marked"] "how_many" := (.one n8 u4 ae8 .nil)
 have y7 : OFld K ["Marked"] "width" := (.one n8 u4 ai4 .nil)
 have h9 : OFld K ["Marked"] "own_table" := (.one n8 u4 ad9 .nil)
 have af8 := mg_of X G v5
 have ag0 := mg_of X G u9
 have ac9 := mg_of X G o7
 have x0 := mg_of X G v6
 have aa0 := mg_of X G n5
 have y4 := mg_of X G ak9
 have ah0 := mg_of X G bd9
 have af1 := mg_of X G ar4
 have ak1 := mg_of X G bn3
 have ah4 := mg_of X G bc2
 have ae9 := mg_of X G at4
 have aj9 := mg_of X G bg3
 have al9 := by_3 ap0 bh2
 have aw6 : XMk K d0 ab8 := cm_5 ap0 bj1 bm5 be9 bp7 bn8 bg2 bj6
 have ac6 : XInst K d0 := ⟨bi3, bh6, bo6, bp3, bl8, aj6, ak0, bm7⟩
 have an2 := ba_4 (x := "__init__") (qual := "NoKey.__init__") (st := k_8) al4 az6 az3
 have bf0 := Fun.binds2 (ps := ["self", "at"]) an2 rfl fun _ _ _ _ _ _ _ _ => rfl
 have al3 := by_3 ao2 bj3
 have ba6 : XMk K g7 ab1 := cm_5 ao2 bg8 bh3 bo7 bf4 bp9 bi0 bf7
 have ad7 : XInst K g7 := ⟨bh4, bm8, bh1, be8, bp1, aj6, ak0, bi1⟩
 have ao8 := ba_4 (x := "__init__") (qual := "Twice.__init__") (st := k_7) al8 bd0 ba8
 have bk8 := Fun.binds2 (ps := ["self", "at"]) ao8 rfl fun _ _ _ _ _ _ _ _ => rfl
 have at9 : XMk0 K c9 := bd_3 bb7 bb8 ay9 bb0 ay3 bc4 aw3 az1
 have aa2 : XInst K c9 := ⟨be2, ba9, av8, ax0, bc0, aj6, ak0, az0⟩
 have ag6 : XC0 K mg "NoKeys" c9 := ⟨o7, ac9, ap9, at9⟩
 have ba3 : XMk0 K c7 := bd_3 bh8 bq3 bk5 bj8 bk7 bf8 bn0 bg1
 have ad4 : XInst K c7 := ⟨bm2, bk2, bj9, bi9, bj7, aj6, ak0, bl3⟩
 have aj2 : XC0 K mg "NoTry" c7 := ⟨v6, x0, bd1, ba3⟩
 have ap1 : XMk0 K c8 := bd_3 aq1 at3 ap3 au0 ar3 as7 ar6 au9
 have x8 : XInst K c8 := ⟨aq2, ap6, ar8, aq0, ap8, aj6, ak0, at7⟩
 have ae6 : XC0 K mg "NoRange" c8 := ⟨n5, aa0, an3, ap1⟩
 have ak5 : Catches K c7 [("NoKey", false), ("NoKeys", false), ("NoRange", false), ("NoTry", true), ("Twice", false)] := (.one v5 aj4 (.one o7 ai3 (.one n5 ai0 (.one v6 ak4 (.one u9 ai8 .nil)))))
 have af2 : Catches K c8 [("NoKey", false), ("NoKeys", false), ("NoRange", true), ("NoTry", false), ("Twice", false)] := (.one v5 ah6 (.one o7 af9 (.one n5 af3 (.one v6 ag7 (.one u9 ag3 .nil)))))
 have y1 : IsOne K (.ref i9) [("NoKey", true), ("NoKeys", true), ("NoRange", true), ("NoTry", true), ("Twice", true)] := (.one v5 ac6 ad8 (.one o7 aa2 ab2 (.one n5 x8 aa4 (.one v6 ad4 ae3 (.one u9 ad7 ae1 .nil)))))
 have x3 : IsOne K (.type "ValueError") [("NoKey", true), ("NoKeys", true), ("NoRange", true), ("NoTry", true), ("Twice", true)] := (.one v5 ac6 ae0 (.one o7 aa2 ab3 (.one n5 x8 aa5 (.one v6 ad4 ae4 (.one u9 ad7 ae2 .nil)))))
 have g9 : IsAny K [j5, i7, l6, d0, c9] [("NoKey", true), ("NoKeys", true), ("NoRange", false), ("NoTry", false), ("Twice", false)] := (IsAny.one (v := [j5, i7, l6, d0, c9]) v5 ac6 m6 (IsAny.one (v := [j5, i7, l6, d0, c9]) o7 aa2 l3 (IsAny.one (v := [j5, i7, l6, d0, c9]) n5 x8 k9 (IsAny.one (v := [j5, i7, l6, d0, c9]) v6 ad4 l7 (IsAny.one (v := [j5, i7, l6, d0, c9]) u9 ad7 l4 .nil)))))
 have h8 : IsAny K [j6, c7, i8, l9, g7] [("NoKey", false), ("NoKeys", false), ("NoRange", false), ("NoTry", true), ("Twice", true)] := (IsAny.one (v := [j6, c7, i8, l9, g7]) v5 ac6 m8 (IsAny.one (v := [j6, c7, i8, l9, g7]) o7 aa2 l8 (IsAny.one (v := [j6, c7, i8, l9, g7]) n5 x8 l2 (IsAny.one (v := [j6, c7, i8, l9, g7]) v6 ad4 m9 (IsAny.one (v := [j6, c7, i8, l9, g7]) u9 ad7 m7 .nil)))))
 have e := hfa.symm.trans (mg_of X G a50)
 cases e
 have j2 := mg_none_of X G bs1
 have ac2 := mg_none_of X G br3
 have g8 := mg_none_of X G bq6
 have y8 := mg_none_of X G bs0
 have x5 := mg_none_of X G br7
 have bj4 := mg_none_of X G bs2
 have c6 := mg_none_of X G am4
 have aa1 := mg_none_of X G bq9
 have al2 := mg_none_of X G bs3
 have k7 := mg_none_of X G ao7
 have am9 := mg_none_of X G bq8
 have u6 := mg_none_of X G br0
 have al5 := mg_none_of X G br2
 have t7 := mg_none_of X G aq9
 have z8 := mg_none_of X G am5
 have p9 : KitT K "bool" := ⟨au4, bb3, ar0, as6, as5, ap4⟩
 have o5 : KitT K "int" := ⟨aw9, bk1, bb4, az5, bb9, bc7⟩
 have ad0 : KitT K "str" := ⟨bc6, bl5, ay6, be0, az2, ba4⟩
 have y6 : KitT K "list" := ⟨ar1, ax2, au3, ap7, au6, aq8⟩
 have z9 := mg_of X G am7
 have ac5 := mg_of X G bq7
 have j3 := mg_of X G af6
 have aa7 := mg_of X G an4
 have ag1 := mg_of X G bq4
 have ac0 := mg_of X G an9
 have r9 := mg_of X G ah8
 obtain ⟨f1, a1, d1, F1⟩ := w1
 have b1 := Fun.binds2 (ps := ["_law_script", "_law_k"]) F1 rfl fun _ _ _ _ _ _ _ _ => rfl
 obtain ⟨f2, a2, d2, F2⟩ := w2
 have b2 := Fun.binds2 (ps := ["_law_cell_here", "_law_k"]) F2 rfl fun _ _ _ _ _ _ _ _ => rfl
 obtain ⟨f3, a3, d3, F3⟩ := w3
 have b3 := Fun.binds2 (ps := ["_law_script", "_law_k"]) F3 rfl fun _ _ _ _ _ _ _ _ => rfl
 obtain ⟨f4, a4, d4, F4⟩ := w4
 have b4 := Fun.binds1 (ps := ["_law_cell_here"]) F4 rfl fun _ _ _ _ _ _ _ => rfl
 obtain ⟨f5, a5, d5, F5⟩ := w5
 have b5 := Fun.binds3 (ps := ["_law_script", "_law_start", "_law_most"]) F5 rfl fun _ _ _ _ _ _ _ _ _ => rfl
 obtain ⟨f6, a6, d6, F6⟩ := w6
 have b6 := Fun.binds1 (ps := ["_law_cell_here"]) F6 rfl fun _ _ _ _ _ _ _ => rfl
 obtain ⟨f7, a7, d7, F7⟩ := w7
 have b7 := Fun.binds3 (ps := ["_law_script", "_law_start", "_law_most"]) F7 rfl fun _ _ _ _ _ _ _ _ _ => rfl
 obtain ⟨f8, a8, d8, F8⟩ := w8
 have b8 := Fun.binds1 (ps := ["text"]) F8 rfl fun _ _ _ _ _ _ _ => rfl
 obtain ⟨f9, a9, d9, F9⟩ := w9
 have b9 := Fun.binds1 (ps := ["thing"]) F9 rfl fun _ _ _ _ _ _ _ => rfl
 obtain ⟨f10, a10, d10, F10⟩ := w10
 have b10 := Fun.binds1 (ps := ["keys"]) F10 rfl fun _ _ _ _ _ _ _ => rfl
 obtain ⟨f11, a11, d11, F11⟩ := w11
 have b11 := Fun.binds1 (ps := ["keys"]) F11 rfl fun _ _ _ _ _ _ _ => rfl
 obtain ⟨f12, a12, d12, F12⟩ := w12
 have b12 := Fun.binds1 (ps := ["keys"]) F12 rfl fun _ _ _ _ _ _ _ => rfl
 obtain ⟨f13, a13, d13, F13⟩ := w13
 have b13 := Fun.binds2 (ps := ["many", "kind"]) F13 rfl fun _ _ _ _ _ _ _ _ => rfl
 obtain ⟨f14, a14, d14, F14⟩ := w14
 have b14 := Fun.binds1 (ps := ["text"]) F14 rfl fun _ _ _ _ _ _ _ => rfl
 obtain ⟨f15, a15, d15, F15⟩ := w15
 have b15 := Fun.binds1 (ps := ["key"]) F15 rfl fun _ _ _ _ _ _ _ => rfl
 obtain ⟨f16, a16, d16, F16⟩ := w16
 have b16 := Fun.binds3 (ps := ["number", "salt", "size"]) F16 rfl fun _ _ _ _ _ _ _ _ _ => rfl
 obtain ⟨f17, a17, d17, F17⟩ := w17
 have b17 := Fun.binds4 (ps := ["key", "salt", "kind", "part"]) F17 rfl fun _ _ _ _ _ _ _ _ _ _ => rfl
 obtain ⟨f18, a18, d18, F18⟩ := w18
 have b18 := Fun.binds3 (ps := ["keys", "salt", "kind"]) F18 rfl fun _ _ _ _ _ _ _ _ _ => rfl
 obtain ⟨f19, a19, d19, F19⟩ := w19
 have b19 := Fun.binds1 (ps := ["edges"]) F19 rfl fun _ _ _ _ _ _ _ => rfl
 obtain ⟨f20, a20, d20, F20⟩ := w20
 have b20 := Fun.binds3 (ps := ["number", "edge", "standing"]) F20 rfl fun _ _ _ _ _ _ _ _ _ => rfl
 obtain ⟨f21, a21, d21, F21⟩ := w21
 have b21 := Fun.binds2 (ps := ["edges", "size"]) F21 rfl fun _ _ _ _ _ _ _ _ => rfl
 obtain ⟨f22, a22, d22, F22⟩ := w22
 have b22 := Fun.binds3 (ps := ["keys", "salt", "kind"]) F22 rfl fun _ _ _ _ _ _ _ _ _ => rfl
 obtain ⟨f23, a23, d23, F23⟩ := w23
 have b23 := Fun.binds3 (ps := ["keys", "salt", "kind"]) F23 rfl fun _ _ _ _ _ _ _ _ _ => rfl
 obtain ⟨f24, a24, d24, F24⟩ := w24
 have b24 := Fun.binds3 (ps := ["keys", "kind", "most"]) F24 rfl fun _ _ _ _ _ _ _ _ _ => rfl
 obtain ⟨f25, a25, d25, F25⟩ := w25
 have b25 := Fun.binds2 (ps := ["number", "limit"]) F25 rfl fun _ _ _ _ _ _ _ _ => rfl
 obtain ⟨f26, a26, d26, F26⟩ := w26
 have b26 := Fun.binds2 (ps := ["number", "modulus"]) F26 rfl fun _ _ _ _ _ _ _ _ => rfl
 obtain ⟨f27, a27, d27, F27⟩ := w27
 have b27 := Fun.binds3 (ps := ["table", "places", "modulus"]) F27 rfl fun _ _ _ _ _ _ _ _ _ => rfl
 obtain ⟨f28, a28, d28, F28⟩ := w28
 have b28 := Fun.binds5 (ps := ["edges", "size", "order", "wanted", "modulus"]) F28 rfl fun _ _ _ _ _ _ _ _ _ _ _ => rfl
 obtain ⟨f29, a29, ⟨d29, F29⟩, k29, i29⟩ := w29
 have b29 := Fun.binds6 (ps := ["self", "salt", "kind", "part", "modulus", "listed"]) F29 rfl fun _ _ _ _ _ _ _ _ _ _ _ _ => rfl
 obtain ⟨f30, a30, d30, F30⟩ := w30
 have b30 := Fun.binds5 (ps := ["keys", "salt", "kind", "modulus", "wanted"]) F30 rfl fun _ _ _ _ _ _ _ _ _ _ _ => rfl
 obtain ⟨f31, a31, d31, F31⟩ := w31
 have b31 := Fun.binds1 (ps := ["width"]) F31 rfl fun _ _ _ _ _ _ _ => rfl
 obtain ⟨f32, a32, d32, F32⟩ := w32
 have b32 := Fun.binds2 (ps := ["key", "width"]) F32 rfl fun _ _ _ _ _ _ _ _ => rfl
 obtain ⟨f33, a33, ⟨d33, F33⟩, k33, i33⟩ := w33
 have b33 := Fun.binds5 (ps := ["self", "keys", "width", "kind", "most"]) F33 rfl fun _ _ _ _ _ _ _ _ _ _ _ => rfl
 obtain ⟨f34, a34, d34, F34⟩ := w34
 have b34 := Fun.binds3 (ps := ["_law_keys_here", "_law_width", "_law_kind"]) F34 rfl fun _ _ _ _ _ _ _ _ _ => rfl
 obtain ⟨f35, a35, d35, F35⟩ := w35
 have b35 := Fun.binds3 (ps := ["_law_table", "_law_places", "_law_modulus"]) F35 rfl fun _ _ _ _ _ _ _ _ _ => rfl
 obtain ⟨f36, a36, d36, F36⟩ := w36
 have b36 := Fun.binds3 (ps := ["_law_number", "_law_salt", "_law_size"]) F36 rfl fun _ _ _ _ _ _ _ _ _ => rfl
 obtain ⟨f37, a37, d37, F37⟩ := w37
 have b37 := Fun.binds1 (ps := ["_law_key_here"]) F37 rfl fun _ _ _ _ _ _ _ => rfl
 obtain ⟨f38, a38, ⟨d38, F38⟩, k38, i38⟩ := w38
 have b38 := Fun.binds1 (ps := ["self"]) F38 rfl fun _ _ _ _ _ _ _ => rfl
 obtain ⟨f39, a39, ⟨d39, F39⟩, k39, i39⟩ := w39
 have b39 := Fun.binds1 (ps := ["self"]) F39 rfl fun _ _ _ _ _ _ _ => rfl
 obtain ⟨f40, a40, ⟨d40, F40⟩, k40, i40⟩ := w40
 have b40 := Fun.binds2 (ps := ["self", "key"]) F40 rfl fun _ _ _ _ _ _ _ _ => rfl
 obtain ⟨f41, a41, ⟨d41, F41⟩, k41, i41⟩ := w41
 have b41 := Fun.binds2 (ps := ["self", "key"]) F41 rfl fun _ _ _ _ _ _ _ _ => rfl
 obtain ⟨f42, a42, d42, F42⟩ := w42
 have b42 := Fun.binds5 (ps := ["_law_marked_here", "_law_keys_here", "_law_low", "_law_high", "_law_modulus"]) F42 rfl fun _ _ _ _ _ _ _ _ _ _ _ => rfl
 obtain ⟨f43, a43, ⟨d43, F43⟩, k43, i43⟩ := w43
 have b43 := Fun.binds2 (ps := ["self", "key"]) F43 rfl fun _ _ _ _ _ _ _ _ => rfl
 obtain ⟨f44, a44, ⟨d44, F44⟩, k44, i44⟩ := w44
 have b44 := Fun.binds2 (ps := ["self", "key"]) F44 rfl fun _ _ _ _ _ _ _ _ => rfl
 obtain ⟨f45, a45, d45, F45⟩ := w45
 have b45 := Fun.binds4 (ps := ["marked", "keys", "low", "high"]) F45 rfl fun _ _ _ _ _ _ _ _ _ _ => rfl
 obtain ⟨f46, a46, d46, F46⟩ := w46
 have b46 := Fun.binds1 (ps := ["_law_found"]) F46 rfl fun _ _ _ _ _ _ _ => rfl
 obtain ⟨f47, a47, d47, F47⟩ := w47
 have b47 := Fun.binds5 (ps := ["_law_marked_here", "_law_keys_here", "_law_low", "_law_high", "_law_due_here"]) F47 rfl fun _ _ _ _ _ _ _ _ _ _ _ => rfl
 obtain ⟨f48, a48, d48, F48⟩ := w48
 have b48 := Fun.binds1 (ps := ["_law_error"]) F48 rfl fun _ _ _ _ _ _ _ => rfl
 obtain ⟨f49, a49, d49, F49⟩ := w49
 have b49 := Fun.binds4 (ps := ["_law_marked_here", "_law_keys_here", "_law_low", "_law_high"]) F49 rfl fun _ _ _ _ _ _ _ _ _ _ => rfl
 have F50 := ba_4 (st := at_1) l50 c50 k50
 have b50 := Fun.binds1 (ps := ["_law_script"]) F50 rfl fun _ _ _ _ _ _ _ => rfl
 refine ⟨fnOf "law" "law" (g_2 at_1) (d_3 at_1) (b_2 at_1) .none br8 bs4 br5 br6 br1 br9, fun s v => .of_eq rfl, fun base _ _ => ?_⟩
 have ad2 : XC l.prog w K mg base "NoKey" "at" d0 := ⟨v5, af8, aw2, al9, ⟨_, _, _, _, aw6, al4, rfl, au_3 an2 al9 bk3, bf0⟩⟩
 have am2 : XC l.prog w K mg base "Twice" "at" g7 := ⟨u9, ag0, bc5, al3, ⟨_, _, _, _, ba6, al8, rfl, au_1 ao8 al3 bh9, bk8⟩⟩
 have j4 : u_9 l.prog w K mg base := b_8 F1 (mg_of X G a1) b1 (bu_6 F1 j2)
 have j1 : v_0 l.prog w K mg base := b_8 F2 (mg_of X G a2) b2 (bu_7 F2)
 have o6 : ac_5 l.prog w K mg base := b_8 F3 (mg_of X G a3) b3 (bo_4 F3 j1 j4)
 have aa8 : ak_3 l.prog w K mg base := b_8 F4 (mg_of X G a4) b4 (bf_0 F4 j1)
 have ac4 : ak_4 l.prog w K mg base := b_8 F5 (mg_of X G a5) b5 (bf_1 F5 j4 o6 aa8 j1 ac2 j2 g8 y8)
 have ad1 : az_5 l.prog w K mg base := b_8 F6 (mg_of X G a6) b6 (bu_8 F6 g8 x5)
 have af0 : as_0 l.prog w K mg base := b_8 F7 (mg_of X G a7) b7 (bo_5 F7 ac4 ad1 j4)
 have y2 : ab_0 l.prog w K mg base := b_8 F8 (mg_of X G a8) b8 (as_5 F8 j2 bj4 z9 ac5)
 have y9 : as_1 l.prog w K mg base := b_8 F9 (mg_of X G a9) b9 (cg_2 F9 y2 c6 aa1 x5 al2 p9 o5 ad0 j3)
 have j8 : q_0 l.prog w K mg base := b_8 F10 (mg_of X G a10) b10 (ai_1 F10 y9 k7 ad2)
 have y0 : ab_1 l.prog w K mg base := b_8 F11 (mg_of X G a11) b11 (as_6 F11 k7 am2)
 have o8 : y_6 l.prog w K mg base := b_8 F12 (mg_of X G a12) b12 (bf_2 F12 j8 y0 j2 ag6 aa7)
 have j9 : t_0 l.prog w K mg base := b_8 F13 (mg_of X G a13) b13 (bf_3 F13)
 have am1 : ca_5 l.prog w K mg base := b_8 F14 (mg_of X G a14) b14 (cr_3 F14 ac5)
 have ad6 : be_8 l.prog w K mg base := b_8 F15 (mg_of X G a15) b15 (cr_4 F15 y9 am1 c6 al2 ad0 ad2)
 have ad5 : be_9 l.prog w K mg base := b_8 F16 (mg_of X G a16) b16 (cr_5 F16 ag1)
 have p8 : y_7 l.prog w K mg base := b_8 F17 (mg_of X G a17) b17 (bf_4 F17 ad6 ad5 am9 g8)
 have q8 : ac_6 l.prog w K mg base := b_8 F18 (mg_of X G a18) b18 (bo_6 F18 j9 o8 p8)
 have x9 : ab_2 l.prog w K mg base := b_8 F19 (mg_of X G a19) b19 (as_7 F19 k7)
 have ab6 : FnMd l.prog w K mg base true "take_away" 1 2 ["number", "edge", "standing"] j_9 := df_9 F20 (mg_of X G a20) b20 (bf_5 F20)
 have ak3 : bo_2 l.prog w K mg base := b_8 F21 (mg_of X G a21) b21 (cg_3 F21 x9 ab6 u6 j2 y8 g8)
 have ah3 : bu_4 l.prog w K mg base := b_8 F22 (mg_of X G a22) b22 (cz_0 F22 q8 ak3 j9 j2)
 have ae7 : as_2 l.prog w K mg base := b_8 F23 (mg_of X G a23) b23 (bo_7 F23 ah3 j2)
 have ab7 : ak_5 l.prog w K mg base := b_8 F24 (mg_of X G a24) b24 (bf_6 F24 o8 ae7 g8 aj2)
 have q9 : ac_7 l.prog w K mg base := b_8 F25 (mg_of X G a25) b25 (bo_8 F25 c6 aa1 p9)
 have p5 : y_8 l.prog w K mg base := b_8 F26 (mg_of X G a26) b26 (bf_7 F26)
 have z7 : as_3 l.prog w K mg base := b_8 F27 (mg_of X G a27) b27 (cg_4 F27 q9 p5 j2 al5)
 have aj7 : bo_3 l.prog w K mg base := b_8 F28 (mg_of X G a28) b28 (cg_5 F28 z7 q9 p5 t7)
 have ai9 : MakD l.prog w K mg base true "Table" 1 5 ae_6 := ⟨j0, _, _, _, n6, bl2, ⟨bn5, a29, i29, bi5⟩, af_5 F29 n6 u7 ac7 ac8 r6 n9, b29⟩
 have ab0 : ak_6 l.prog w K mg base := b_8 F30 (mg_of X G a30) b30 (bf_8 F30 j9 q8 ah3 aj7 ai9 j2)
 have z6 : as_4 l.prog w K mg base := b_8 F31 (mg_of X G a31) b31 (cg_6 F31 g8)
 have ah7 : bu_5 l.prog w K mg base := b_8 F32 (mg_of X G a32) b32 (cz_1 F32 ad5 z6 ad6 ac0)
 have ah9 : MakD l.prog w K mg base true "Marked" 9 4 l_4 := ⟨i6, _, _, _, n8, ax3, ⟨aw8, a33, i33, bd4⟩, ac_8 F33 n8 ab7 ab0 ah7 z6 aa6 y7 h9 j2, b33⟩
 have aa3 : af_4 l.prog w K mg base := b_8 F34 (mg_of X G a34) b34 (au_4 F34 ah9 x0 ak5)
 have ac3 : ak_7 l.prog w K mg base := b_8 F35 (mg_of X G a35) b35 (bf_9 F35 al5)
 have ac1 : ak_8 l.prog w K mg base := b_8 F36 (mg_of X G a36) b36 (bg_0 F36)
 have ab9 : ak_9 l.prog w K mg base := b_8 F37 (mg_of X G a37) b37 (bg_1 F37 c6 x5 o5)
 have aj1 : MethD l.prog w K mg base true 1 0 "table" "Table" g_7 := ⟨⟨j0, _, _, _, n6, p7, ⟨a38, i38, k38⟩, as_8 F38 n9 u6, b38⟩⟩
 have x4 : MethT l.prog w K mg base true 1 0 "table" [("Table", g_7)] := (.one aj1 (by decide) .nil)
 have ai2 : MethD l.prog w K mg base true 2 0 "table" "Marked" d_0 := ⟨⟨i6, _, _, _, n8, u4, ⟨a39, i39, k39⟩, al_6 F39 x4 h9, b39⟩⟩
 have ai7 : MethD l.prog w K mg base true 5 1 "places" "Table" c_0 := ⟨⟨j0, _, _, _, n6, p7, ⟨a40, i40, k40⟩, al_7 F40 p8 ac8 ac7 u7, b40⟩⟩
 have j7 : MethT l.prog w K mg base true 5 1 "places" [("Table", c_0)] := (.one ai7 (by decide) .nil)
 have ag2 : MethD l.prog w K mg base true 6 1 "places" "Marked" b_6 := ⟨⟨i6, _, _, _, n8, u4, ⟨a41, i41, k41⟩, ai_2 F41 j7 h9, b41⟩⟩
 have v9 : MethT l.prog w K mg base true 2 0 "table" [("Marked", d_0)] := (.one ai2 (by decide) .nil)
 have u0 : MethT l.prog w K mg base true 6 1 "places" [("Marked", b_6)] := (.one ag2 (by decide) .nil)
 have ad3 : az_6 l.prog w K mg base := b_8 F42 (mg_of X G a42) b42 (bu_9 F42 ac3 ac1 ab9 v9 u0 g8)
 have aj0 : MethD l.prog w K mg base true 6 1 "total" "Table" f_1 := ⟨⟨j0, _, _, _, n6, p7, ⟨a43, i43, k43⟩, as_9 F43 z7 j7 r6 n9, b43⟩⟩
 have x6 : MethT l.prog w K mg base true 6 1 "total" [("Table", f_1)] := (.one aj0 (by decide) .nil)
 have ai6 : MethD l.prog w K mg base true 7 1 "knows" "Marked" d_1 := ⟨⟨i6, _, _, _, n8, u4, ⟨a44, i44, k44⟩, al_8 F44 ah7 x6 h9 y7, b44⟩⟩
 have v7 : MethT l.prog w K mg base true 7 1 "knows" [("Marked", d_1)] := (.one ai6 (by decide) .nil)
 have k8 : w_0 l.prog w K mg base := b_8 F45 (mg_of X G a45) b45 (bo_9 F45 j8 v7 ac2 y8 g8 ae6 r9 j3)
 have ab4 : al_0 l.prog w K mg base := b_8 F46 (mg_of X G a46) b46 (bg_2 F46 c6 x5 aa1 o5 p9)
 have o9 : al_1 l.prog w K mg base := b_8 F47 (mg_of X G a47) b47 (bg_3 F47 k8 ab4 u6 c6 y6)
 have aa9 : al_2 l.prog w K mg base := b_8 F48 (mg_of X G a48) b48 (bg_4 F48 c6 z8 y4 ah0 af1 ak1 af8 ac9 ah4 x0 ae9 aj9 ag0 y1 x3 g9 h8)
 have y3 : ab_3 l.prog w K mg base := b_8 F49 (mg_of X G a49) b49 (at_0 F49 k8 aa9 aa0 af2)
 exact df_0 (dg_9 (P := l.prog) (w := w) (base := base) F50 af0 j4 j1 o6 aa3 ad3 o9 y3 k8 c6 x5 ac2 y8 g8 t7 u6 o5 y6) cr_2
end My


open PySem PySem.W PyProof.Rows
set_option maxRecDepth 100000 in
set_option maxHeartbeats 0 in
theorem PySem.Challenge.cw_lodge_k54_mistaken_holds : PySem.Challenge.rw_lodge_k54_mistaken.Holds := by
 w_on; o_law; k_head; (case hw => w_witness2)
 k_fill
 refine L3.dk_7 (l := PySem.Challenge.rw_lodge_k54_mistaken) (x := "_law_script") (k := 12) rfl rfl ⟨rfl, by decide, by decide⟩ (fun w h Y => PySem.W.kIn_of Y) ?F
 case F =>
  intro w mg fa h KX G hmg
  refine' My.dh_0 KX G hmg ?c1 ?c2 ?c3 ?c4 ?c5 ?c6 ?c7 ?c8 ?c9 ?c10 ?c11 ?c12 ?c13 ?c14 ?c15 ?c16 ?c17 ?c18 ?c19 ?c20 ?c21 ?c22 ?c23 ?c24 ?c25 ?c26 ?c27 ?c28 ?c29 ?c30 ?c31 ?c32 ?c33 ?c34 ?c35 ?c36 ?c37 ?c38 ?c39 ?c40 ?c41 ?c42 ?c43 ?c44 ?c45 ?c46 ?c47 ?c48 ?c49 ?c50 ?c51 ?c52 ?c53 ?c54 ?c55 ?c56 ?c57 ?c58 ?c59 ?c60 ?c61 ?c62 ?c63 ?c64 ?c65 ?c66 ?c67 ?c68 ?c69 ?c70 ?c71 ?c72 ?c73 ?c74 ?c75 ?c76 ?c77 ?c78 ?c79 ?c80 ?c81 ?c82 ?c83 ?c84 ?c85 ?c86 ?c87 ?c88 ?c89 ?c90 ?c91 ?c92 ?c93 ?c94 ?c95 ?c96 ?c97 ?c98 ?c99 ?c100 ?c101 ?c102 ?c103 ?c104 ?c105 ?c106 ?c107 ?c108 ?c109 ?c110 ?c111 ?c112 ?c113 ?c114 ?c115 ?c116 ?c117 ?c118 ?c119 ?c120 ?c121 ?c122 ?c123 ?c124 ?c125 ?c126 ?c127 ?c128 ?c129 ?c130 ?c131 ?c132 ?c133 ?c134 ?c135 ?c136 ?c137 ?c138 ?c139 ?c140 ?c141 ?c142 ?c143 ?c144 ?c145 ?c146 ?c147 ?c148 ?c149 ?c150 ?c151 ?c152 ?c153 ?c154 ?c155 ?c156 ?c157 ?c158 ?c159 ?c160 ?c161 ?c162 ?c163 ?c164 ?c165 ?c166 ?c167 ?c168 ?c169 ?c170 ?c171 ?c172 ?c173 ?c174 ?c175 ?c176 ?c177 ?c178 ?c179 ?c180 ?c181 ?c182 ?c183 ?c184 ?c185 ?c186 ?c187 ?c188 ?c189 ?c190 ?c191 ?c192 ?c193 ?c194 ?c195 ?c196 ?c197 ?c198 ?c199 ?c200 ?c201 ?c202 ?c203 ?c204 ?c205 ?c206 ?c207 ?c208 ?c209 ?c210 ?c211 ?c212 ?c213 ?c214 ?c215 ?c216 ?c217 ?c218 ?c219 ?c220 ?c221 ?c222 ?c223 ?c224 ?c225 ?c226 ?c227 ?c228 ?c229 ?c230 ?c231 ?c232 ?c233 ?c234 ?c235 ?c236 ?c237 ?c238 ?c239 ?c240 ?c241 ?c242 ?c243 ?c244 ?c245 ?c246 ?c247 ?c248 ?c249 ?c250 ?c251 ?c252
  (case c1 | c2 | c3 | c4 | c5 | c6 | c7 | c8 | c9 | c10 | c11 | c12 | c13 | c14 | c15 | c16 | c17 | c18 | c19 | c20 | c21 | c22 | c72 | c73 | c74 | c75 | c76 | c77 | c78 | c79 | c80 | c81 | c82 | c83 | c84 | c85 | c86 | c87 | c88 | c89 | c90 | c115 | c116 | c117 | c118 | c119 | c120 | c121 | c122 | c123 | c124 | c125 | c126 | c127 | c128 | c129 | c130 | c131 | c132 | c133 | c134 | c135 | c136 | c139 | c140 | c143 | c144 | c145 | c146 | c147 | c148 | c149 | c150 | c151 | c152 | c153 | c154 | c161 | c162 | c163 | c166 | c167 | c170 | c171 | c172 | c173 | c174 | c175 | c176 | c177 | c178 | c179 | c180 | c181 | c188 | c189 | c192 | c193 | c196 | c197 | c198 | c199 | c200 | c201 | c202 | c209 | c210 | c213 | c214 | c217 | c218 | c219 | c220 | c221 | c222 | c223 | c230 | c231 | c234 | c235 | c238 | c239 | c240 | c241 | c242 | c243 | c244 | c251 | c252 => k_is)
  (case c23 | c24 | c25 | c26 | c27 | c28 | c29 | c30 | c31 | c32 | c33 | c34 | c35 | c36 | c37 | c38 | c39 | c40 | c41 | c42 | c43 | c44 | c45 | c46 | c47 | c48 | c49 | c50 | c52 | c53 | c54 | c56 | c57 | c58 | c59 | c64 | c67 | c68 | c69 | c70 | c71 => (refine' L3.FnTop.mk ?a ?l ?c ?k; (case a => k_is); (case l => k_is); (case c => k_is); (case k => k_is)))
  (case c51 | c55 | c60 | c61 | c62 | c63 | c65 | c66 => (refine' L3.FnMet.mk ?a ?l ?c ?k ?i; (case a => k_is); (case l => k_is); (case c => k_is); (case k => k_is); (case i => k_is)))
  (case c91 | c92 | c93 | c94 | c95 | c96 | c97 | c98 | c99 | c100 | c101 | c102 | c103 | c104 | c105 | c106 | c107 | c108 | c109 | c110 | c111 | c112 | c113 | c114 | c157 | c158 | c159 | c160 | c184 | c185 | c186 | c187 | c205 | c206 | c207 | c208 | c226 | c227 | c228 | c229 | c247 | c248 | c249 | c250 => kit_is)
  (case c137 | c138 | c141 | c142 | c164 | c165 | c168 | c169 | c190 | c191 | c194 | c195 | c211 | c212 | c215 | c216 | c232 | c233 | c236 | c237 => rfl)
  (case c155 | c156 | c182 | c183 | c203 | c204 | c224 | c225 | c245 | c246 => kts_exm)

end
