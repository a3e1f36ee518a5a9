import PyProof.Rows.All
import Wide.All
import OpenK.AllK
import Wide.FinOn
import Lean
import PyProof.EqAt
import PyProof.EqKinds
import PyProof.TupleCall
import KE.KTryMore
import PyProof.InstStoreFacts
import PyProof.ExcInit
import PyProof.ExcClass3
import PyProof.ExcBaseAll.ValueError
import PyProof.FString
import PyProof.RulesAs
import PyProof.RulesDel
import PyProof.StrBlockI
import PyProof.ExcAttrAll.ValueError
import PySem.Challenge.RW_wright_k05_patterns_refused
set_option Elab.async false
set_option linter.all false
set_option maxRecDepth 100000

set_option Elab.async false
set_option linter.all false
set_option maxRecDepth 100000
/-! THE HAND LAYER, for ints, bools, texts, own classes, LISTS and tuples (index, slices, in, append, pop ..), calls, loops. Paste it whole ahead of your own text; what your proof does not reach may be deleted. -/
namespace L2
open PySem PySem.Spec PyProof.Rows

/-- a key: an int or a str -/
abbrev Key := Sum Int Str
def keyIs : Key → Value → Bool
  | .inl k, v => Value.isInt k v
  | .inr x, v => Value.isStrOf x v
def keyH (w : World) : Key → Int
  | .inl k => hashInt k
  | .inr x => hashStr w x
theorem keyIs_shape : ∀ {k : Key} {v : Value}, keyIs k v = true → (∃ i t, k = Sum.inl i ∧ v = Value.int i t) ∨ (∃ x t, k = Sum.inr x ∧ v = Value.str x t)
  | .inl i, v, h => by
    obtain ⟨t, e⟩ := Value.isInt_shape (k := i) (v := v) h
    exact .inl ⟨i, t, rfl, e⟩
  | .inr x, v, h => by
    obtain ⟨t, e⟩ := Value.isStrOf_shape (x := x) (v := v) h
    exact .inr ⟨x, t, rfl, e⟩
theorem keyIs_int (i : Int) (t : Tok) : keyIs (.inl i) (.int i t) = true := by simp [keyIs, Value.isInt]
theorem keyIs_str (x : Str) (t : Tok) : keyIs (.inr x) (.str x t) = true := by simp [keyIs, Value.isStrOf]
theorem key_ll (a b : Int) : decide ((Sum.inl a : Key) = Sum.inl b) = (a == b) := by
  by_cases e : a = b
  · subst e; simp
  · have h : ¬ (Sum.inl a : Key) = Sum.inl b := fun q => e (Sum.inl.inj q)
    rw [decide_eq_false h]
    exact (beq_eq_false_iff_ne.mpr e).symm
theorem key_rr (a b : Str) : decide ((Sum.inr a : Key) = Sum.inr b) = decide (a = b) := by
  by_cases e : a = b
  · subst e; simp
  · have h : ¬ (Sum.inr a : Key) = Sum.inr b := fun q => e (Sum.inr.inj q)
    rw [decide_eq_false h, decide_eq_false e]
theorem key_lr (a : Int) (b : Str) : decide ((Sum.inl a : Key) = Sum.inr b) = false := decide_eq_false (fun q => nomatch q)
theorem key_rl (a : Str) (b : Int) : decide ((Sum.inr a : Key) = Sum.inl b) = false := decide_eq_false (fun q => nomatch q)

def mixKind (prog : Program) (w : World) : PySem.KeyKind prog w Key where
  is := keyIs
  hash := keyH w
  inj := fun v a b ha hb => by
    rcases keyIs_shape ha with ⟨i, t, rfl, rfl⟩ | ⟨x, t, rfl, rfl⟩
    · rcases keyIs_shape hb with ⟨j, u, rfl, e⟩ | ⟨y, u, rfl, e⟩
      · injection e with e1 _; rw [e1]
      · exact nomatch e
    · rcases keyIs_shape hb with ⟨j, u, rfl, e⟩ | ⟨y, u, rfl, e⟩
      · exact nomatch e
      · injection e with e1 _; rw [e1]
  byValue := fun k v h => by
    rcases keyIs_shape h with ⟨i, t, rfl, rfl⟩ | ⟨x, t, rfl, rfl⟩ <;> rfl
  pyHash := fun hv h => by
    rcases keyIs_shape hv with ⟨i, t, rfl, rfl⟩ | ⟨x, t, rfl, rfl⟩
    · exact wpAny_pyHash_int h
    · exact wpAny_pyHash_str h
  eqBool := fun hu hv h => by
    rcases keyIs_shape hu with ⟨i, t, rfl, rfl⟩ | ⟨x, t, rfl, rfl⟩
    · rcases keyIs_shape hv with ⟨j, u, rfl, rfl⟩ | ⟨y, u, rfl, rfl⟩
      · rw [key_ll] at h; exact wpAny_eqBool_int h
      · rw [key_lr] at h; exact SeqAt.EqAt.int_str i t y u _ _ _ _ h
    · rcases keyIs_shape hv with ⟨j, u, rfl, rfl⟩ | ⟨y, u, rfl, rfl⟩
      · rw [key_rl] at h; exact SeqAt.EqAt.str_int x t j u _ _ _ _ h
      · rw [key_rr] at h; exact wpAny_eqBool_str h
  «strs» := fun k x t v h => by
    rcases keyIs_shape h with ⟨i, u, rfl, e⟩ | ⟨y, u, rfl, e⟩
    · exact nomatch e
    · injection e with e1 _
      subst e1
      cases v <;> rfl

theorem mixKind_is (prog : Program) (w : World) (k : Key) (v : Value) : (mixKind prog w).is k v = keyIs k v := rfl
theorem mixKind_int (prog : Program) (w : World) (i : Int) (t : Tok) : (mixKind prog w).is (.inl i) (.int i t) = true := keyIs_int i t
theorem mixKind_str (prog : Program) (w : World) (x : Str) (t : Tok) : (mixKind prog w).is (.inr x) (.str x t) = true := keyIs_str x t
end L2

namespace L2
open PySem PySem.Spec PyProof.Rows

/-- a value, without the heap -/
inductive V where
  | non | bl (b : Bool) | int (i : Int) | str (x : Str) | byt (b : Array UInt8) | flt (b : UInt64) | ref (a : Addr) | ty (n : String)
  deriving DecidableEq

def RelV : V → Value → Prop
  | .non, u => u = Value.none
  | .bl b, u => u = Value.bool b
  | .int i, u => ∃ t, u = Value.int i t
  | .str x, u => ∃ t, u = Value.str x t
  | .byt b, u => ∃ t, u = Value.bytes b t
  | .flt b, u => ∃ t, u = Value.float b t
  | .ref a, u => u = Value.ref a
  | .ty n, u => u = Value.type n

abbrev Vals : List V → List Value → Prop := Paired RelV
theorem Vals.length {xs : List V} {us : List Value} (r : Vals xs us) : xs.length = us.length := Paired.length r
theorem Vals.get : ∀ {xs : List V} {us : List Value} {i : Nat} {x : V}, Vals xs us → xs[i]? = some x → ∃ u, us[i]? = some u ∧ RelV x u
  | _, _, _, _, .nil, e => by simp at e
  | _, _, 0, _, .cons r _, e => by simp at e; subst e; exact ⟨_, rfl, r⟩
  | _, _, i + 1, x, .cons _ t, e => by
    obtain ⟨u, h1, h2⟩ := Vals.get (i := i) (x := x) t (by simpa using e)
    exact ⟨u, by simpa using h1, h2⟩
theorem Vals.set {x : V} {u : Value} (r : RelV x u) : ∀ {xs : List V} {us : List Value} (i : Nat), Vals xs us → Vals (xs.set i x) (us.set i u)
  | _, _, _, .nil => .nil
  | _, _, 0, .cons _ t => .cons r t
  | _, _, i + 1, .cons q t => .cons q (Vals.set r i t)
theorem Vals.append : ∀ {xs ys : List V} {us ws : List Value}, Vals xs us → Vals ys ws → Vals (xs ++ ys) (us ++ ws)
  | _, _, _, _, .nil, s => s
  | _, _, _, _, .cons r t, s => .cons r (Vals.append t s)
theorem Vals.take : ∀ {xs : List V} {us : List Value} (n : Nat), Vals xs us → Vals (xs.take n) (us.take n)
  | _, _, 0, _ => .nil
  | _, _, _ + 1, .nil => .nil
  | _, _, n + 1, .cons r t => .cons r (Vals.take n t)
theorem Vals.drop : ∀ {xs : List V} {us : List Value} (n : Nat), Vals xs us → Vals (xs.drop n) (us.drop n)
  | _, _, 0, r => r
  | _, _, _ + 1, .nil => .nil
  | _, _, n + 1, .cons _ t => Vals.drop n t
theorem Vals.none_of : ∀ {xs : List V} {us : List Value} {i : Nat}, Vals xs us → xs[i]? = none → us[i]? = none := fun {xs us i} r e => by
  have h1 := r.length
  have h2 : xs.length ≤ i := List.getElem?_eq_none_iff.mp e
  exact List.getElem?_eq_none_iff.mpr (by omega)

def RelO : Option V → Option Value → Prop
  | some v, some u => RelV v u
  | none, none => True
  | _, _ => False
def KV {κ : Type} : List (κ × V) → List (κ × Value) → Prop := Paired fun (p : κ × V) (q : κ × Value) => p.1 = q.1 ∧ RelV p.2 q.2

/-- a key of a dict (00_mix): an int or a text -/
def kV : Key → V
  | .inl i => .int i
  | .inr x => .str x

/-- what stands at a tracked address -/
inductive HO where
  /-- a list -/
  | lst (xs : List V)
  /-- a tuple (never changes) -/
  | tup (xs : List V)
  /-- a dict whose keys are ints and texts; one whose keys are tuples of ints and texts (the empty one is both) -/
  | dK (kvs : List (Key × V)) | dT (kvs : List (List Key × V))
  /-- a set of ints: its members, its size -/
  | set (S : Int → Bool) (n : Nat)
  /-- an instance of the class at C, its dict at dx, its attributes -/
  | ins (C dx : Addr) (fs : List (Str × V))
  /-- the dict of the instance at x -/
  | own (x : Addr)
  /-- the dict of an exception -/
  | xd (fs : List (Str × V))
  /-- a bound method, f of x -/
  | met (f x : Addr)
  /-- a range object lo, lo + 1, .. below hi -/
  | rng (lo hi : Int)
  /-- a thing that is known to the object (the script; a dict while a loop walks it): read, never written while it is so -/
  | frz (o : Obj) (u : HO)
  /-- a code object's table -/
  | tbl (ps : Array Value)
  /-- any other thing, by what is true of its one object (a def of one's own: SetO a S n := HO.ext fun h => ..) -/
  | ext (φ : Heap → Prop)

abbrev Hp := Addr → Option HO
def upd (H : Hp) (a : Addr) (o : HO) : Hp := fun b => if b = a then some o else H b
theorem upd_same {H : Hp} {a : Addr} {o : HO} : upd H a o a = some o := by unfold upd; rw [if_pos rfl]
theorem upd_ne {H : Hp} {a b : Addr} {o : HO} (h : b ≠ a) : upd H a o b = H b := by unfold upd; rw [if_neg h]
theorem upd_upd {H : Hp} {a : Addr} {o u : HO} : upd (upd H a o) a u = upd H a u := by
  funext b; unfold upd; split <;> rfl
/-- two objects of different content stand apart -/
theorem ne_of {H : Hp} {a b : Addr} {o u : HO} (h : H a = some o) (h' : H b = some u) (d : o ≠ u) : a ≠ b := by
  intro e; subst e; rw [h] at h'; exact d (Option.some.inj h')
theorem ne_of_none {H : Hp} {a b : Addr} {o : HO} (h : H a = some o) (h' : H b = none) : a ≠ b := by
  intro e; subst e; rw [h] at h'; cases h'

section
variable (P : Program) (w : World)
def ObjOk (H : Hp) (h : Heap) (a : Addr) : HO → Prop
  | .lst xs => xs.length ≤ sizeLine ∧ ∃ (its : List Value) (n : Nat), Vals xs its ∧ h.get? a = some { cls := .type "list", data := .seq its.toArray n }
  | .tup xs => xs.length ≤ sizeLine ∧ ∃ its : List Value, Vals xs its ∧ IsTup h a its.toArray
  | .dK kvs => kvs.length ≤ sizeLine ∧ (a == sysModules) = false ∧ ∃ vs, KV kvs vs ∧ h.DictOf (mixKind P w) a vs
  | .dT kvs => kvs.length ≤ sizeLine ∧ (a == sysModules) = false ∧ ∃ xs : List (List Key × Addr × Value),
      Paired (fun (p : List Key × V) (q : List Key × Addr × Value) => p.1 = q.1 ∧ H q.2.1 = some (.tup (p.1.map kV)) ∧ RelV p.2 q.2.2) kvs xs ∧
      ∃ o es ep, h.get? a = some o ∧ o.ExactDict ∧ o.data = .dict es ep ∧ es.toList = xs.map (entryOfKey (tupleKind (mixKind P w))) ∧ (xs.map (·.1)).Nodup
  | .set S n => h.SetOf (intKind P w) a S n
  | .ins C dx fs => H dx = some (.own a) ∧ fs.length ≤ 1000 ∧ dx ≠ a ∧ h.get? a = some (PySem.W.instObj C dx) ∧
      ∃ mA, h.Ns1 dx mA ∧ (∀ f, RelO (fs.lookup f) (mA f)) ∧ PySem.Within mA (fs.map (·.1))
  | .own _ => ∃ o, h.get? a = some o
  | .xd fs => ∃ mA, h.Ns1 a mA ∧ ∀ f, RelO (fs.lookup f) (mA f)
  | .rng lo hi => ∃ t u v, h.get? a = some { cls := .type "range", data := .fields #[.int lo t, .int hi u, .int 1 v] }
  | .frz o u => h.get? a = some o ∧ ObjOk H h a u
  | .tbl ps => h.get? a = some { cls := .none, data := .fields ps }
  | .met f x => h.get? a = some (PySem.W.methodObj (.ref f) (.ref x))
  | .ext φ => φ h ∧ (∃ o, h.get? a = some o) ∧ ∀ h1 h2 : Heap, φ h1 → (∀ o, h1.get? a = some o → h2.get? a = some o) → φ h2
/-- the abstract heap is held -/
def HOk (H : Hp) (h : Heap) : Prop := ∀ a o, H a = some o → ObjOk P w H h a o
end

section
variable {P : Program} {w : World} {H H' : Hp} {h h' : Heap} {a : Addr} {o : HO}
theorem ObjOk.lt (x : ObjOk P w H h a o) : a < h.objs.size := by
  cases o with
  | lst xs => obtain ⟨_, _, _, _, e⟩ := x; exact Heap.lt_size e
  | tup xs => obtain ⟨_, _, _, p⟩ := x; exact p.lt
  | dK kvs => obtain ⟨_, _, _, _, o, _, _, e, _⟩ := x; exact Heap.lt_size e
  | dT kvs => obtain ⟨_, _, _, _, o, _, _, e, _⟩ := x; exact Heap.lt_size e
  | set S n => obtain ⟨o, _, _, _, e, _⟩ := x; exact Heap.lt_size e
  | ins C dx fs => obtain ⟨_, _, _, e, _⟩ := x; exact Heap.lt_size e
  | own y => obtain ⟨_, e⟩ := x; exact Heap.lt_size e
  | xd fs => obtain ⟨_, ⟨_, _, _, e, _⟩, _⟩ := x; exact Heap.lt_size e
  | rng lo hi => obtain ⟨_, _, _, e⟩ := x; exact Heap.lt_size e
  | frz ob u => obtain ⟨e, _⟩ := x; exact Heap.lt_size e
  | tbl ps => exact Heap.lt_size (show h.get? a = some _ from x)
  | met f y => exact Heap.lt_size (show h.get? a = some _ from x)
  | ext φ => obtain ⟨_, ⟨_, e⟩, _⟩ := x; exact Heap.lt_size e
theorem Paired.mapP {α β : Type} {F G : α → β → Prop} : ∀ {l₁ : List α} {l₂ : List β}, Paired F l₁ l₂ → (∀ a b, F a b → G a b) → Paired G l₁ l₂
  | _, _, .nil, _ => .nil
  | _, _, .cons r t, f => .cons (f _ _ r) (Paired.mapP t f)
theorem Paired.imp' {α β : Type} {F G : α → β → Prop} (f : ∀ a b, F a b → G a b) {l₁ : List α} {l₂ : List β} (r : Paired F l₁ l₂) : Paired G l₁ l₂ := Paired.mapP r f
/-- what an object's description leans on: its own object, its own dict, the tuples -/
theorem ObjOk.stay (x : ObjOk P w H h a o) (k : ∀ b u, (b = a ∨ H b = some (.own a)) → h.get? b = some u → h'.get? b = some u)
    (ho : ∀ b, H b = some (.own a) → H' b = some (.own a)) (ht : ∀ b xs, H b = some (.tup xs) → H' b = some (.tup xs)) : ObjOk P w H' h' a o := by
  induction o with
  | lst xs => obtain ⟨z, its, n, r, e⟩ := x; exact ⟨z, its, n, r, k _ _ (.inl rfl) e⟩
  | tup xs => obtain ⟨z, its, r, ob, e, c⟩ := x; exact ⟨z, its, r, ob, k _ _ (.inl rfl) e, c⟩
  | dK kvs => obtain ⟨z, y, vs, r, ob, es, ep, e, c⟩ := x; exact ⟨z, y, vs, r, ob, es, ep, k _ _ (.inl rfl) e, c⟩
  | dT kvs =>
    obtain ⟨z, y, xs, r, ob, es, ep, e, c⟩ := x
    exact ⟨z, y, xs, Paired.mapP r fun p q z => ⟨z.1, ht _ _ z.2.1, z.2.2⟩, ob, es, ep, k _ _ (.inl rfl) e, c⟩
  | set S n => obtain ⟨ob, es, ep, t, e, c⟩ := x; exact ⟨ob, es, ep, t, k _ _ (.inl rfl) e, c⟩
  | ins C dx fs =>
    obtain ⟨d, z, ne, e, mA, ⟨od, es, ep, e2, c⟩, r⟩ := x
    exact ⟨ho _ d, z, ne, k _ _ (.inl rfl) e, mA, ⟨od, es, ep, k _ _ (.inr d) e2, c⟩, r⟩
  | own y => obtain ⟨ob, e⟩ := x; exact ⟨ob, k _ _ (.inl rfl) e⟩
  | xd fs => obtain ⟨mA, ⟨od, es, ep, e, c⟩, r⟩ := x; exact ⟨mA, ⟨od, es, ep, k _ _ (.inl rfl) e, c⟩, r⟩
  | rng lo hi => obtain ⟨t, u, v, e⟩ := x; exact ⟨t, u, v, k _ _ (.inl rfl) e⟩
  | frz ob u ih => obtain ⟨e, q⟩ := x; exact ⟨k _ _ (.inl rfl) e, ih q⟩
  | tbl ps =>
    have e : h.get? a = some { cls := .none, data := .fields ps } := x
    show h'.get? a = some { cls := .none, data := .fields ps }
    exact k a _ (.inl rfl) e
  | met f y =>
    have e : h.get? a = some (PySem.W.methodObj (.ref f) (.ref y)) := x
    show h'.get? a = some (PySem.W.methodObj (.ref f) (.ref y))
    exact k a _ (.inl rfl) e
  | ext φ => obtain ⟨p, ⟨o, e⟩, st⟩ := x; exact ⟨st _ _ p fun o q => k _ _ (.inl rfl) q, ⟨o, k _ _ (.inl rfl) e⟩, st⟩
theorem HOk.lt (x : HOk P w H h) (e : H a = some o) : a < h.objs.size := (x a o e).lt
theorem HOk.fresh (x : HOk P w H h) (e : h.objs.size ≤ a) : H a = none := by
  cases q : H a with
  | none => rfl
  | some u => exact absurd (Nat.lt_of_lt_of_le (x.lt q) e) (Nat.lt_irrefl _)
/-- every object of the heap is kept -/
theorem HOk.kept (x : HOk P w H h) (k : ∀ b u, h.get? b = some u → h'.get? b = some u) : HOk P w H h' := fun a o e =>
  (x a o e).stay (fun b u _ q => k b u q) (fun _ q => q) fun _ _ q => q
/-- a new object is laid and tracked -/
theorem HOk.laid (x : HOk P w H h) (k : ∀ b u, h.get? b = some u → h'.get? b = some u) (hp : h.objs.size ≤ a) (new : ObjOk P w (upd H a o) h' a o) : HOk P w (upd H a o) h' := fun b u e => by
  have hn := x.fresh hp
  by_cases hb : b = a
  · subst hb; rw [upd_same] at e; cases e; exact new
  · rw [upd_ne hb] at e
    exact (x b u e).stay (fun c v _ q => k c v q) (fun c q => by rw [upd_ne (ne_of_none q hn)]; exact q) fun c xs q => by rw [upd_ne (ne_of_none q hn)]; exact q
end

/-- what may be read as u: it is u, or a known u -/
def Rd (H : Hp) (a : Addr) (u : HO) : Prop := H a = some u ∨ ∃ o, H a = some (.frz o u)
theorem Rd.of {H : Hp} {a : Addr} {u : HO} (h : H a = some u) : Rd H a u := .inl h
theorem Rd.ok {P : Program} {w : World} {H : Hp} {h : Heap} {a : Addr} {u : HO} (r : Rd H a u) (x : HOk P w H h) : ObjOk P w H h a u := by
  rcases r with r | ⟨o, r⟩
  · exact x a u r
  · obtain ⟨_, q⟩ := x a _ r
    exact q
/-- what may be written -/
def Mut : Option HO → Prop
  | some (.lst _) => True
  | some (.dK _) => True
  | some (.dT _) => True
  | some (.set _ _) => True
  | some (.ins _ _ _) => True
  | some (.ext _) => True
  | _ => False
section
variable {P : Program} {w : World} {H : Hp} {h h' : Heap} {x e : Addr} {o' : HO}
/-- the object at e is changed: x itself, or the dict of the instance x -/
theorem HOk.write (ok : HOk P w H h) (mu : Mut (H x)) (he : e = x ∨ H e = some (.own x)) (k : ∀ b u, b ≠ e → h.get? b = some u → h'.get? b = some u) (heo : ∃ u, h'.get? e = some u)
    (new : ObjOk P w (upd H x o') h' x o') : HOk P w (upd H x o') h' := fun b u q => by
  have nown : ∀ c y, H c = some (.own y) → c ≠ x := fun c y r z => by subst z; rw [r] at mu; exact mu
  have ntup : ∀ c xs, H c = some (.tup xs) → c ≠ x := fun c xs r z => by subst z; rw [r] at mu; exact mu
  by_cases hb : b = x
  · subst hb; rw [upd_same] at q; cases q; exact new
  · rw [upd_ne hb] at q
    by_cases hbe : b = e
    · have q' : H b = some (.own x) := by
        rcases he with z | z
        · exact absurd (hbe.trans z) hb
        · rw [hbe]; exact z
      rw [q] at q'; cases q'
      obtain ⟨v, hv⟩ := heo
      exact ⟨v, by rw [hbe]; exact hv⟩
    · refine (ok b u q).stay (fun c v hc r => k c v ?_ r) (fun c r => by rw [upd_ne (nown c b r)]; exact r) fun c xs r => by rw [upd_ne (ntup c xs r)]; exact r
      rcases hc with rfl | hc
      · exact hbe
      · rintro rfl
        rcases he with z | z
        · exact nown c b hc z
        · rw [hc] at z; cases z; exact hb rfl
end

/-! ### kept unless tracked; of the frames at fs (the callers') the slots may change (an exception that passes writes there); of the records at ex (iterators) nothing is said -/
structure Un (fs ex : List Addr) (H H' : Hp) (h h' : Heap) : Prop where
  keep : ∀ b o, h.get? b = some o → H b = none → b ∉ fs → b ∉ ex → h'.get? b = some o
  slot : ∀ b o, h.get? b = some o → H b = none → b ∈ fs → b ∉ ex → ∃ sl, h'.get? b = some { o with slots := sl }
  free : ∀ b o, h.get? b = some o → H b = none → b ∉ ex → H' b = none
  there : ∀ b o, h.get? b = some o → b ∉ ex → ∃ o', h'.get? b = some o'
  tups : ∀ b xs, H b = some (.tup xs) → H' b = some (.tup xs)
  frzs : ∀ b o u, H b = some (.frz o u) → H' b = some (.frz o u)
  tbls : ∀ b ps, H b = some (.tbl ps) → ∃ more, H' b = some (.tbl (ps ++ more))
section
variable {fs fs' ex ex' : List Addr} {H H1 H2 : Hp} {h h1 h2 h' : Heap} {a x e : Addr} {o : HO}
theorem Un.any (u : Un fs ex H H1 h h1) {b : Addr} {ob : Obj} (q : h.get? b = some ob) (n : H b = none) (hx : b ∉ ex) : ∃ sl, h1.get? b = some { ob with slots := sl } := by
  by_cases hb : b ∈ fs
  · exact u.slot b ob q n hb hx
  · exact ⟨ob.slots, u.keep b ob q n hb hx⟩
theorem Un.trans (a : Un fs ex H H1 h h1) (b : Un fs ex H1 H2 h1 h2) : Un fs ex H H2 h h2 where
  keep := fun c ob q n hc hx => b.keep c ob (a.keep c ob q n hc hx) (a.free c ob q n hx) hc hx
  slot := fun c ob q n hc hx => by
    obtain ⟨sl, e1⟩ := a.slot c ob q n hc hx
    obtain ⟨sl', e2⟩ := b.slot c _ e1 (a.free c ob q n hx) hc hx
    exact ⟨sl', e2⟩
  free := fun c ob q n hx => by
    obtain ⟨o', e1⟩ := a.there c ob q hx
    exact b.free c o' e1 (a.free c ob q n hx) hx
  there := fun c ob q hx => by
    obtain ⟨o', e1⟩ := a.there c ob q hx
    exact b.there c o' e1 hx
  tups := fun c xs q => b.tups c xs (a.tups c xs q)
  frzs := fun c ob xs q => b.frzs c ob xs (a.frzs c ob xs q)
  tbls := fun c ps q => by
    obtain ⟨m1, e1⟩ := a.tbls c ps q
    obtain ⟨m2, e2⟩ := b.tbls c _ e1
    exact ⟨m1 ++ m2, by rw [e2, Array.append_assoc]⟩
theorem Un.kept (k : ∀ b u, h.get? b = some u → h'.get? b = some u) : Un fs ex H H h h' :=
  ⟨fun b ob q _ _ _ => k b ob q, fun b ob q _ _ _ => ⟨ob.slots, k b ob q⟩, fun _ _ _ n _ => n, fun b ob q _ => ⟨ob, k b ob q⟩, fun _ _ q => q, fun _ _ _ q => q, fun _ ps q => ⟨#[], by rw [q]; simp⟩⟩
theorem Un.refl : Un fs ex H H h h := Un.kept fun _ _ q => q
theorem Un.laid (k : ∀ b u, h.get? b = some u → h'.get? b = some u) (hp : h.objs.size ≤ a) (hn : H a = none) : Un fs ex H (upd H a o) h h' where
  keep := fun b u q _ _ _ => k b u q
  slot := fun b u q _ _ _ => ⟨u.slots, k b u q⟩
  free := fun b u q n _ => by rw [upd_ne (Nat.ne_of_lt (Nat.lt_of_lt_of_le (Heap.lt_size q) hp))]; exact n
  there := fun b u q _ => ⟨u, k b u q⟩
  tups := fun b xs q => by rw [upd_ne (ne_of_none q hn)]; exact q
  frzs := fun b u xs q => by rw [upd_ne (ne_of_none q hn)]; exact q
  tbls := fun b ps q => ⟨#[], by rw [upd_ne (ne_of_none q hn), q]; simp⟩
theorem Un.write (mu : Mut (H x)) (he : e = x ∨ H e = some (.own x)) (k : ∀ b u, b ≠ e → h.get? b = some u → h'.get? b = some u) (heo : ∃ u, h'.get? e = some u) : Un fs ex H (upd H x o) h h' := by
  have hx : ∀ b, H b = none → b ≠ x := fun b n z => by subst z; rw [n] at mu; exact mu
  have hb : ∀ b, H b = none → b ≠ e := fun b n z => by
    subst z
    rcases he with r | r
    · exact hx b n r
    · rw [n] at r; cases r
  have hm : ∀ b u, H b = some u → ¬ Mut (some u) → b ≠ x := fun b u q nm z => by subst z; rw [q] at mu; exact nm mu
  refine ⟨fun b u q n _ _ => k b u (hb b n) q, fun b u q n _ _ => ⟨u.slots, k b u (hb b n) q⟩, fun b u q n _ => by rw [upd_ne (hx b n)]; exact n, fun b u q _ => ?_,
    fun b xs q => by rw [upd_ne (hm b _ q fun z => z)]; exact q, fun b u xs q => by rw [upd_ne (hm b _ q fun z => z)]; exact q, fun b ps q => ⟨#[], by rw [upd_ne (hm b _ q fun z => z), q]; simp⟩⟩
  by_cases hbe : b = e
  · subst hbe; exact heo
  · exact ⟨u, k b u hbe q⟩
theorem Un.mono (u : Un fs ex H H1 h h1) (hs : ∀ b ∈ fs, b ∈ fs') (hx : ∀ b ∈ ex, b ∈ ex') : Un fs' ex' H H1 h h1 :=
  ⟨fun b ob q n hb he => u.keep b ob q n (fun z => hb (hs b z)) fun z => he (hx b z), fun _ _ q n _ he => u.any q n fun z => he (hx _ z), fun b ob q n he => u.free b ob q n fun z => he (hx b z), fun b ob q he => u.there b ob q fun z => he (hx b z), u.tups, u.frzs, u.tbls⟩
end

/-! ### the heap without what is tracked -/
def trk (h : Heap) (H : Hp) : List Addr := (List.range h.objs.size).filter fun a => (H a).isSome
def hidT (h : Heap) (H : Hp) : Heap := PySem.W.hideAll h (trk h H)
theorem hidT_size (h : Heap) (H : Hp) : (hidT h H).objs.size = h.objs.size := PySem.W.hideAll_size _ _
theorem hidT_get {h : Heap} {H : Hp} {b : Addr} {o : Obj} (e : h.get? b = some o) (n : H b = none) : (hidT h H).get? b = some o :=
  PySem.W.hideAll_get _ e fun hm => by
    have q : (H b).isSome = true := (List.mem_filter.mp hm).2
    rw [n] at q; simp at q
theorem of_hidT {h : Heap} {H : Hp} {b : Addr} {o : Obj} (e : (hidT h H).get? b = some o) : h.get? b = some o ∧ H b = none := by
  have e' : h.get? b = some o := PySem.W.of_hideAll (trk h H) e
  refine ⟨e', ?_⟩
  cases q : H b with
  | none => rfl
  | some x =>
    have hm : b ∈ trk h H := List.mem_filter.mpr ⟨List.mem_range.mpr (Heap.lt_size e'), by simp [q]⟩
    have z : (hidT h H).get? b = none := PySem.W.hideAll_none (trk h H) hm
    rw [z] at e; cases e

/-! ### OpenK's ledger, filled with every new object but one -/
def allNews (g h : Heap) (L : Addr) : List (Addr × Obj) := (List.range h.objs.size).filterMap fun a => if a = L ∨ (g.get? a).isSome = true then none else (h.get? a).map fun o => (a, o)
theorem mem_allNews {g h : Heap} {L a : Addr} {o : Obj} (h1 : a ≠ L) (h2 : g.get? a = none) (h3 : h.get? a = some o) : (a, o) ∈ allNews g h L :=
  List.mem_filterMap.mpr ⟨a, List.mem_range.mpr (Heap.lt_size h3), by simp [h1, h2, h3]⟩
theorem of_mem_allNews {g h : Heap} {L : Addr} {p : Addr × Obj} (hp : p ∈ allNews g h L) : p.1 ≠ L ∧ g.get? p.1 = none ∧ h.get? p.1 = some p.2 := by
  obtain ⟨b, _, e⟩ := List.mem_filterMap.mp hp
  split at e
  · cases e
  · rename_i hn
    cases q : h.get? b with
    | none => rw [q] at e; simp at e
    | some u =>
      rw [q] at e
      simp only [Option.map_some, Option.some.injEq] at e
      subst e
      refine ⟨fun z => hn (.inl z), ?_, q⟩
      show g.get? b = none
      cases r : g.get? b with
      | none => rfl
      | some v => exact (hn (.inr (by simp [r]))).elim
def rest (g h : Heap) (L d : Addr) : List (Addr × Obj) := (allNews g h L).filter fun p => decide (p.1 ≠ d)
theorem rest_ne {g h : Heap} {L d : Addr} : ∀ p ∈ rest g h L d, p.1 ≠ d := fun p hp => of_decide_eq_true (List.mem_filter.mp hp).2
theorem mem_rest {g h : Heap} {L d a : Addr} {o : Obj} (h1 : a ≠ L) (h2 : g.get? a = none) (h3 : h.get? a = some o) (h4 : a ≠ d) : (a, o) ∈ rest g h L d :=
  List.mem_filter.mpr ⟨mem_allNews h1 h2 h3, decide_eq_true h4⟩
theorem news_all {g h : Heap} {L : Addr} : News g L h (allNews g h L) := fun p hp => let ⟨a, b, c⟩ := of_mem_allNews hp; ⟨c, a, b⟩
theorem news_at {g h : Heap} {L d : Addr} {o : Obj} (h1 : d ≠ L) (h2 : g.get? d = none) (h3 : h.get? d = some o) : News g L h ((d, o) :: rest g h L d) := fun p hp => by
  rcases List.mem_cons.mp hp with rfl | hp
  · exact ⟨h3, h1, h2⟩
  · exact news_all p (List.mem_filter.mp hp).1
/-- behind a rule that changed d alone: all else but the frame is kept -/
theorem kept_of_news {g h h' : Heap} {L d : Addr} {m : Str → Option Value} (k : ∀ b o, g.get? b = some o → h.get? b = some o) (F : Fr g L h' m) (N : News g L h' (rest g h L d)) :
    ∀ b o, b ≠ L → b ≠ d → h.get? b = some o → h'.get? b = some o := fun b o h1 h2 e => by
  cases q : g.get? b with
  | some u =>
    have := k b u q
    rw [e] at this; cases this
    exact F.keep b _ q
  | none => exact (N (b, o) (mem_rest h1 q e h2)).1
end L2

namespace L2
open PySem PySem.Spec PyProof.Rows

/-- the module's facts, over the base: the heap at the law's entry without what is tracked there -/
structure Mod (K : PySem.W.Frag) (mg : Str → Option Value) (base : Heap) : Prop where
  kin : K.In base
  glob : base.Ns mainGlobals mg
  blt : ∃ mb, base.Ns builtinsNs mb ∧ ∀ x : Str, x ≠ "__name__" → mb x = bootBuiltins x
  nolimit : base.NoLimit

/-- the context: a def's body (or a comprehension's block) running. base: fixed through the whole law; s₀, H₀: the entry; outer: the frames whose slots others may change (a def's callers); stack: all frames that run;
   ex: iterators that were made ahead of the entry and are walked here (a comprehension's); fn: the names whose cells were made at the entry (a def: all; a comprehension's block: its own); calm: not within an except suite; pn: pins that every state bears; xe: what is wanted of an exception that leaves the code -/
structure Cx where
  prog : Program
  w : World
  K : PySem.W.Frag
  mg : Str → Option Value
  base : Heap
  A : Around
  N : List Str
  s₀ : Shared
  H₀ : Hp
  env : Env
  outer : List Env
  stack : List Env
  ex : List Addr
  fn : Str → Bool
  calm : Bool
  pn : List (Addr × Obj)
  xe : Value → Shared → Prop
/-- the callers' frames -/
def frs (l : List Env) : List Addr := l.filterMap (·.frame)
abbrev Cx.fs (X : Cx) : List Addr := frs X.outer

def Vis (sc : Scope) (x : Str) : Prop := sc.names.lookup x = some .local ∨ sc.names.lookup x = some .cell ∨ sc.names.lookup x = some .free
def Loc (sc : Scope) (x : Str) : Prop := sc.names.lookup x = some .local ∨ sc.names.lookup x = some .cell
def Look (env : Env) (h : Heap) (m : Str → Option Value) (x : Str) (u : Value) : Prop :=
  (env.kindOf x = some .local ∧ m x = some u) ∨ ((env.kindOf x = some .cell ∨ env.kindOf x = some .free) ∧ ∃ c, env.cells.lookup x = some c ∧ h.IsCell c (some u))

structure Cx.Ok (X : Cx) : Prop where
  mod : Mod X.K X.mg X.base
  kind : X.env.scope.kind = .function
  glob : X.env.globals = mainGlobals
  blt : X.env.builtins = builtinsNs
  above : X.s₀.heap.objs.size ≤ X.env.locals
  inj : ∀ x y c, X.env.cells.lookup x = some c → X.env.cells.lookup y = some c → x = y
  has : ∀ x, (X.env.kindOf x = some .cell ∨ X.env.kindOf x = some .free) → ∃ c, X.env.cells.lookup x = some c
  cab : ∀ x c, X.fn x = true → X.env.cells.lookup x = some c → X.s₀.heap.objs.size ≤ c
  hd : X.calm = true → X.A.handled = none
  frames : X.A.frames = some X.stack
  stk : X.stack = X.outer ∨ (X.stack = X.env :: X.outer ∧ X.env.frame = some X.env.locals)
  exf : ∀ b ∈ X.ex, b ≠ X.env.locals ∧ ∀ x c, X.env.cells.lookup x = some c → c ≠ b
  bs : ∀ b o, X.base.get? b = some o → X.s₀.heap.get? b = some o ∧ X.H₀ b = none
  bsz : X.base.objs.size ≤ X.s₀.heap.objs.size
  noex : ∀ b o, X.base.get? b = some o → b ∉ X.ex
  exfs : ∀ b ∈ X.ex, b ∉ X.fs
  funs : X.s₀.heap.FunFrames X.base X.outer
  frf : ∀ b ∈ X.fs, X.H₀ b = none

structure Inv (X : Cx) (pins : List (Addr × Obj)) (σ : List (Option V)) (H : Hp) (s : Shared) : Prop where
  ok : X.Ok
  os : s.os = X.s₀.os
  bare : AllBare s.gens
  base : Un X.fs X.ex X.H₀ H X.s₀.heap s.heap
  loc : ∃ m, s.heap.Ns X.env.locals m ∧ ∀ (i : Nat) (x : Str) (v : V), X.N[i]? = some x → σ[i]? = some (some v) → Vis X.env.scope x → ∃ u, RelV v u ∧ Look X.env s.heap m x u
  cell : ∀ x c, X.env.cells.lookup x = some c → ∃ v, s.heap.IsCell c v
  free : H X.env.locals = none
  freeC : ∀ x c, X.env.cells.lookup x = some c → H c = none
  pin : ∀ p ∈ X.pn ++ pins, s.heap.get? p.1 = some p.2 ∧ H p.1 = none ∧ p.1 ≠ X.env.locals ∧ p.1 ∉ X.fs ∧ ∀ v, p.2.data ≠ .cell v
  hok : HOk X.prog X.w H s.heap
  len : σ.length = X.N.length

section
variable {X : Cx} {pins : List (Addr × Obj)} {σ : List (Option V)} {H H' : Hp} {s : Shared} {h' : Heap}

theorem Cx.Ok.nofr (ok : X.Ok) {b : Addr} {o : Obj} (e : X.base.get? b = some o) : b ∉ X.fs := fun hb => by
  have := (ok.funs.mem hb).1
  rw [e] at this; cases this
theorem Inv.bs (I : Inv X pins σ H s) : ∀ b o, X.base.get? b = some o → s.heap.get? b = some o ∧ H b = none := fun b o e =>
  ⟨I.base.keep b o (I.ok.bs b o e).1 (I.ok.bs b o e).2 (I.ok.nofr e) (I.ok.noex b o e), I.base.free b o (I.ok.bs b o e).1 (I.ok.bs b o e).2 (I.ok.noex b o e)⟩
theorem Inv.bk (I : Inv X pins σ H s) : ∀ b o, X.base.get? b = some o → s.heap.get? b = some o := fun b o e => (I.bs b o e).1
theorem Inv.mod (I : Inv X pins σ H s) : Mod X.K X.mg X.base := I.ok.mod
theorem Inv.kIn (I : Inv X pins σ H s) : X.K.In s.heap := I.ok.mod.kin.keeps I.bk
theorem Inv.nolimit (I : Inv X pins σ H s) : s.heap.NoLimit := I.ok.mod.nolimit.keeps I.bk
/-- the frame over the base: for OpenK's rules (K.In X.base is I.mod.kin) -/
theorem Inv.fr (I : Inv X pins σ H s) : ∃ m, Fr X.base X.env.locals s.heap m :=
  let ⟨m, hn, _⟩ := I.loc
  ⟨m, hn, I.bk, Nat.le_trans I.ok.bsz I.ok.above⟩
theorem Inv.lt (I : Inv X pins σ H s) : X.env.locals < s.heap.objs.size := let ⟨_, hn, _⟩ := I.loc; hn.lt
theorem Inv.sz (I : Inv X pins σ H s) : X.s₀.heap.objs.size ≤ s.heap.objs.size := Nat.le_trans I.ok.above (Nat.le_of_lt I.lt)
theorem Inv.nofs (I : Inv X pins σ H s) {a : Addr} (h : s.heap.objs.size ≤ a) : a ∉ X.fs := fun hb => by
  obtain ⟨_, o, ho, _⟩ := I.ok.funs.mem hb
  exact absurd (Nat.lt_of_lt_of_le (Heap.lt_size ho) (Nat.le_trans I.sz h)) (Nat.lt_irrefl _)
theorem Inv.cne (I : Inv X pins σ H s) : ∀ x c, X.env.cells.lookup x = some c → c ≠ X.env.locals := fun x c e z => by
  obtain ⟨v, o, ho, hd⟩ := I.cell x c e
  obtain ⟨m, ⟨o', es, ep, ho', hd', _⟩, _⟩ := I.loc
  rw [z, ho'] at ho; cases ho; rw [hd'] at hd; cases hd
theorem Inv.funs (I : Inv X pins σ H s) : s.heap.FunFrames X.base X.outer := by
  have all : ∀ (l : List Env), (∀ b ∈ frs l, b ∈ X.fs) → X.s₀.heap.FunFrames X.base l → s.heap.FunFrames X.base l := by
    intro l
    induction l with
    | nil => intro _ _; trivial
    | cons env r ih =>
      intro hs hl
      obtain ⟨hk, ⟨L, o, hf, hn, ho, hd⟩, hr⟩ := hl
      have hL : L ∈ X.fs := hs L (by unfold frs; rw [List.filterMap_cons, hf]; exact List.mem_cons_self)
      obtain ⟨sl, e⟩ := I.base.slot L o ho (I.ok.frf L hL) hL fun z => I.ok.exfs L z hL
      exact ⟨hk, ⟨L, _, hf, hn, e, hd⟩, ih (fun b hb => hs b (by unfold frs; rw [List.filterMap_cons, hf]; exact List.mem_cons_of_mem _ hb)) hr⟩
  exact all X.outer (fun _ hb => hb) I.ok.funs

/-- the frames that run, for a call -/
theorem Inv.stack (I : Inv X pins σ H s) : s.heap.FunFrames X.base X.stack := by
  rcases I.ok.stk with e | ⟨e, hf⟩
  · rw [e]; exact I.funs
  · rw [e]
    obtain ⟨m, hn, _⟩ := I.loc
    refine .cons (by rw [I.ok.kind]; decide) hf hn ?_ I.funs
    exact Heap.get?_none_of_le (Nat.le_trans I.ok.bsz I.ok.above)
theorem Inv.stkSub (I : Inv X pins σ H s) : ∀ b ∈ frs X.stack, b ∈ X.env.locals :: X.fs := fun b hb => by
  rcases I.ok.stk with e | ⟨e, hf⟩
  · rw [e] at hb; exact List.mem_cons_of_mem _ hb
  · rw [e] at hb
    unfold frs at hb
    rw [List.filterMap_cons, hf] at hb
    exact hb
theorem Inv.stkFree (I : Inv X pins σ H s) : ∀ b ∈ frs X.stack, H b = none := fun b hb => by
  rcases List.mem_cons.mp (I.stkSub b hb) with e | hb
  · rw [e]; exact I.free
  · obtain ⟨_, o, ho, _⟩ := I.ok.funs.mem hb
    exact I.base.free b o ho (I.ok.frf b hb) fun z => I.ok.exfs b z hb

/-- THE STEP: the untracked objects but the frame and the records at ch are kept (the callers' frames up to slots), the frame's map is kept, the new abstract heap is held -/
theorem Inv.step {g' : Array GenState} {t' : Nat} {d' : Drawn} {ch : List Addr} (I : Inv X pins σ H s)
    (hch : ∀ b ∈ ch, (b ∈ X.ex ∨ X.s₀.heap.objs.size ≤ b) ∧ b ≠ X.env.locals ∧ (∀ x c, X.env.cells.lookup x = some c → c ≠ b) ∧ ∀ p ∈ X.pn ++ pins, p.1 ≠ b)
    (keep : ∀ b o, b ≠ X.env.locals → b ∉ X.fs → b ∉ ch → s.heap.get? b = some o → H b = none → h'.get? b = some o)
    (slot : ∀ b o, b ≠ X.env.locals → b ∈ X.fs → b ∉ ch → s.heap.get? b = some o → H b = none → ∃ sl, h'.get? b = some { o with slots := sl }) (free : ∀ b o, b ∉ ch → s.heap.get? b = some o → H b = none → H' b = none)
    (there : ∀ b o, b ∉ ch → s.heap.get? b = some o → ∃ o', h'.get? b = some o')
    (tups : ∀ b xs, H b = some (.tup xs) → H' b = some (.tup xs)) (frzs : ∀ b o u, H b = some (.frz o u) → H' b = some (.frz o u)) (tbls : ∀ b ps, H b = some (.tbl ps) → ∃ more, H' b = some (.tbl (ps ++ more)))
    (ns : ∀ m, s.heap.Ns X.env.locals m → h'.Ns X.env.locals m) (hok : HOk X.prog X.w H' h') (hg : AllBare g') :
    Inv X pins σ H' { s with heap := h', gens := g', drawn := d', toks := t' } := by
  have neL : ∀ b o, X.s₀.heap.get? b = some o → b ≠ X.env.locals := fun b o e => Nat.ne_of_lt (Nat.lt_of_lt_of_le (Heap.lt_size e) I.ok.above)
  have neC : ∀ b o, X.s₀.heap.get? b = some o → b ∉ X.ex → b ∉ ch := fun b o e hx hb => by
    rcases (hch b hb).1 with z | z
    · exact hx z
    · exact absurd (Nat.lt_of_lt_of_le (Heap.lt_size e) z) (Nat.lt_irrefl _)
  have cellK : ∀ x c, X.env.cells.lookup x = some c → ∀ v, s.heap.IsCell c v → h'.IsCell c v := fun x c e v ⟨o, ho, hd⟩ => by
    have nch : c ∉ ch := fun z => (hch c z).2.2.1 x c e rfl
    by_cases hc : c ∈ X.fs
    · obtain ⟨sl, q⟩ := slot c o (I.cne x c e) hc nch ho (I.freeC x c e)
      exact ⟨_, q, hd⟩
    · exact ⟨o, keep c o (I.cne x c e) hc nch ho (I.freeC x c e), hd⟩
  refine ⟨I.ok, I.os, hg, ⟨fun b o e n hb hx => ?_, fun b o e n hb hx => ?_, fun b o e n hx => ?_, fun b o e hx => ?_, fun b xs e => tups b xs (I.base.tups b xs e), fun b o xs e => frzs b o xs (I.base.frzs b o xs e), fun b ps e => ?_⟩, ?_, fun x c e => ?_, ?_, fun x c e => ?_, fun p hp => ?_, hok, I.len⟩
  · exact keep b o (neL b o e) hb (neC b o e hx) (I.base.keep b o e n hb hx) (I.base.free b o e n hx)
  · obtain ⟨sl, e1⟩ := I.base.slot b o e n hb hx
    obtain ⟨sl', e2⟩ := slot b _ (neL b o e) hb (neC b o e hx) e1 (I.base.free b o e n hx)
    exact ⟨sl', e2⟩
  · obtain ⟨o', e1⟩ := I.base.there b o e hx
    exact free b o' (neC b o e hx) e1 (I.base.free b o e n hx)
  · obtain ⟨o', e1⟩ := I.base.there b o e hx
    exact there b o' (neC b o e hx) e1
  · obtain ⟨m1, e1⟩ := I.base.tbls b ps e
    obtain ⟨m2, e2⟩ := tbls b _ e1
    exact ⟨m1 ++ m2, by rw [e2, Array.append_assoc]⟩
  · obtain ⟨m, hn, hl⟩ := I.loc
    refine ⟨m, ns m hn, fun i x v e1 e2 e3 => ?_⟩
    obtain ⟨u, r, l⟩ := hl i x v e1 e2 e3
    refine ⟨u, r, ?_⟩
    rcases l with l | ⟨k, c, e, z⟩
    · exact .inl l
    · exact .inr ⟨k, c, e, cellK x c e _ z⟩
  · obtain ⟨v, z⟩ := I.cell x c e
    exact ⟨v, cellK x c e v z⟩
  · obtain ⟨m, ⟨o, _, _, ho, _⟩, _⟩ := I.loc
    exact free _ o (fun z => (hch _ z).2.1 rfl) ho I.free
  · obtain ⟨v, o, ho, hd⟩ := I.cell x c e
    exact free c o (fun z => (hch c z).2.2.1 x c e rfl) ho (I.freeC x c e)
  · obtain ⟨e, n, ne, nf, d⟩ := I.pin p hp
    have nch : p.1 ∉ ch := fun z => (hch p.1 z).2.2.2 p hp rfl
    exact ⟨keep p.1 p.2 ne nf nch e n, free p.1 p.2 nch e n, ne, nf, d⟩
/-- .. where the frame's own object is kept too -/
theorem Inv.un {t' : Nat} (I : Inv X pins σ H s) (u : Un X.fs [] H H' s.heap h') (hok : HOk X.prog X.w H' h') : Inv X pins σ H' { s with heap := h', toks := t' } := by
  obtain ⟨m, ⟨o, es, ep, ho, r⟩, _⟩ := id I.loc
  obtain ⟨sl, hL⟩ := u.any ho I.free (by simp)
  exact I.step (g' := s.gens) (d' := s.drawn) (ch := []) (fun _ z => nomatch z) (fun b o _ hb _ e n => u.keep b o e n hb (by simp)) (fun b o _ hb _ e n => u.slot b o e n hb (by simp)) (fun b o _ e n => u.free b o e n (by simp)) (fun b o _ e => u.there b o e (by simp)) u.tups u.frzs u.tbls (fun m' hm => by
    obtain ⟨o', es', ep', ho', r'⟩ := hm
    rw [ho] at ho'; cases ho'
    exact ⟨_, es', ep', hL, r'⟩) hok I.bare
/-- behind a call (or a comprehension's block): the slots of this frame may have changed too, the records at ch may have turned -/
theorem Inv.call {g' : Array GenState} {t' : Nat} {d' : Drawn} {ch : List Addr} (I : Inv X pins σ H s) (u : Un (frs X.stack) ch H H' s.heap h') (hok : HOk X.prog X.w H' h') (hg : AllBare g')
    (hch : ∀ b ∈ ch, (b ∈ X.ex ∨ X.s₀.heap.objs.size ≤ b) ∧ b ≠ X.env.locals ∧ (∀ x c, X.env.cells.lookup x = some c → c ≠ b) ∧ ∀ p ∈ X.pn ++ pins, p.1 ≠ b) :
    Inv X pins σ H' { s with heap := h', gens := g', drawn := d', toks := t' } := by
  obtain ⟨m, ⟨o, es, ep, ho, r⟩, _⟩ := id I.loc
  obtain ⟨sl, hL⟩ := u.any ho I.free fun z => (hch _ z).2.1 rfl
  exact I.step (ch := ch) hch (fun b o hL hb hc e n => u.keep b o e n (fun z => (List.mem_cons.mp (I.stkSub b z)).elim hL hb) hc) (fun b o _ _ hc e n => u.any e n hc) (fun b o hc e n => u.free b o e n hc) (fun b o hc e => u.there b o e hc) u.tups u.frzs u.tbls (fun m' hm => by
    obtain ⟨o', es', ep', ho', r'⟩ := hm
    rw [ho] at ho'; cases ho'
    exact ⟨_, es', ep', hL, r'⟩) hok hg
/-- an untracked record of ours (an iterator) has turned -/
theorem Inv.turned {t' : Nat} {it : Addr} (I : Inv X pins σ H s) (k : ∀ b o, b ≠ it → s.heap.get? b = some o → h'.get? b = some o) (hn : H it = none) (hL : it ≠ X.env.locals)
    (h1 : it ∈ X.ex ∨ X.s₀.heap.objs.size ≤ it) (h2 : ∀ x c, X.env.cells.lookup x = some c → c ≠ it) (h3 : ∀ p ∈ X.pn ++ pins, p.1 ≠ it) : Inv X pins σ H { s with heap := h', toks := t' } := by
  have nit : ∀ b u, H b = some u → b ≠ it := fun b u e z => by rw [z, hn] at e; cases e
  refine I.step (g' := s.gens) (d' := s.drawn) (ch := [it]) (fun b hb => ?_) (fun b o _ _ hc e _ => k b o (fun z => hc (by simp [z])) e) (fun b o _ _ hc e _ => ⟨o.slots, k b o (fun z => hc (by simp [z])) e⟩) (fun _ _ _ _ n => n)
    (fun b o hc e => ⟨o, k b o (fun z => hc (by simp [z])) e⟩) (fun _ _ e => e) (fun _ _ _ e => e) (fun b ps e => ⟨#[], by rw [e]; simp⟩) (fun m hm => ?_) (fun b u e => ?_) I.bare
  · have e : b = it := by simpa using hb
    subst e
    exact ⟨h1, hL, h2, h3⟩
  · obtain ⟨o, es, ep, ho, r⟩ := hm
    exact ⟨o, es, ep, k _ o (Ne.symm hL) ho, r⟩
  · refine (I.hok b u e).stay (fun c v hc q => k c v ?_ q) (fun _ q => q) fun _ _ q => q
    rcases hc with z | z
    · rw [z]; exact nit b u e
    · exact nit c _ z
theorem Inv.tok (I : Inv X pins σ H s) (t : Nat) : Inv X pins σ H { s with toks := t } := I.un (h' := s.heap) (t' := t) Un.refl I.hok
/-- all objects kept -/
theorem Inv.kept {t' : Nat} (I : Inv X pins σ H s) (k : ∀ b u, s.heap.get? b = some u → h'.get? b = some u) : Inv X pins σ H { s with heap := h', toks := t' } := I.un (Un.kept k) (I.hok.kept k)
/-- a new object laid and tracked -/
theorem Inv.laid {a : Addr} {o : HO} {t' : Nat} (I : Inv X pins σ H s) (k : ∀ b u, s.heap.get? b = some u → h'.get? b = some u) (hp : s.heap.objs.size ≤ a) (new : ObjOk X.prog X.w (upd H a o) h' a o) :
    Inv X pins σ (upd H a o) { s with heap := h', toks := t' } := I.un (Un.laid k hp (I.hok.fresh hp)) (I.hok.laid k hp new)
/-- an object written -/
theorem Inv.write {x e : Addr} {o : HO} {t' : Nat} (I : Inv X pins σ H s) (mu : Mut (H x)) (he : e = x ∨ H e = some (.own x)) (k : ∀ b u, b ≠ e → s.heap.get? b = some u → h'.get? b = some u) (heo : ∃ u, h'.get? e = some u)
    (new : ObjOk X.prog X.w (upd H x o) h' x o) : Inv X pins σ (upd H x o) { s with heap := h', toks := t' } := I.un (Un.write mu he k heo) (I.hok.write mu he k heo new)
/-- forgetting slots, pins -/
theorem Inv.weak {σ' : List (Option V)} (I : Inv X pins σ H s) (hl : σ'.length = σ.length) (w : ∀ (i : Nat) v, σ'[i]? = some (some v) → σ[i]? = some (some v)) : Inv X pins σ' H s :=
  ⟨I.ok, I.os, I.bare, I.base, let ⟨m, hn, hl'⟩ := I.loc; ⟨m, hn, fun i x v e1 e2 e3 => hl' i x v e1 (w i v e2) e3⟩, I.cell, I.free, I.freeC, I.pin, I.hok, hl.trans I.len⟩
theorem Inv.pins_of {pins' : List (Addr × Obj)} (I : Inv X pins σ H s) (h : ∀ p ∈ pins', s.heap.get? p.1 = some p.2 ∧ H p.1 = none ∧ p.1 ≠ X.env.locals ∧ p.1 ∉ X.fs ∧ ∀ v, p.2.data ≠ .cell v) : Inv X pins' σ H s :=
  ⟨I.ok, I.os, I.bare, I.base, I.loc, I.cell, I.free, I.freeC, fun p hp => (List.mem_append.mp hp).elim (fun z => I.pin p (List.mem_append_left _ z)) (h p), I.hok, I.len⟩

theorem nodup_ix {N : List Str} (hN : N.Nodup) {i j : Nat} {x : Str} (a : N[i]? = some x) (b : N[j]? = some x) : i = j := by
  obtain ⟨h1, e1⟩ := List.getElem?_eq_some_iff.mp a
  obtain ⟨h2, e2⟩ := List.getElem?_eq_some_iff.mp b
  exact (List.getElem_inj hN).mp (e1.trans e2.symm)

/-- a name is stored; what changed -/
theorem store_ok2 {M : Model} {A : Around} {E : Value → Shared → Prop} {i : Nat} {x : Str} {v : V} {u : Value} {Q : Unit → Shared → Prop} (I : Inv X pins σ H s) (hN : X.N.Nodup) (hi : X.N[i]? = some x) (hx : Loc X.env.scope x) (r : RelV v u)
    (h : ∀ s', Inv X pins (σ.set i (some v)) H s' → (∃ a, Heap.SameBut a s.heap s'.heap ∧ (a = X.env.locals ∨ X.env.cells.lookup x = some a)) → Q () s') (hf : X.fn x = true ∨ X.env.scope.names.lookup x = some .local := by first | exact .inl rfl | exact .inr rfl | assumption) : wpAny M A (storeName X.env x u) Q E s := by
  obtain ⟨m, hn, hl⟩ := id I.loc
  have hcls : (X.env.scope.kind == .class || (X.env.scope.kind == .module && X.env.locals != X.env.globals)) = false := by rw [I.ok.kind]; rfl
  have hiσ : i < σ.length := by rw [I.len]; exact (List.getElem?_eq_some_iff.mp hi).1
  have cne := I.cne
  have tracked : ∀ {a : Addr} {h' : Heap}, (∃ o, s.heap.get? a = some o ∧ H a = none) → Heap.SameBut a s.heap h' → HOk X.prog X.w H h' := fun {a h'} ha hs b ob e => by
    obtain ⟨_, _, hfree⟩ := ha
    refine (I.hok b ob e).stay (fun c w' hc q => (hs.2 c ?_).trans q) (fun _ q => q) fun _ _ q => q
    rintro rfl
    rcases hc with rfl | hc
    · rw [hfree] at e; cases e
    · rw [hfree] at hc; cases hc
  rcases hx with hk | hk
  · refine wpAny_storeName_local hk hn (fun h' hn' hs => ?_) hcls
    obtain ⟨oL, _, _, hoL, _⟩ := id hn
    refine h _ ⟨I.ok, I.os, I.bare, ⟨fun b o e n hb hx => ?_, fun b o e n hb hx => ?_, I.base.free, fun b o e hx => ?_, I.base.tups, I.base.frzs, I.base.tbls⟩, ⟨_, hn', fun j y v' e1 e2 e3 => ?_⟩, fun y c e => ?_, I.free, I.freeC, fun p hp => ?_, tracked ⟨oL, hoL, I.free⟩ hs, by simpa using I.len⟩ ⟨_, hs, .inl rfl⟩
    · exact (hs.2 b (Nat.ne_of_lt (Nat.lt_of_lt_of_le (Heap.lt_size e) I.ok.above))).trans (I.base.keep b o e n hb hx)
    · obtain ⟨sl, e1⟩ := I.base.slot b o e n hb hx
      exact ⟨sl, (hs.2 b (Nat.ne_of_lt (Nat.lt_of_lt_of_le (Heap.lt_size e) I.ok.above))).trans e1⟩
    · obtain ⟨o', e1⟩ := I.base.there b o e hx
      exact ⟨o', (hs.2 b (Nat.ne_of_lt (Nat.lt_of_lt_of_le (Heap.lt_size e) I.ok.above))).trans e1⟩
    · by_cases hj : j = i
      · subst hj
        rw [hi] at e1; cases e1
        rw [List.getElem?_set_self hiσ] at e2
        cases e2
        exact ⟨u, r, .inl ⟨hk, by simp⟩⟩
      · rw [List.getElem?_set_ne (Ne.symm hj)] at e2
        obtain ⟨u', r', q⟩ := hl j y v' e1 e2 e3
        refine ⟨u', r', ?_⟩
        rcases q with ⟨k, e⟩ | ⟨k, c, e, z⟩
        · refine .inl ⟨k, ?_⟩
          have : y ≠ x := fun e => hj (nodup_ix hN e1 (e ▸ hi))
          simp [this, e]
        · exact .inr ⟨k, c, e, z.sameBut hs (cne y c e)⟩
    · obtain ⟨w', z⟩ := I.cell y c e
      exact ⟨w', z.sameBut hs (cne y c e)⟩
    · obtain ⟨e, n, ne, nf, d⟩ := I.pin p hp
      exact ⟨(hs.2 p.1 ne).trans e, n, ne, nf, d⟩
  · have hfn : X.fn x = true := by
      rcases hf with z | z
      · exact z
      · rw [z] at hk; cases hk
    obtain ⟨c, hc⟩ := I.ok.has x (.inl hk)
    obtain ⟨w', z⟩ := I.cell x c hc
    refine wpAny_storeName_cell I.ok.kind hk hc z (fun h' hc' hs => ?_)
    obtain ⟨oc, hoc, hocd⟩ := id z
    refine h { s with heap := h' } ⟨I.ok, I.os, I.bare, ⟨fun b o e n hb hx => ?_, fun b o e n hb hx => ?_, I.base.free, fun b o e hx => ?_, I.base.tups, I.base.frzs, I.base.tbls⟩, ⟨m, hn.sameBut hs (Ne.symm (cne x c hc)), fun j y v' e1 e2 e3 => ?_⟩, fun y c' e => ?_, I.free, I.freeC, fun p hp => ?_, tracked ⟨oc, hoc, I.freeC x c hc⟩ hs, by simpa using I.len⟩ ⟨c, hs, .inr hc⟩
    · exact (hs.2 b (Nat.ne_of_lt (Nat.lt_of_lt_of_le (Heap.lt_size e) (I.ok.cab x c hfn hc)))).trans (I.base.keep b o e n hb hx)
    · obtain ⟨sl, e1⟩ := I.base.slot b o e n hb hx
      exact ⟨sl, (hs.2 b (Nat.ne_of_lt (Nat.lt_of_lt_of_le (Heap.lt_size e) (I.ok.cab x c hfn hc)))).trans e1⟩
    · obtain ⟨o', e1⟩ := I.base.there b o e hx
      exact ⟨o', (hs.2 b (Nat.ne_of_lt (Nat.lt_of_lt_of_le (Heap.lt_size e) (I.ok.cab x c hfn hc)))).trans e1⟩
    · by_cases hj : j = i
      · subst hj
        rw [hi] at e1; cases e1
        rw [List.getElem?_set_self hiσ] at e2
        cases e2
        exact ⟨u, r, .inr ⟨.inl hk, c, hc, hc'⟩⟩
      · rw [List.getElem?_set_ne (Ne.symm hj)] at e2
        obtain ⟨u', r', q⟩ := hl j y v' e1 e2 e3
        refine ⟨u', r', ?_⟩
        rcases q with q | ⟨k, c', e, z'⟩
        · exact .inl q
        · refine .inr ⟨k, c', e, z'.sameBut hs ?_⟩
          rintro rfl
          exact hj (nodup_ix hN e1 (I.ok.inj _ _ _ e hc ▸ hi))
    · by_cases hcc : c' = c
      · subst hcc; exact ⟨_, hc'⟩
      · obtain ⟨w2, z2⟩ := I.cell y c' e
        exact ⟨w2, z2.sameBut hs hcc⟩
    · obtain ⟨e, n, ne, nf, d⟩ := I.pin p hp
      refine ⟨(hs.2 p.1 ?_).trans e, n, ne, nf, d⟩
      intro q
      rw [q, hoc] at e
      have q' : oc = p.2 := Option.some.inj e
      exact d w' (by rw [← q']; exact hocd)
theorem store_ok {M : Model} {A : Around} {E : Value → Shared → Prop} {i : Nat} {x : Str} {v : V} {u : Value} {Q : Unit → Shared → Prop} (I : Inv X pins σ H s) (hN : X.N.Nodup) (hi : X.N[i]? = some x) (hx : Loc X.env.scope x) (r : RelV v u)
    (h : ∀ s', Inv X pins (σ.set i (some v)) H s' → Q () s') (hf : X.fn x = true ∨ X.env.scope.names.lookup x = some .local := by first | exact .inl rfl | exact .inr rfl | assumption) : wpAny M A (storeName X.env x u) Q E s :=
  store_ok2 I hN hi hx r (fun s' I' _ => h s' I') hf
/-- behind a call or a block, the state as it is -/
theorem Inv.call' {s' : Shared} {ch : List Addr} (I : Inv X pins σ H s) (ho : s'.os = s.os) (u : Un (frs X.stack) ch H H' s.heap s'.heap) (hok : HOk X.prog X.w H' s'.heap) (hg : AllBare s'.gens)
    (hch : ∀ b ∈ ch, (b ∈ X.ex ∨ X.s₀.heap.objs.size ≤ b) ∧ b ≠ X.env.locals ∧ (∀ x c, X.env.cells.lookup x = some c → c ≠ b) ∧ ∀ p ∈ X.pn ++ pins, p.1 ≠ b) : Inv X pins σ H' s' := by
  obtain ⟨h', g', d', t', o'⟩ := s'
  have e : o' = s.os := ho
  subst e
  exact I.call (g' := g') (t' := t') (d' := d') u hok hg hch
end

/-! ### the judgements -/
/-- an exception: its class, its own dict's address (where it has one), the abstract heap behind it -/
abbrev XK := Value → Option Addr → Hp → Prop
abbrev St := List (Option V)
abbrev VK := V → Hp → Prop
/-- an expression's reading; a test's; an argument list's -/
abbrev TE := St → Hp → VK → Prop
abbrev TT := St → Hp → (Bool → Hp → Prop) → Prop
abbrev TA := St → Hp → (List V → Hp → Prop) → Prop
/-- what is wanted behind a statement -/
structure Ends where
  nx : St → Hp → Prop
  rt : VK
  bk : St → Hp → Prop := fun _ _ => False
  ct : St → Hp → Prop := fun _ _ => False
abbrev TS := Ends → St → Hp → Prop

def EP (X : Cx) (pins : List (Addr × Obj)) (σ : St) (Q : VK) (u : Value) (s' : Shared) : Prop := ∃ v H', Inv X pins σ H' s' ∧ RelV v u ∧ Q v H'
def TP (X : Cx) (pins : List (Addr × Obj)) (σ : St) (Q : Bool → Hp → Prop) (b : Bool) (s' : Shared) : Prop := ∃ H', Inv X pins σ H' s' ∧ Q b H'
def AP (X : Cx) (pins : List (Addr × Obj)) (σ : St) (Q : List V → Hp → Prop) (us : List Value) (s' : Shared) : Prop := ∃ vs H', Inv X pins σ H' s' ∧ Vals vs us ∧ Q vs H'
def SP (X : Cx) (pins : List (Addr × Obj)) (D : Ends) (f : Flow) (s' : Shared) : Prop :=
  match f with
  | .next => ∃ σ' H', Inv X pins σ' H' s' ∧ D.nx σ' H'
  | .brk => ∃ σ' H', Inv X pins σ' H' s' ∧ D.bk σ' H'
  | .cont => ∃ σ' H', Inv X pins σ' H' s' ∧ D.ct σ' H'
  | .ret u => ∃ v σ' H', Inv X pins σ' H' s' ∧ RelV v u ∧ D.rt v H'

def PE (X : Cx) (e : Expr) (t : TE) : Prop :=
  ∀ (pins : List (Addr × Obj)) (s : Shared) (σ : St) (H : Hp) (Q : VK), Inv X pins σ H s → t σ H Q → wpAny (model X.prog X.w) X.A (eval e X.env) (EP X pins σ Q) X.xe s
def PT (X : Cx) (e : Expr) (t : TT) : Prop :=
  ∀ (pins : List (Addr × Obj)) (s : Shared) (σ : St) (H : Hp) (Q : Bool → Hp → Prop), Inv X pins σ H s → t σ H Q → wpAny (model X.prog X.w) X.A (isTrue e X.env (eval e X.env)) (TP X pins σ Q) X.xe s
/-- a test whatever its 'whole' is (and, or) -/
def PW (X : Cx) (e : Expr) (t : TT) : Prop :=
  ∀ (whole : Sem Value) (pins : List (Addr × Obj)) (s : Shared) (σ : St) (H : Hp) (Q : Bool → Hp → Prop), Inv X pins σ H s → t σ H Q → wpAny (model X.prog X.w) X.A (isTrue e X.env whole) (TP X pins σ Q) X.xe s
theorem PW.pt {X : Cx} {e : Expr} {t : TT} (h : PW X e t) : PT X e t := h _
/-- an argument list (no star), from the left -/
def PA (X : Cx) (es : List Expr) (t : TA) : Prop :=
  ∀ (pos : Pos) (pins : List (Addr × Obj)) (s : Shared) (σ : St) (H : Hp) (Q : List V → Hp → Prop), Inv X pins σ H s → t σ H Q → wpAny (model X.prog X.w) X.A (spliced (backTo pos (starEach es X.env))) (AP X pins σ Q) X.xe s
def PS (X : Cx) (st : Stmt) (t : TS) : Prop :=
  ∀ (pins : List (Addr × Obj)) (s : Shared) (σ : St) (H : Hp) (D : Ends), Inv X pins σ H s → t D σ H → wpAny (model X.prog X.w) X.A (exec st X.env) (SP X pins D) X.xe s
def PSs (X : Cx) (st : List Stmt) (t : TS) : Prop :=
  ∀ (pins : List (Addr × Obj)) (s : Shared) (σ : St) (H : Hp) (D : Ends), Inv X pins σ H s → t D σ H → wpAny (model X.prog X.w) X.A (execs st X.env) (SP X pins D) X.xe s
/-- weaken the end -/
theorem thn {α : Type} {t : Sem α} {Q Q' : α → Shared → Prop} {M : Model} {A : Around} {E : Value → Shared → Prop} {s : Shared} (h : wpAny M A t Q E s) (hQ : ∀ a s, Q a s → Q' a s) : wpAny M A t Q' E s := wpAny_mono h hQ fun _ _ x => x
end L2

namespace L2
open PySem PySem.Spec PyProof.Rows
section
variable {X : Cx}

/-- two expressions in a row -/
theorem bin {a b : Expr} {ta tb : TE} (ha : PE X a ta) (hb : PE X b tb) {pins : List (Addr × Obj)} {s : Shared} {σ : St} {H : Hp} {R : V → V → Hp → Prop} (I : Inv X pins σ H s) (h : ta σ H fun x H1 => tb σ H1 fun y H2 => R x y H2)
    {α : Type} {Q : α → Shared → Prop} {f : Value → Value → Sem α}
    (hf : ∀ v u s2 x y H2, Inv X pins σ H2 s2 → RelV x v → RelV y u → R x y H2 → wpAny (model X.prog X.w) X.A (f v u) Q X.xe s2) :
    wpAny (model X.prog X.w) X.A (eval a X.env) (fun v s₁ => wpAny (model X.prog X.w) X.A (eval b X.env) (fun u s₂ => wpAny (model X.prog X.w) X.A (f v u) Q X.xe s₂) X.xe s₁) X.xe s := by
  refine thn (ha pins s σ H _ I h) fun v s1 ⟨x, H1, I1, r1, q1⟩ => ?_
  refine thn (hb pins s1 σ H1 _ I1 q1) fun u s2 ⟨y, H2, I2, r2, q2⟩ => ?_
  exact hf v u s2 x y H2 I2 r1 r2 q2

/-! ### names and constants -/
def tVar (i : Nat) : TE := fun σ H Q => ∃ v, σ[i]? = some (some v) ∧ Q v H
def tC (v : V) : TE := fun _ H Q => Q v H
theorem pe_var {i : Nat} {x : Str} {pos : Pos} (hN : X.N[i]? = some x) (hv : Vis X.env.scope x) (hd : (x == ("__debug__" : Str)) = false := by decide) (hcd : (x == ("__classdict__" : Str)) = false := by decide) : PE X (.Name x pos) (tVar i) := by
  intro pins s σ H Q I h
  obtain ⟨v, e, h⟩ := h
  obtain ⟨m, hn, hl⟩ := I.loc
  obtain ⟨u, r, l⟩ := hl i x v hN e hv
  have fin : EP X pins σ Q u s := ⟨v, H, I, r, h⟩
  rcases l with ⟨hk, hm⟩ | ⟨hk, c, hc, hcell⟩
  · exact wpAny_Name (wpAny_loadName_local I.ok.kind hk hn hm fin) hd
  · rcases hk with hk | hk
    · exact wpAny_Name (wpAny_loadName_cell I.ok.kind hk hc hcell fin) hd
    · exact wpAny_Name (wpAny_loadName_free I.ok.kind hk hc hcell fin hcd) hd
theorem pe_int {i j pos} : PE X (.Constant (.int i) j pos) (tC (.int i)) := fun _ _ _ H _ I h => wpAny_Constant_int ⟨.int i, H, I.tok _, ⟨_, rfl⟩, h⟩
theorem pe_bl {b j pos} : PE X (.Constant (.bool b) j pos) (tC (.bl b)) := fun _ _ _ H _ I h => Constant_bool ⟨.bl b, H, I, rfl, h⟩
theorem pe_non {j pos} : PE X (.Constant .none j pos) (tC .non) := fun _ _ _ H _ I h => Constant_none ⟨.non, H, I, rfl, h⟩
theorem pe_str {x j pos} : PE X (.Constant (.str x) j pos) (tC (.str x)) := fun _ _ _ H _ I h => Calls.Constant_str ⟨.str x, H, I.tok _, ⟨_, rfl⟩, h⟩

/-- a global name of the def -/
def Gl (X : Cx) (x : Str) : Prop := X.env.kindOf x = some .globalImplicit
theorem ld_glob {E : Value → Shared → Prop} {pins : List (Addr × Obj)} {s : Shared} {σ : St} {H : Hp} {x : Str} {u : Value} {pos : Pos} {Q : Value → Shared → Prop} (I : Inv X pins σ H s) (hg : Gl X x) (hm : X.mg x = some u) (h : Q u s)
    (hd : (x == ("__debug__" : Str)) = false := by decide) : wpAny (model X.prog X.w) X.A (eval (.Name x pos) X.env) Q E s :=
  Calls.Name_function_global I.ok.kind hg (Calls.loadGlobal_global (by rw [I.ok.glob]; exact I.mod.glob.keeps I.bk) hm h) hd
theorem ld_blt {E : Value → Shared → Prop} {pins : List (Addr × Obj)} {s : Shared} {σ : St} {H : Hp} {x : Str} {u : Value} {pos : Pos} {Q : Value → Shared → Prop} (I : Inv X pins σ H s) (hg : Gl X x) (hm : X.mg x = none) (hv : bootBuiltins x = some u) (h : Q u s)
    (hn : x ≠ "__name__" := by decide) (hd : (x == ("__debug__" : Str)) = false := by decide) : wpAny (model X.prog X.w) X.A (eval (.Name x pos) X.env) Q E s := by
  obtain ⟨mb, h1, h2⟩ := I.mod.blt
  exact Calls.Name_function_global I.ok.kind hg (Calls.loadGlobal_builtin (by rw [I.ok.glob]; exact I.mod.glob.keeps I.bk) hm (by rw [I.ok.blt]; exact h1.keeps I.bk) ((h2 x hn).trans hv) h) hd
/-- a module's constant, a class, a function, as a value -/
theorem pe_glob {x : Str} {v : V} {u : Value} {pos : Pos} (hg : Gl X x) (hm : X.mg x = some u) (r : RelV v u) (hd : (x == ("__debug__" : Str)) = false := by decide) : PE X (.Name x pos) (tC v) :=
  fun _ _ _ H _ I h => ld_glob I hg hm ⟨v, H, I, r, h⟩ hd
theorem pe_bltn {x : Str} {v : V} {u : Value} {pos : Pos} (hg : Gl X x) (hm : X.mg x = none) (hv : bootBuiltins x = some u) (r : RelV v u) (hn : x ≠ "__name__" := by decide) (hd : (x == ("__debug__" : Str)) = false := by decide) : PE X (.Name x pos) (tC v) :=
  fun _ _ _ H _ I h => ld_blt I hg hm hv ⟨v, H, I, r, h⟩ hn hd

/-! ### arithmetic -/
/-- two ints -/
def t2I (ta tb : TE) (k : Int → Int → Hp → Prop) : St → Hp → Prop := fun σ H => ta σ H fun x H1 => tb σ H1 fun y H2 => ∃ i j, x = .int i ∧ y = .int j ∧ k i j H2
def tAdd (ta tb : TE) : TE := fun σ H Q => t2I ta tb (fun i j H2 => Q (.int (i + j)) H2) σ H
def tSub (ta tb : TE) : TE := fun σ H Q => t2I ta tb (fun i j H2 => Q (.int (i - j)) H2) σ H
/-- the left factor below 2^64 -/
def tMul (ta tb : TE) : TE := fun σ H Q => t2I ta tb (fun i j H2 => (-(2 ^ 64) < i ∧ i < 2 ^ 64) ∧ Q (.int (i * j)) H2) σ H
variable {a b : Expr} {ta tb : TE} {pos : Pos}
theorem pe_add (ha : PE X a ta) (hb : PE X b tb) : PE X (.BinOp a .Add b pos) (tAdd ta tb) := by
  intro pins s σ H Q I h
  refine wpAny_BinOp (bin ha hb I h fun v u s2 x y H2 I2 rx ry q => ?_)
  obtain ⟨i, j, rfl, rfl, q⟩ := q
  obtain ⟨t, rfl⟩ := rx
  obtain ⟨t', rfl⟩ := ry
  exact add_int ⟨.int _, H2, I2.tok _, ⟨_, rfl⟩, q⟩
theorem pe_sub (ha : PE X a ta) (hb : PE X b tb) : PE X (.BinOp a .Sub b pos) (tSub ta tb) := by
  intro pins s σ H Q I h
  refine wpAny_BinOp (bin ha hb I h fun v u s2 x y H2 I2 rx ry q => ?_)
  obtain ⟨i, j, rfl, rfl, q⟩ := q
  obtain ⟨t, rfl⟩ := rx
  obtain ⟨t', rfl⟩ := ry
  exact sub_int ⟨.int _, H2, I2.tok _, ⟨_, rfl⟩, q⟩
theorem pe_mul (ha : PE X a ta) (hb : PE X b tb) : PE X (.BinOp a .Mult b pos) (tMul ta tb) := by
  intro pins s σ H Q I h
  refine wpAny_BinOp (bin ha hb I h fun v u s2 x y H2 I2 rx ry q => ?_)
  obtain ⟨i, j, rfl, rfl, ⟨q1, q2⟩, q⟩ := q
  obtain ⟨t, rfl⟩ := rx
  obtain ⟨t', rfl⟩ := ry
  exact mul_int ⟨.int _, H2, I2.tok _, ⟨_, rfl⟩, q⟩ (.of_left (intBits_le_64 q1 q2))

/-! ### comparisons -/
def PC (X : Cx) (op : CmpOp) (a b : Expr) (t : TE) : Prop :=
  ∀ (pins : List (Addr × Obj)) (s : Shared) (σ : St) (H : Hp) (Q : VK), Inv X pins σ H s → t σ H Q →
    wpAny (model X.prog X.w) X.A (eval a X.env) (fun v s₁ => wpAny (model X.prog X.w) X.A (eval b X.env) (fun u s₂ => wpAny (model X.prog X.w) X.A (compareOp op v u) (EP X pins σ Q) X.xe s₂) X.xe s₁) X.xe s
theorem nobehind (b : Expr) {op : CmpOp} (h : op ≠ .In) (h2 : op ≠ .NotIn) : behindInMarks op b = false := by
  have e1 : (op == CmpOp.In) = false := by cases op <;> first | rfl | exact absurd rfl h
  have e2 : (op == CmpOp.NotIn) = false := by cases op <;> first | rfl | exact absurd rfl h2
  cases b <;> simp [behindInMarks, e1, e2]
def tCmp (p : Int → Int → Bool) (ta tb : TE) : TE := fun σ H Q => t2I ta tb (fun i j H2 => Q (.bl (p i j)) H2) σ H
abbrev tLt : TE → TE → TE := tCmp fun i j => decide (i < j)
abbrev tLe : TE → TE → TE := tCmp fun i j => decide (i ≤ j)
abbrev tGt : TE → TE → TE := tCmp fun i j => decide (j < i)
abbrev tGe : TE → TE → TE := tCmp fun i j => decide (j ≤ i)
abbrev tEqI : TE → TE → TE := tCmp fun i j => decide (i = j)
abbrev tNeI : TE → TE → TE := tCmp fun i j => !decide (i = j)
/-- a comparison of two ints, by its rule -/
theorem pc_int {op : CmpOp} {p : Int → Int → Bool} (ha : PE X a ta) (hb : PE X b tb)
    (rule : ∀ (i j : Int) (t u : Tok) (Q : Value → Shared → Prop) (s : Shared), Q (.bool (p i j)) s → wpAny (model X.prog X.w) X.A (compareOp op (.int i t) (.int j u)) Q X.xe s) : PC X op a b (tCmp p ta tb) := by
  intro pins s σ H Q I h
  refine bin ha hb I h fun v u s2 x y H2 I2 rx ry q => ?_
  obtain ⟨i, j, rfl, rfl, q⟩ := q
  obtain ⟨t, rfl⟩ := rx
  obtain ⟨t', rfl⟩ := ry
  exact rule i j t t' _ s2 ⟨.bl _, H2, I2, rfl, q⟩
theorem pc_lt (ha : PE X a ta) (hb : PE X b tb) : PC X .Lt a b (tLt ta tb) := pc_int ha hb fun _ _ _ _ _ _ h => lt_int h
theorem pc_le (ha : PE X a ta) (hb : PE X b tb) : PC X .LtE a b (tLe ta tb) := pc_int ha hb fun _ _ _ _ _ _ h => le_int h
theorem pc_gt (ha : PE X a ta) (hb : PE X b tb) : PC X .Gt a b (tGt ta tb) := pc_int ha hb fun _ _ _ _ _ _ h => gt_int h
theorem pc_ge (ha : PE X a ta) (hb : PE X b tb) : PC X .GtE a b (tGe ta tb) := pc_int ha hb fun _ _ _ _ _ _ h => ge_int h
theorem pc_eqI (ha : PE X a ta) (hb : PE X b tb) : PC X .Eq a b (tEqI ta tb) := pc_int ha hb fun _ _ _ _ _ _ h => eq_int (by rw [Bool.beq_eq_decide_eq]; exact h)
theorem pc_neI (ha : PE X a ta) (hb : PE X b tb) : PC X .NotEq a b (tNeI ta tb) := pc_int ha hb fun _ _ _ _ _ _ h => ne_int (by rw [bne, Bool.beq_eq_decide_eq]; exact h)
/-- is None -/
def tIsN (ta : TE) : TE := fun σ H Q => ta σ H fun x H1 => Q (.bl (decide (x = .non))) H1
def tNotN (ta : TE) : TE := fun σ H Q => ta σ H fun x H1 => Q (.bl (!decide (x = .non))) H1
theorem RelV.none_iff {x : V} {v : Value} (r : RelV x v) : (v == Value.none) = decide (x = .non) := by
  cases x with
  | non => cases r; rfl
  | bl _ => cases r; rfl
  | int _ => obtain ⟨t, rfl⟩ := r; rfl
  | str _ => obtain ⟨t, rfl⟩ := r; rfl
  | byt _ => obtain ⟨t, rfl⟩ := r; rfl
  | flt _ => obtain ⟨t, rfl⟩ := r; rfl
  | ref _ => cases r; rfl
  | ty _ => cases r; rfl
theorem pc_isN {j pos'} (ha : PE X a ta) : PC X .Is a (.Constant .none j pos') (tIsN ta) := by
  intro pins s σ H Q I h
  refine thn (ha pins s σ H _ I h) fun v s1 ⟨x, H1, I1, r1, q1⟩ => ?_
  exact Constant_none (is_none_gen ⟨.bl _, H1, I1, by rw [r1.none_iff]; rfl, q1⟩)
theorem pc_notN {j pos'} (ha : PE X a ta) : PC X .IsNot a (.Constant .none j pos') (tNotN ta) := by
  intro pins s σ H Q I h
  refine thn (ha pins s σ H _ I h) fun v s1 ⟨x, H1, I1, r1, q1⟩ => ?_
  exact Constant_none (isnot_none_gen ⟨.bl _, H1, I1, by rw [r1.none_iff]; rfl, q1⟩)
/-- a comparison as a value, as a test -/
def tB (t : TE) : TT := fun σ H Q => t σ H fun x H1 => ∃ c, x = .bl c ∧ Q c H1
theorem pe_cmp {op : CmpOp} {t : TE} (h : PC X op a b t) (h1 : behindInMarks op b = false := by first | exact nobehind _ (by decide) (by decide) | rfl) : PE X (.Compare a [op] [b] pos) t := fun pins s σ H Q I hw => wpAny_Compare1 (h pins s σ H Q I hw) h1
theorem pt_cmp {op : CmpOp} {t : TE} (h : PC X op a b t) (h1 : behindInMarks op b = false := by first | exact nobehind _ (by decide) (by decide) | rfl) : PT X (.Compare a [op] [b] pos) (tB t) := by
  intro pins s σ H Q I hw
  refine wpAny_isTrue_Compare1 (thn (h pins s σ H _ I hw) fun v s1 h1 => thn h1 fun u s2 h2 => thn h2 fun c s3 ⟨x, H1, I1, r1, q1⟩ => ?_) h1
  obtain ⟨d, rfl, q⟩ := q1
  cases r1
  exact wpAny_truthy_bool ⟨H1, I1, q⟩
/-- an expression whose value is a bool, as a test -/
theorem pt_val {e : Expr} {t : TE} (h : PE X e t) (he : ∀ whole, isTrue e X.env whole = (do let v ← whole; standAt e.pos; holding [v] (truthy v)) := by intro _; rfl) : PT X e (tB t) := by
  intro pins s σ H Q I hw
  refine isTrue_plain (thn (h pins s σ H _ I hw) fun v s1 ⟨x, H1, I1, r1, q1⟩ => ?_) (he _)
  obtain ⟨d, rfl, q⟩ := q1
  cases r1
  exact wpAny_truthy_bool ⟨H1, I1, q⟩

/-! ### and, or, not -/
variable {tA tB' : TT} {rest : List Expr}
def tAnd (t u : TT) : TT := fun σ H Q => t σ H fun c H1 => if c = true then u σ H1 Q else Q false H1
def tOr (t u : TT) : TT := fun σ H Q => t σ H fun c H1 => if c = true then Q true H1 else u σ H1 Q
def tNot (t : TT) : TT := fun σ H Q => t σ H fun c H1 => Q (!c) H1
theorem pw_and1 (ha : PT X a tA) : PW X (.BoolOp .And [a] pos) tA := by
  intro wh pins s σ H Q I h
  refine isTrue_and (thn (ha pins s σ H Q I h) fun c s1 e => ?_)
  cases c with
  | true => exact isTrue_and_nil e
  | false => exact e
theorem pw_or1 (ha : PT X a tA) : PW X (.BoolOp .Or [a] pos) tA := by
  intro wh pins s σ H Q I h
  refine isTrue_or (thn (ha pins s σ H Q I h) fun c s1 e => ?_)
  cases c with
  | false => exact isTrue_or_nil e
  | true => exact e
theorem pw_and (ha : PT X a tA) (hb : PW X (.BoolOp .And (b :: rest) pos) tB') : PW X (.BoolOp .And (a :: b :: rest) pos) (tAnd tA tB') := by
  intro wh pins s σ H Q I h
  refine isTrue_and (thn (ha pins s σ H _ I h) fun c s1 ⟨H1, I1, q1⟩ => ?_)
  cases c with
  | true => exact hb wh pins s1 σ H1 Q I1 q1
  | false => exact ⟨H1, I1, q1⟩
theorem pw_or (ha : PT X a tA) (hb : PW X (.BoolOp .Or (b :: rest) pos) tB') : PW X (.BoolOp .Or (a :: b :: rest) pos) (tOr tA tB') := by
  intro wh pins s σ H Q I h
  refine isTrue_or (thn (ha pins s σ H _ I h) fun c s1 ⟨H1, I1, q1⟩ => ?_)
  cases c with
  | true => exact ⟨H1, I1, q1⟩
  | false => exact hb wh pins s1 σ H1 Q I1 q1
theorem pt_not (ha : PT X a tA) : PT X (.UnaryOp .Not a pos) (tNot tA) := by
  intro pins s σ H Q I h
  exact isTrue_not (ha pins s σ H (fun c H1 => Q (!c) H1) I h)
/-- .. as values (bools) -/
def tAndV (ta tb : TE) : TE := fun σ H Q => ta σ H fun x H1 => ∃ c, x = .bl c ∧ if c = true then tb σ H1 Q else Q (.bl false) H1
def tOrV (ta tb : TE) : TE := fun σ H Q => ta σ H fun x H1 => ∃ c, x = .bl c ∧ if c = true then Q (.bl true) H1 else tb σ H1 Q
def tNotV (ta : TE) : TE := fun σ H Q => ta σ H fun x H1 => ∃ c, x = .bl c ∧ Q (.bl (!c)) H1
theorem pe_one {op} {t : TE} (h : PE X a t) : PE X (.BoolOp op [a] pos) t := fun pins s σ H Q I hw => BoolOp_one (h pins s σ H Q I hw)
theorem pe_and (ha : PE X a ta) (hb : PE X (.BoolOp .And (b :: rest) pos) tb) : PE X (.BoolOp .And (a :: b :: rest) pos) (tAndV ta tb) := by
  intro pins s σ H Q I h
  refine BoolOp_and (thn (ha pins s σ H _ I h) fun v s1 ⟨x, H1, I1, r1, q1⟩ => ?_)
  obtain ⟨c, rfl, q1⟩ := q1
  cases r1
  refine wpAny_truthy_bool ?_
  cases c with
  | true => exact hb pins s1 σ H1 Q I1 q1
  | false => exact ⟨.bl false, H1, I1, rfl, q1⟩
theorem pe_or (ha : PE X a ta) (hb : PE X (.BoolOp .Or (b :: rest) pos) tb) : PE X (.BoolOp .Or (a :: b :: rest) pos) (tOrV ta tb) := by
  intro pins s σ H Q I h
  refine BoolOp_or (thn (ha pins s σ H _ I h) fun v s1 ⟨x, H1, I1, r1, q1⟩ => ?_)
  obtain ⟨c, rfl, q1⟩ := q1
  cases r1
  refine wpAny_truthy_bool ?_
  cases c with
  | false => exact hb pins s1 σ H1 Q I1 q1
  | true => exact ⟨.bl true, H1, I1, rfl, q1⟩
theorem pe_not (ha : PE X a ta) : PE X (.UnaryOp .Not a pos) (tNotV ta) := by
  intro pins s σ H Q I h
  refine UnaryOp_ (thn (ha pins s σ H _ I h) fun v s1 ⟨x, H1, I1, r1, q1⟩ => ?_)
  obtain ⟨c, rfl, q1⟩ := q1
  cases r1
  exact not_of (wpAny_truthy_bool ⟨.bl (!c), H1, I1, rfl, q1⟩)
/-- a if t else b -/
def tIf (t : TT) (ta tb : TE) : TE := fun σ H Q => t σ H fun c H1 => if c = true then ta σ H1 Q else tb σ H1 Q
theorem pe_ifExp {c : Expr} (hc : PT X c tA) (ha : PE X a ta) (hb : PE X b tb) : PE X (.IfExp c a b pos) (tIf tA ta tb) := by
  intro pins s σ H Q I h
  refine wpAny_IfExp (thn (hc pins s σ H _ I h) fun d s1 ⟨H1, I1, q1⟩ => ?_)
  cases d with
  | true => exact ha pins s1 σ H1 Q I1 q1
  | false => exact hb pins s1 σ H1 Q I1 q1
end
end L2

namespace L2
open PySem PySem.Spec PyProof.Rows

/-! ### a list, a tuple that is read: tracked, frozen, or an object of the module -/
def SqL (K : PySem.W.Frag) (H : Hp) (a : Addr) (xs : List V) : Prop :=
  Rd H a (.lst xs) ∨
    ∃ (o : Obj) (its : Array Value) (n : Nat), K.lookup a = some o ∧ o.cls = .type "list" ∧ o.dict = none ∧ o.data = .seq its n ∧ its.size ≤ sizeLine ∧ Vals xs its.toList
def SqT (K : PySem.W.Frag) (H : Hp) (a : Addr) (xs : List V) : Prop :=
  Rd H a (.tup xs) ∨
    ∃ (o : Obj) (its : Array Value) (n : Nat), K.lookup a = some o ∧ o.cls = .type "tuple" ∧ o.data = .seq its n ∧ its.size ≤ sizeLine ∧ Vals xs its.toList
def absV : Value → Option V
  | .none => some .non
  | .bool b => some (.bl b)
  | .int i _ => some (.int i)
  | .str x _ => some (.str x)
  | .bytes b _ => some (.byt b)
  | .float b _ => some (.flt b)
  | .ref a => some (.ref a)
  | .type n => some (.ty n)
  | _ => none
theorem RelV.abs {x : V} {u : Value} (r : RelV x u) : absV u = some x := by
  cases x with
  | non => cases r; rfl
  | bl _ => cases r; rfl
  | int _ => obtain ⟨t, rfl⟩ := r; rfl
  | str _ => obtain ⟨t, rfl⟩ := r; rfl
  | byt _ => obtain ⟨t, rfl⟩ := r; rfl
  | flt _ => obtain ⟨t, rfl⟩ := r; rfl
  | ref _ => cases r; rfl
  | ty _ => cases r; rfl
theorem RelV.inj {x y : V} {u : Value} (r : RelV x u) (q : RelV y u) : x = y := Option.some.inj (r.abs.symm.trans q.abs)
theorem Vals.inj : ∀ {xs ys : List V} {us : List Value}, Vals xs us → Vals ys us → xs = ys
  | _, _, _, .nil, .nil => rfl
  | _, _, _, .cons r t, .cons r' t' => by rw [r.inj r', Vals.inj t t']
section
variable {X : Cx} {pins : List (Addr × Obj)} {σ : St} {H : Hp} {s : Shared} {a : Addr} {xs ys : List V}
theorem SqL.of {K : PySem.W.Frag} (h : H a = some (.lst xs)) : SqL K H a xs := .inl (.inl h)
theorem SqT.of {K : PySem.W.Frag} (h : H a = some (.tup xs)) : SqT K H a xs := .inl (.inl h)
theorem Inv.list (I : Inv X pins σ H s) (h : SqL X.K H a xs) : ∃ its : List Value, Vals xs its ∧ PlainL s.heap a its.toArray ∧ xs.length ≤ sizeLine := by
  rcases h with h | ⟨o, its, n, hk, hc, hd, hs, hz, r⟩
  · obtain ⟨z, its, n, r, e⟩ := h.ok I.hok
    exact ⟨its, r, ⟨_, n, e, rfl, rfl, rfl⟩, z⟩
  · refine ⟨its.toList, r, ⟨o, n, I.kIn a o hk, hc, hd, by simpa using hs⟩, ?_⟩
    have e := r.length
    simp only [Array.length_toList] at e
    omega
theorem Inv.tuple (I : Inv X pins σ H s) (h : SqT X.K H a xs) : ∃ its : List Value, Vals xs its ∧ IsTup s.heap a its.toArray ∧ xs.length ≤ sizeLine := by
  rcases h with h | ⟨o, its, n, hk, hc, hs, hz, r⟩
  · obtain ⟨z, its, r, p⟩ := h.ok I.hok
    exact ⟨its, r, p, z⟩
  · refine ⟨its.toList, r, ⟨o, I.kIn a o hk, hc, n, by simpa using hs⟩, ?_⟩
    have e := r.length
    simp only [Array.length_toList] at e
    omega
theorem Inv.list_inj (I : Inv X pins σ H s) (h : SqL X.K H a xs) (h' : SqL X.K H a ys) : xs = ys := by
  obtain ⟨its, r, ⟨o, n, e, _, _, d⟩, _⟩ := I.list h
  obtain ⟨its', r', ⟨o', n', e', _, _, d'⟩, _⟩ := I.list h'
  rw [e] at e'; cases e'
  rw [d] at d'
  injection d' with d1 _
  have : its = its' := by simpa using congrArg Array.toList d1
  subst this
  exact r.inj r'
theorem Inv.tuple_inj (I : Inv X pins σ H s) (h : SqT X.K H a xs) (h' : SqT X.K H a ys) : xs = ys := by
  obtain ⟨its, r, ⟨o, e, _, n, d⟩, _⟩ := I.tuple h
  obtain ⟨its', r', ⟨o', e', _, n', d'⟩, _⟩ := I.tuple h'
  rw [e] at e'; cases e'
  rw [d] at d'
  injection d' with d1 _
  have : its = its' := by simpa using congrArg Array.toList d1
  subst this
  exact r.inj r'
end

/-! ### another wish about exceptions -/
abbrev Cx.wish (X : Cx) (E : Value → Shared → Prop) : Cx := { X with xe := E }
/-- no exception leaves -/
abbrev Cx.nox (X : Cx) : Cx := X.wish fun _ _ => False
theorem Cx.Ok.wish {X : Cx} (ok : X.Ok) (E : Value → Shared → Prop) : (X.wish E).Ok :=
  ⟨ok.mod, ok.kind, ok.glob, ok.blt, ok.above, ok.inj, ok.has, ok.cab, ok.hd, ok.frames, ok.stk, ok.exf, ok.bs, ok.bsz, ok.noex, ok.exfs, ok.funs, ok.frf⟩
theorem Cx.Ok.unwish {X : Cx} {E : Value → Shared → Prop} (ok : (X.wish E).Ok) : X.Ok :=
  ⟨ok.mod, ok.kind, ok.glob, ok.blt, ok.above, ok.inj, ok.has, ok.cab, ok.hd, ok.frames, ok.stk, ok.exf, ok.bs, ok.bsz, ok.noex, ok.exfs, ok.funs, ok.frf⟩
section
variable {X : Cx} {pins : List (Addr × Obj)} {σ : St} {H : Hp} {s : Shared} {E : Value → Shared → Prop}
theorem Inv.wish (I : Inv X pins σ H s) (E : Value → Shared → Prop) : Inv (X.wish E) pins σ H s := ⟨I.ok.wish E, I.os, I.bare, I.base, I.loc, I.cell, I.free, I.freeC, I.pin, I.hok, I.len⟩
theorem Inv.unwish (I : Inv (X.wish E) pins σ H s) : Inv X pins σ H s := ⟨I.ok.unwish, I.os, I.bare, I.base, I.loc, I.cell, I.free, I.freeC, I.pin, I.hok, I.len⟩
theorem SP.unwish {D : Ends} {f : Flow} {s' : Shared} (h : SP (X.wish E) pins D f s') : SP X pins D f s' := by
  cases f with
  | next => obtain ⟨σ', H', I, q⟩ := h; exact ⟨σ', H', I.unwish, q⟩
  | brk => obtain ⟨σ', H', I, q⟩ := h; exact ⟨σ', H', I.unwish, q⟩
  | cont => obtain ⟨σ', H', I, q⟩ := h; exact ⟨σ', H', I.unwish, q⟩
  | ret u => obtain ⟨v, σ', H', I, r, q⟩ := h; exact ⟨v, σ', H', I.unwish, r, q⟩
theorem PE.nox {e : Expr} {t : TE} (h : PE X.nox e t) : PE X e t := fun pins s σ H Q I hw =>
  wpAny_mono (h pins s σ H Q (I.wish _) hw) (fun _ _ ⟨v, H', I', r, q⟩ => ⟨v, H', I'.unwish, r, q⟩) fun _ _ z => False.elim z
theorem PT.nox {e : Expr} {t : TT} (h : PT X.nox e t) : PT X e t := fun pins s σ H Q I hw =>
  wpAny_mono (h pins s σ H Q (I.wish _) hw) (fun _ _ ⟨H', I', q⟩ => ⟨H', I'.unwish, q⟩) fun _ _ z => False.elim z
theorem PSs.nox {st : List Stmt} {t : TS} (h : PSs X.nox st t) : PSs X st t := fun pins s σ H D I hw =>
  wpAny_mono (h pins s σ H D (I.wish _) hw) (fun _ _ q => q.unwish) fun _ _ z => False.elim z
end

/-! ### blocks and small statements -/
section
variable {X : Cx} {st : Stmt} {rest : List Stmt} {t u : TS} {e : Expr} {te : TE} {pos : Pos}
def tNext : TS := fun D σ H => D.nx σ H
def tSeq (t u : TS) : TS := fun D σ H => t { D with nx := u D } σ H
theorem pss_nil : PSs X [] tNext := fun _ _ σ H _ I h => wpAny_execs_nil ⟨σ, H, I, h⟩
theorem pss_cons (h1 : PS X st t) (h2 : PSs X rest u) : PSs X (st :: rest) (tSeq t u) := by
  intro pins s σ H D I h
  refine wpAny_execs_cons (thn (h1 pins s σ H { D with nx := u D } I h) fun f s1 q => ?_)
  cases f with
  | next =>
    obtain ⟨σ', H', I', q⟩ := q
    exact h2 pins s1 σ' H' D I' q
  | ret v => exact q
  | brk => exact q
  | cont => exact q
theorem pss_one (h1 : PS X st t) : PSs X [st] t := by
  intro pins s σ H D I h
  refine wpAny_execs_cons (thn (h1 pins s σ H D I h) fun f s1 q => ?_)
  cases f with
  | next => exact wpAny_execs_nil q
  | ret v => exact q
  | brk => exact q
  | cont => exact q
def tBreak : TS := fun D σ H => D.bk σ H
def tCont : TS := fun D σ H => D.ct σ H
theorem ps_pass : PS X (.Pass pos) tNext := fun _ _ σ H _ I h => wpAny_Pass ⟨σ, H, I, h⟩
theorem ps_break : PS X (.Break pos) tBreak := fun _ _ σ H _ I h => wpAny_Break ⟨σ, H, I, h⟩
theorem ps_continue : PS X (.Continue pos) tCont := fun _ _ σ H _ I h => wpAny_Continue ⟨σ, H, I, h⟩
/-- in a def's body nothing is shown -/
theorem Inv.quiet {pins : List (Addr × Obj)} {σ : St} {H : Hp} {s : Shared} (I : Inv X pins σ H s) : interactive X.env = false := by simp [interactive, I.ok.kind]
/-- a docstring -/
theorem ps_doc {x j pos pos'} : PS X (.Expr (.Constant (.str x) j pos) pos') tNext := fun _ s σ H _ I h => wpAny_Expr (Calls.Constant_str (show SP X _ _ .next { s with toks := s.toks + 1 } from ⟨σ, H, I.tok _, h⟩)) I.quiet
/-- an expression whose value is dropped -/
def tDrop (te : TE) : TS := fun D σ H => te σ H fun _ H1 => D.nx σ H1
theorem ps_expr (he : PE X e te) (hs : swapsWith e none pos.line X.env = pure false := by rfl) : PS X (.Expr e pos) (tDrop te) := by
  intro pins s σ H D I h
  exact wpAny_Expr_any (thn (he pins s σ H _ I h) fun v s1 ⟨x, H1, I1, r1, q1⟩ => ⟨σ, H1, I1, q1⟩) I.quiet hs
def tRet (te : TE) : TS := fun D σ H => te σ H D.rt
theorem ps_ret (he : PE X e te) : PS X (.Return (some e) pos) (tRet te) := by
  intro pins s σ H D I h
  exact wpAny_Return_some (thn (he pins s σ H _ I h) fun v s1 ⟨x, H1, I1, r1, q1⟩ => ⟨x, σ, H1, I1, r1, q1⟩)
def tRetN : TS := fun D _ H => D.rt .non H
theorem ps_retN : PS X (.Return none pos) tRetN := fun _ _ σ H _ I h => wpAny_Return_none ⟨.non, σ, H, I, rfl, h⟩
def tIfS (c : TT) (t u : TS) : TS := fun D σ H => c σ H fun b H1 => if b = true then t D σ H1 else u D σ H1
theorem ps_if {c : Expr} {a b : List Stmt} {tc : TT} (hc : PT X c tc) (ha : PSs X a t) (hb : PSs X b u) : PS X (.If c a b pos) (tIfS tc t u) := by
  intro pins s σ H D I h
  refine wpAny_If (thn (hc pins s σ H _ I h) fun d s1 ⟨H1, I1, q1⟩ => ?_)
  cases d with
  | true => exact ha pins s1 σ H1 D I1 q1
  | false => exact hb pins s1 σ H1 D I1 q1
/-- code that the proof never comes to -/
def tNever : TS := fun _ _ _ => False
theorem ps_never : PS X st tNever := fun _ _ _ _ _ _ h => h.elim
theorem pss_never {sts : List Stmt} : PSs X sts tNever := fun _ _ _ _ _ _ h => h.elim
end

/-! ### targets -/
abbrev TG := V → St → Hp → (St → Hp → Prop) → Prop
abbrev TGs := List V → St → Hp → (St → Hp → Prop) → Prop
def PG (X : Cx) (target : Expr) (t : TG) : Prop :=
  ∀ (pins : List (Addr × Obj)) (s : Shared) (σ : St) (H : Hp) (v : V) (u : Value) (Q : St → Hp → Prop), Inv X pins σ H s → RelV v u → t v σ H Q →
    wpAny (model X.prog X.w) X.A (assign target X.env u) (fun _ s' => ∃ σ' H', Inv X pins σ' H' s' ∧ Q σ' H') X.xe s
/-- several targets, one after another -/
def PGs (X : Cx) (ts : List Expr) (t : TGs) : Prop :=
  ∀ (pins : List (Addr × Obj)) (s : Shared) (σ : St) (H : Hp) (vs : List V) (us : List Value) (Q : St → Hp → Prop), Inv X pins σ H s → Vals vs us → t vs σ H Q →
    wpAny (model X.prog X.w) X.A (assignInOrder ((assignEach ts X.env).map (·.2)) us) (fun _ s' => ∃ σ' H', Inv X pins σ' H' s' ∧ Q σ' H') X.xe s
/-- o[i] = v, by values -/
abbrev TSet := V → V → V → Hp → (Hp → Prop) → Prop
def PSet (X : Cx) (t : TSet) : Prop :=
  ∀ (pins : List (Addr × Obj)) (s : Shared) (σ : St) (H : Hp) (o i v : V) (ov iv u : Value) (Q : Hp → Prop), Inv X pins σ H s → RelV o ov → RelV i iv → RelV v u → t o i v H Q →
    wpAny (model X.prog X.w) X.A (setItem ov iv u) (fun _ s' => ∃ H', Inv X pins σ H' s' ∧ Q H') X.xe s
/-- a op= b, by values -/
abbrev TIp := V → V → Hp → VK → Prop
def PIp (X : Cx) (op : Operator) (t : TIp) : Prop :=
  ∀ (pins : List (Addr × Obj)) (s : Shared) (σ : St) (H : Hp) (x y : V) (v u : Value) (Q : VK), Inv X pins σ H s → RelV x v → RelV y u → t x y H Q →
    wpAny (model X.prog X.w) X.A (inplaceOp op v u) (EP X pins σ Q) X.xe s
section
variable {X : Cx} {pos : Pos}
def gName (i : Nat) : TG := fun v σ H Q => Q (σ.set i (some v)) H
theorem pg_name {i : Nat} {x : Str} (hN : X.N.Nodup) (hi : X.N[i]? = some x) (hx : Loc X.env.scope x) (hf : X.fn x = true ∨ X.env.scope.names.lookup x = some .local := by first | exact .inl rfl | exact .inr rfl | assumption) : PG X (.Name x pos) (gName i) := by
  intro pins s σ H v u Q I r h
  exact wpAny_assign_Name (store_ok I hN hi hx r (fun s' I' => ⟨_, H, I', h⟩) hf)
def gNil : TGs := fun vs σ H Q => vs = [] ∧ Q σ H
def gCons (t : TG) (u : TGs) : TGs := fun vs σ H Q => ∃ v r, vs = v :: r ∧ t v σ H fun σ' H' => u r σ' H' Q
theorem pgs_nil : PGs X [] gNil := by
  intro pins s σ H vs us Q I r h
  obtain ⟨e, h⟩ := h
  subst e
  cases r
  exact assignInOrder_nil ⟨σ, H, I, h⟩
theorem pgs_cons {e : Expr} {es : List Expr} {t : TG} {u : TGs} (h1 : PG X e t) (h2 : PGs X es u)
    (hs : (assignEach (e :: es) X.env).map (·.2) = assign e X.env :: (assignEach es X.env).map (·.2) := by rfl) : PGs X (e :: es) (gCons t u) := by
  intro pins s σ H vs us Q I r h
  obtain ⟨v, vr, e1, h⟩ := h
  subst e1
  cases r with
  | cons r rr =>
    rw [hs]
    refine assignInOrder_cons (thn (h1 pins s σ H _ _ _ I r h) fun _ s1 ⟨σ1, H1, I1, q1⟩ => ?_)
    exact h2 pins s1 σ1 H1 _ _ Q I1 rr q1
/-- (a, b, ..) = a tuple of that length -/
def gTup (K : PySem.W.Frag) (n : Nat) (t : TGs) : TG := fun v σ H Q => ∃ a xs, v = .ref a ∧ SqT K H a xs ∧ xs.length = n ∧ t xs σ H Q
theorem pg_tup {es : List Expr} {k : Nat} {t : TGs} {n : Nat} (hc : X.calm = true) (h : PGs X es t)
    (hn : (assignEach es X.env).length = n := by rfl) (hst : (assignEach es X.env).findIdx? (·.1) = none := by rfl) : PG X (.Tuple es k pos) (gTup X.K n t) := by
  intro pins s σ H v u Q I r hw
  obtain ⟨a, xs, e1, hq, hl, hw⟩ := hw
  subst e1
  cases r
  obtain ⟨its, rv, ht, hz⟩ := I.tuple hq
  refine assign_Tuple_tuple (I.ok.hd hc) ht (by simp [hn, ← hl, rv.length]) hst fun h' hx => ?_
  have I1 : Inv X pins σ H { s with heap := h' } := I.kept (t' := s.toks) fun b o e => hx b o (Nat.ne_of_lt (Heap.lt_size e)) e
  exact h pins _ σ H xs _ Q I1 (by simpa using rv) hw
/-- o[i] = .. -/
def gSub (to ti : TE) (t : TSet) : TG := fun v σ H Q => to σ H fun o H1 => ti σ H1 fun i H2 => t o i v H2 fun H3 => Q σ H3
theorem pg_sub {o i : Expr} {to ti : TE} {t : TSet} (ho : PE X o to) (hi : PE X i ti) (hs : PSet X t)
    (ha : ∀ v, assign (.Subscript o i pos) X.env v = (do
      let ov ← holding [v] (eval o X.env)
      let iv ← holding [v, ov] (eval i X.env)
      standAt pos
      holding [v, ov, iv] (setItem ov iv v)
      release [v, ov, iv] []) := by intro _; rfl) : PG X (.Subscript o i pos) (gSub to ti t) := by
  intro pins s σ H v u Q I r h
  rw [ha]
  refine wpAny_bind (wpAny_holding (thn (ho pins s σ H _ I h) fun ov s1 ⟨x, H1, I1, r1, q1⟩ => ?_))
  refine wpAny_bind (wpAny_holding (thn (hi pins s1 σ H1 _ I1 q1) fun iv s2 ⟨y, H2, I2, r2, q2⟩ => ?_))
  refine wpAny_bind (wpAny_standAt (wpAny_bind (wpAny_holding (thn (hs pins s2 σ H2 x y v ov iv u _ I2 r1 r2 r q2) fun _ s3 ⟨H3, I3, q3⟩ => ?_))))
  exact wpAny_release ⟨σ, H3, I3, q3⟩
/-- target = value -/
def tAsg (te : TE) (g : TG) : TS := fun D σ H => te σ H fun x H1 => g x σ H1 D.nx
theorem ps_asg {tg e : Expr} {te : TE} {g : TG} (he : PE X e te) (hg : PG X tg g) (hs : swapsWithSole [tg] e pos.line X.env = pure false := by rfl) (hw : swappedStores [tg] e X.env = pure none := by rfl)
    (h1 : (assignEach [tg] X.env).map (·.2) = [assign tg X.env] := by rfl) : PS X (.Assign [tg] e pos) (tAsg te g) := by
  intro pins s σ H D I h
  refine wpAny_Assign_stores (thn (he pins s σ H _ I h) fun v s1 ⟨x, H1, I1, r1, q1⟩ => ?_) hs hw
  rw [h1]
  exact thn (hg pins s1 σ H1 x v _ I1 r1 q1) fun _ s2 q => q
/-- name = value -/
theorem ps_set {i : Nat} {x : Str} {e : Expr} {te : TE} {pos' : Pos} (hN : X.N.Nodup) (hi : X.N[i]? = some x) (hx : Loc X.env.scope x) (he : PE X e te) (hs : swapsWith e (some (.Name x pos')) pos.line X.env = pure false := by rfl) (hf : X.fn x = true ∨ X.env.scope.names.lookup x = some .local := by first | exact .inl rfl | exact .inr rfl | assumption) :
    PS X (.Assign [.Name x pos'] e pos) (tAsg te (gName i)) := by
  intro pins s σ H D I h
  refine wpAny_Assign_Name (thn (he pins s σ H _ I h) fun v s1 ⟨y, H1, I1, r1, q1⟩ => ?_) hs
  exact store_ok I1 hN hi hx r1 (fun s2 I2 => ⟨_, H1, I2, q1⟩) hf
/-- a, b = x, y with plain local names: stored from the right; the pair itself is not tracked (the opening rows as in PyProof/Rows/TupAssign.lean:23) -/
def tPar (i j : Nat) (ta : TA) : TS := fun D σ H => ta σ H fun vs H1 => ∃ v w, vs = [v, w] ∧ D.nx ((σ.set i (some v)).set j (some w)) H1
theorem ps_par {i j : Nat} {x y : Str} {a b : Expr} {ta : TA} {px py pt : Pos} {kt k2 pt2} (hc : X.calm = true) (hN : X.N.Nodup) (hi : X.N[i]? = some x) (hj : X.N[j]? = some y) (hij : i ≠ j)
    (hx : X.env.scope.names.lookup x = some .local) (hy : X.env.scope.names.lookup y = some .local) (ha : PA X [a, b] ta)
    (hw : swappedStores [.Tuple [.Name x px, .Name y py] kt pt] (.Tuple [a, b] k2 pt2) X.env = pure (some [x, y]))
    (hs : swapsWithSole [.Tuple [.Name x px, .Name y py] kt pt] (.Tuple [a, b] k2 pt2) pos.line X.env = pure false := by rfl) :
    PS X (.Assign [.Tuple [.Name x px, .Name y py] kt pt] (.Tuple [a, b] k2 pt2) pos) (tPar i j ta) := by
  intro pins s σ H D I h
  rw [exec_Assign_arm]
  refine wpAny_bind (wpAny_standAt ?_)
  rw [hs]
  refine wpAny_bind (wpAny_pure ?_)
  rw [if_neg (by decide)]
  refine wpAny_bind (Tuple_ (thn (ha _ pins s σ H _ I h) fun us s1 ⟨vs, H1, I1, r1, q1⟩ => ?_))
  obtain ⟨v, w, e1, q1⟩ := q1
  subst e1
  obtain ⟨u1, u2, rfl, rv, rw'⟩ : ∃ u1 u2, us = [u1, u2] ∧ RelV v u1 ∧ RelV w u2 := by
    cases r1 with
    | cons p q =>
      cases q with
      | cons p' q' =>
        cases q'
        exact ⟨_, _, rfl, p, p'⟩
  refine wpAny_newObj_type ?_ (by show 2 ≤ sizeLine; decide)
  have I2 : Inv X pins σ H1 { s1 with heap := s1.heap.push { cls := .type "tuple", data := .seq [u1, u2].toArray } } := I1.kept (t' := s1.toks) fun b o e => Heap.get?_push_of_some _ e
  rw [hw]
  refine wpAny_bind (wpAny_pure ?_)
  show wpAny (model X.prog X.w) X.A (do rule "assign.swapped-stores"; let items ← unpackItems (.ref s1.heap.objs.size) 2 none; assignInOrder [fun v => bindName X.env y v, fun v => bindName X.env x v] items.reverse; pure Flow.next) _ _ _
  refine wpAny_bind (wpAny_rule (wpAny_bind (unpackItems_tuple (items := #[u1, u2]) (I.ok.hd hc) (IsTup.new s1.heap _) fun h' hx' => ?_)))
  have I3 := I2.kept (h' := h') (t' := s1.toks) fun b o e => hx' b o (Nat.ne_of_lt (Heap.lt_size e)) e
  show wpAny _ _ (assignInOrder [fun v => bindName X.env y v, fun v => bindName X.env x v] [u2, u1] >>= fun _ => pure Flow.next) _ _ _
  refine wpAny_bind (assignInOrder_cons (wpAny_bindName (store_ok I3 hN hj (.inl hy) rw' (fun s2 I4 => ?_) (.inr hy))))
  refine assignInOrder_cons (wpAny_bindName (store_ok I4 hN hi (.inl hx) rv (fun s3 I5 => assignInOrder_nil (wpAny_pure ?_)) (.inr hx)))
  rw [List.set_comm _ _ (Ne.symm hij)] at I5
  exact ⟨_, H1, I5, q1⟩
/-- name op= e -/
def tAug (i : Nat) (te : TE) (ti : TIp) : TS := fun D σ H => ∃ x, σ[i]? = some (some x) ∧ te σ H fun y H1 => ti x y H1 fun z H2 => D.nx (σ.set i (some z)) H2
theorem ps_aug {i : Nat} {x : Str} {e : Expr} {te : TE} {op : Operator} {ti : TIp} {pos' : Pos} (hN : X.N.Nodup) (hi : X.N[i]? = some x) (hx : Loc X.env.scope x) (he : PE X e te) (ho : PIp X op ti) (hf : X.fn x = true ∨ X.env.scope.names.lookup x = some .local := by first | exact .inl rfl | exact .inr rfl | assumption) :
    PS X (.AugAssign (.Name x pos') op e pos) (tAug i te ti) := by
  intro pins s σ H D I h
  obtain ⟨v, e1, h⟩ := h
  obtain ⟨m, hn, hl⟩ := I.loc
  have vis : Vis X.env.scope x := by rcases hx with k | k; exact .inl k; exact .inr (.inl k)
  obtain ⟨u, r, l⟩ := hl i x v hi e1 vis
  refine wpAny_AugAssign_Name ?_
  have go : wpAny (model X.prog X.w) X.A (eval e X.env) (fun w s₂ => wpAny (model X.prog X.w) X.A (inplaceOp op u w) (fun r s₃ => wpAny (model X.prog X.w) X.A (storeName X.env x r) (fun _ => SP X pins D .next) X.xe s₃) X.xe s₂) X.xe s := by
    refine thn (he pins s σ H _ I h) fun w s1 ⟨y, H1, I1, r1, q1⟩ => ?_
    refine thn (ho pins s1 σ H1 v y u w _ I1 r r1 q1) fun z s2 ⟨zv, H2, I2, r2, q2⟩ => ?_
    exact store_ok I2 hN hi hx r2 (fun s3 I3 => ⟨_, H2, I3, q2⟩) hf
  rcases l with ⟨hk, hm⟩ | ⟨hk, c, hc, hcell⟩
  · exact wpAny_loadName_local I.ok.kind hk hn hm go
  · rcases hk with hk | hk
    · exact wpAny_loadName_cell I.ok.kind hk hc hcell go
    · rcases hx with k | k
      · have : X.env.scope.names.lookup x = some .free := hk
        rw [k] at this; cases this
      · have : X.env.scope.names.lookup x = some .free := hk
        rw [k] at this; cases this
/-- o[i] op= e -/
def tAugS (to ti te : TE) (tget : V → V → Hp → VK → Prop) (tip : TIp) (tset : TSet) : TS := fun D σ H => to σ H fun o H1 => ti σ H1 fun i H2 => tget o i H2 fun x H3 => te σ H3 fun y H4 => tip x y H4 fun z H5 => tset o i z H5 fun H6 => D.nx σ H6
/-- o[i], by values -/
def PGet (X : Cx) (t : V → V → Hp → VK → Prop) : Prop :=
  ∀ (pins : List (Addr × Obj)) (s : Shared) (σ : St) (H : Hp) (o i : V) (ov iv : Value) (Q : VK), Inv X pins σ H s → RelV o ov → RelV i iv → t o i H Q →
    wpAny (model X.prog X.w) X.A (getItem ov iv) (EP X pins σ Q) X.xe s
theorem ps_augS {o i e : Expr} {to ti te : TE} {tget : V → V → Hp → VK → Prop} {tip : TIp} {tset : TSet} {op : Operator} {tpos : Pos} (ho : PE X o to) (hi : PE X i ti) (hg : PGet X tget) (he : PE X e te) (hp : PIp X op tip) (hs : PSet X tset)
    (ha : ∀ ov iv new, augStore i ov iv new = (do holding [new, ov, iv] (setItem ov iv new); release [new, ov, iv] []; pure .next) := by intros; rfl) : PS X (.AugAssign (.Subscript o i tpos) op e pos) (tAugS to ti te tget tip tset) := by
  intro pins s σ H D I h
  refine wpAny_AugAssign_SubscriptAny (thn (ho pins s σ H _ I h) fun ov s1 ⟨x1, H1, I1, r1, q1⟩ => ?_) ha
  refine thn (hi pins s1 σ H1 _ I1 q1) fun iv s2 ⟨x2, H2, I2, r2, q2⟩ => ?_
  refine thn (hg pins s2 σ H2 x1 x2 ov iv _ I2 r1 r2 q2) fun old s3 ⟨x3, H3, I3, r3, q3⟩ => ?_
  refine thn (he pins s3 σ H3 _ I3 q3) fun v s4 ⟨x4, H4, I4, r4, q4⟩ => ?_
  refine thn (hp pins s4 σ H4 x3 x4 old v _ I4 r3 r4 q4) fun new s5 ⟨x5, H5, I5, r5, q5⟩ => ?_
  exact thn (hs pins s5 σ H5 x1 x2 x5 ov iv new _ I5 r1 r2 r5 q5) fun _ s6 ⟨H6, I6, q6⟩ => ⟨σ, H6, I6, q6⟩
/-- ints -/
def ipI (f : Int → Int → Int) : TIp := fun x y H Q => ∃ i j, x = .int i ∧ y = .int j ∧ Q (.int (f i j)) H
theorem ip_add : PIp X .Add (ipI fun i j => i + j) := by
  intro pins s σ H x y v u Q I r1 r2 h
  obtain ⟨i, j, e1, e2, q⟩ := h
  subst e1; subst e2
  obtain ⟨t, rfl⟩ := r1
  obtain ⟨t', rfl⟩ := r2
  exact iadd_int ⟨.int _, H, I.tok _, ⟨_, rfl⟩, q⟩
theorem ip_sub : PIp X .Sub (ipI fun i j => i - j) := by
  intro pins s σ H x y v u Q I r1 r2 h
  obtain ⟨i, j, e1, e2, q⟩ := h
  subst e1; subst e2
  obtain ⟨t, rfl⟩ := r1
  obtain ⟨t', rfl⟩ := r2
  exact isub_int ⟨.int _, H, I.tok _, ⟨_, rfl⟩, q⟩
end

/-! ### while -/
section
variable {X : Cx} {pos : Pos}
/-- the invariant W with its measure -/
def tWhile (c : TT) (tb : TS) : TS := fun D σ H => ∃ W : Nat → St → Hp → Prop, (∃ m, W m σ H) ∧ ∀ m σ H, W m σ H →
  c σ H fun b H1 => if b = true then ∃ N : St → Hp → Prop, (∀ σ' H', N σ' H' → ∃ m', m' < m ∧ W m' σ' H') ∧ tb { D with nx := N, ct := N, bk := D.nx } σ H1 else D.nx σ H1
theorem ps_while {c : Expr} {body : List Stmt} {tc : TT} {tb : TS} (hp : PassesOwn (model X.prog X.w) X.A X.env X.xe) (hc : PT X c tc) (hb : PSs X body tb) : PS X (.While c body [] pos) (tWhile tc tb) := by
  intro pins s σ H D I h
  obtain ⟨W, ⟨m0, w0⟩, turn⟩ := h
  refine wpAny_While (codeAny_whileLoop (fun n s' => ∃ σ' H', Inv X pins σ' H' s' ∧ W n σ' H') ?_ m0 ⟨σ, H, I, w0⟩)
  rintro n s1 ⟨σ1, H1, I1, w1⟩
  refine wpAny_passesOwn hp (thn (hc pins s1 σ1 H1 _ I1 (turn n σ1 H1 w1)) fun b s2 ⟨H2, I2, q2⟩ => ?_)
  cases b with
  | true =>
    obtain ⟨N, hN, q2⟩ := q2
    rw [if_pos rfl]
    refine wpAny_passesOwn hp (thn (hb pins s2 σ1 H2 _ I2 q2) fun f s3 q3 => ?_)
    cases f with
    | next =>
      obtain ⟨σ3, H3, I3, n3⟩ := q3
      obtain ⟨m', hm, w3⟩ := hN σ3 H3 n3
      exact ⟨m', hm, σ3, H3, I3, w3⟩
    | cont =>
      obtain ⟨σ3, H3, I3, n3⟩ := q3
      obtain ⟨m', hm, w3⟩ := hN σ3 H3 n3
      exact ⟨m', hm, σ3, H3, I3, w3⟩
    | brk => exact q3
    | ret v => exact q3
  | false =>
    rw [if_neg Bool.false_ne_true]
    exact wpAny_execs_nil ⟨σ1, H2, I2, q2⟩
end

/-! ### what a loop or a comprehension walks -/
/-- at turn i: it yields x (the heap may grow), or it stops -/
structure It where
  go : Nat → Hp → Prop
  yld : Nat → Hp → V → Hp → Prop
  stop : Nat → Hp → Prop
/-- the iterator's own objects may turn: they are not the frame's, not pinned, younger than the entry (or a comprehension's own) -/
def FpOk (X : Cx) (pins : List (Addr × Obj)) (H : Hp) (b : Addr) : Prop :=
  H b = none ∧ b ≠ X.env.locals ∧ b ∉ X.fs ∧ (b ∈ X.ex ∨ X.s₀.heap.objs.size ≤ b) ∧ (∀ x c, X.env.cells.lookup x = some c → c ≠ b) ∧ ∀ p ∈ X.pn ++ pins, p.1 ≠ b
theorem Inv.fpOk {X : Cx} {pins : List (Addr × Obj)} {σ : St} {H H' : Hp} {s : Shared} {b : Addr} (I : Inv X pins σ H s) (hb : s.heap.objs.size ≤ b) (hn : H' b = none) : FpOk X pins H' b := by
  refine ⟨hn, Nat.ne_of_gt (Nat.lt_of_lt_of_le I.lt hb), I.nofs hb, .inr (Nat.le_trans I.sz hb), fun x c e z => ?_, fun p hp z => ?_⟩
  · obtain ⟨v, q⟩ := I.cell x c e
    exact absurd (Nat.lt_of_lt_of_le q.lt (by rw [z]; exact hb)) (Nat.lt_irrefl _)
  · exact absurd (Nat.lt_of_lt_of_le (Heap.lt_size (I.pin p hp).1) (by rw [z]; exact hb)) (Nat.lt_irrefl _)
structure Turn (P : Program) (w : World) (K : PySem.W.Frag) (tg : Expr) (J : It) (fp : List Addr) (it : Addr) (tn : Nat → Heap → Prop) : Prop where
  mem : it ∈ fp
  obj : ∀ i h, tn i h → ∀ b ∈ fp, ∃ o, h.get? b = some o ∧ ∀ v, o.data ≠ .cell v
  keep : ∀ i h h', tn i h → (∀ b ∈ fp, ∀ o, h.get? b = some o → h'.get? b = some o) → tn i h'
  item : ∀ (X : Cx), X.prog = P → X.w = w → X.K = K → X.calm = true → ∀ (i : Nat) (pins : List (Addr × Obj)) (s : Shared) (σ : St) (H : Hp) (E : Value → Shared → Prop), Inv X pins σ H s → (∀ b ∈ fp, FpOk X pins H b) → tn i s.heap → J.go i H →
    wpAny (model P w) X.A (pyNext (.ref it)) (fun r s1 => ∃ u, r = some u ∧
      wpAny (model P w) X.A (letOwnedTupleGo tg (.ref it) u) (fun _ s2 => ∃ x H', Inv X pins σ H' s2 ∧ RelV x u ∧ J.yld i H x H' ∧ tn (i + 1) s2.heap ∧ ∀ b ∈ fp, H' b = none) E s1) E s
  done : ∀ (X : Cx), X.prog = P → X.w = w → X.K = K → X.calm = true → ∀ (i : Nat) (pins : List (Addr × Obj)) (s : Shared) (σ : St) (H : Hp) (E : Value → Shared → Prop), Inv X pins σ H s → (∀ b ∈ fp, FpOk X pins H b) → tn i s.heap → J.stop i H →
    wpAny (model P w) X.A (pyNext (.ref it)) (fun r s1 => r = none ∧ Inv X pins σ H s1) E s
  self : ∀ (A : Around) (i : Nat) (s : Shared) (Q : Value → Shared → Prop) (E : Value → Shared → Prop), tn i s.heap → Q (.ref it) s → wpAny (model P w) A (pyIter (.ref it)) Q E s
abbrev TI := St → Hp → (It → Hp → Prop) → Prop
/-- an iterator has come -/
def PIE (X : Cx) (pins : List (Addr × Obj)) (σ : St) (tg : Expr) (R : It → Hp → Prop) (itv : Value) (s2 : Shared) : Prop :=
  ∃ (it : Addr) (fp : List Addr) (tn : Nat → Heap → Prop) (J : It) (H' : Hp), itv = .ref it ∧ Inv X pins σ H' s2 ∧ Turn X.prog X.w X.K tg J fp it tn ∧ tn 0 s2.heap ∧ (∀ b ∈ fp, FpOk X pins H' b) ∧ R J H'
def PI (X : Cx) (tg iter : Expr) (wi : TI) : Prop :=
  ∀ (pins : List (Addr × Obj)) (s : Shared) (σ : St) (H : Hp) (R : It → Hp → Prop), Inv X pins σ H s → wi σ H R →
    wpAny (model X.prog X.w) X.A (eval iter X.env) (fun v s1 => wpAny (model X.prog X.w) X.A (pyIter v) (PIE X pins σ tg R) X.xe s1) X.xe s

/-- the step ahead of the store is nothing for an iterator that keeps no tuple -/
theorem go_of {M : Model} {A : Around} {E : Value → Shared → Prop} {s : Shared} {tg : Expr} {it : Addr} {u : Value} {o : Obj} {n : String} {vs : Array Value} {Q : Unit → Shared → Prop} (ho : s.heap.get? it = some o) (hc : o.cls = .type n) (hd : o.data = .fields vs)
    (hn : ["enumerate", "zip", "dict_itemiterator", "dict_reverseitemiterator", "odict_iterator", "itertools.zip_longest", "itertools.pairwise"].contains n = false) (hQ : Q () s) : wpAny M A (letOwnedTupleGo tg (.ref it) u) Q E s := by
  unfold letOwnedTupleGo
  cases tg <;> first
    | exact wpAny_pure hQ
    | (cases u <;> first
        | exact wpAny_pure hQ
        | (refine wpAny_bind (wpAny_load ho ?_)
           rw [hc, hd]
           show wpAny M A (if (["enumerate", "zip", "dict_itemiterator", "dict_reverseitemiterator", "odict_iterator", "itertools.zip_longest", "itertools.pairwise"].contains n && vs[0]? == some (rawInt _)) = true then _ else _) Q E s
           rw [if_neg (by intro h; rw [hn, Bool.false_and] at h; cases h)]
           exact wpAny_pure hQ))

/-- the list at a, as it stands at each turn (a loop may append to it) -/
def Itl (K : PySem.W.Frag) (a : Addr) : It :=
  ⟨fun i H => ∃ xs x, SqL K H a xs ∧ xs[i]? = some x, fun i H x H' => H' = H ∧ ∀ xs, SqL K H a xs → xs[i]? = some x, fun i H => ∃ xs, SqL K H a xs ∧ xs.length ≤ i⟩
def Itt (K : PySem.W.Frag) (a : Addr) : It :=
  ⟨fun i H => ∃ xs x, SqT K H a xs ∧ xs[i]? = some x, fun i H x H' => H' = H ∧ ∀ xs, SqT K H a xs → xs[i]? = some x, fun i H => ∃ xs, SqT K H a xs ∧ xs.length ≤ i⟩
/-- lo, lo + 1, .. (n of them) -/
def Itr (lo : Int) (n : Nat) : It := ⟨fun i _ => i < n, fun i H x H' => H' = H ∧ x = .int (lo + i), fun i _ => n ≤ i⟩
theorem turn_list {P : Program} {w : World} {K : PySem.W.Frag} {tg : Expr} (a it : Addr) : Turn P w K tg (Itl K a) [it] it (fun i h => h.IsListIter it a i) where
  mem := by simp
  obj := fun i h st b hb => by
    have e : b = it := by simpa using hb
    subst e
    obtain ⟨o, e, c, d⟩ := st
    exact ⟨o, e, fun v z => by rw [d] at z; cases z⟩
  keep := fun i h h' st k => st.at fun o e => k it (by simp) o e
  item := by
    intro X hP hw hK hc i pins s σ H E I hf st hg
    subst hP hw hK
    obtain ⟨xs, x, hq, hx⟩ := hg
    obtain ⟨its, rv, p, hz⟩ := I.list hq
    obtain ⟨u, hu, ru⟩ := rv.get hx
    obtain ⟨f0, f1, f2, f3, f4, f5⟩ := hf it (by simp)
    refine wpAny_pyNext_list_item st p.isList (x := u) (by simpa using hu) fun h' st' sb => ?_
    have I1 : Inv X pins σ H { s with heap := h' } := I.turned (t' := s.toks) (fun b o hb e => (sb.2 b hb).trans e) f0 f1 f3 f4 f5
    obtain ⟨o, e, c, d⟩ := id st'
    exact ⟨u, rfl, go_of (s := { s with heap := h' }) e c d (by decide) ⟨x, H, I1, ru, ⟨rfl, fun ys hy => by rw [I.list_inj hy hq]; exact hx⟩, st', fun b hb => (hf b hb).1⟩⟩
  done := by
    intro X hP hw hK hc i pins s σ H E I hf st hg
    subst hP hw hK
    obtain ⟨xs, hq, hx⟩ := hg
    obtain ⟨its, rv, p, hz⟩ := I.list hq
    obtain ⟨f0, f1, f2, f3, f4, f5⟩ := hf it (by simp)
    have hl := rv.length
    exact wpAny_pyNext_list_end (I.ok.hd hc) st p.isList (by simp; omega) fun h' eb => ⟨rfl, I.turned (t' := s.toks) (fun b o hb e => eb b o hb e) f0 f1 f3 f4 f5⟩
  self := fun _ _ _ _ _ st h => wpAny_pyIter_listiter st h
theorem turn_tuple {P : Program} {w : World} {K : PySem.W.Frag} {tg : Expr} (a it : Addr) : Turn P w K tg (Itt K a) [it] it (fun i h => h.IsTupleIter it a i) where
  mem := by simp
  obj := fun i h st b hb => by
    have e : b = it := by simpa using hb
    subst e
    obtain ⟨o, e, c, d⟩ := st
    exact ⟨o, e, fun v z => by rw [d] at z; cases z⟩
  keep := fun i h h' st k => st.at fun o e => k it (by simp) o e
  item := by
    intro X hP hw hK hc i pins s σ H E I hf st hg
    subst hP hw hK
    obtain ⟨xs, x, hq, hx⟩ := hg
    obtain ⟨its, rv, p, hz⟩ := I.tuple hq
    obtain ⟨u, hu, ru⟩ := rv.get hx
    obtain ⟨f0, f1, f2, f3, f4, f5⟩ := hf it (by simp)
    refine wpAny_pyNext_tuple_item st (show s.heap.IsTuple a its.toArray from p) (x := u) (by simpa using hu) fun h' st' sb => ?_
    have I1 : Inv X pins σ H { s with heap := h' } := I.turned (t' := s.toks) (fun b o hb e => (sb.2 b hb).trans e) f0 f1 f3 f4 f5
    obtain ⟨o, e, c, d⟩ := id st'
    exact ⟨u, rfl, go_of (s := { s with heap := h' }) e c d (by decide) ⟨x, H, I1, ru, ⟨rfl, fun ys hy => by rw [I.tuple_inj hy hq]; exact hx⟩, st', fun b hb => (hf b hb).1⟩⟩
  done := by
    intro X hP hw hK hc i pins s σ H E I hf st hg
    subst hP hw hK
    obtain ⟨xs, hq, hx⟩ := hg
    obtain ⟨its, rv, p, hz⟩ := I.tuple hq
    obtain ⟨f0, f1, f2, f3, f4, f5⟩ := hf it (by simp)
    have hl := rv.length
    exact wpAny_pyNext_tuple_end (I.ok.hd hc) st (show s.heap.IsTuple a its.toArray from p) (by simp; omega) fun h' eb => ⟨rfl, I.turned (t' := s.toks) (fun b o hb e => eb b o hb e) f0 f1 f3 f4 f5⟩
  self := fun _ _ _ _ _ st h => wpAny_pyIter_tupleiter st h
theorem turn_range {P : Program} {w : World} {K : PySem.W.Frag} {tg : Expr} (it : Addr) (lo : Int) (n : Nat) : Turn P w K tg (Itr lo n) [it] it (fun i h => IsRangeIter h it (lo + (i : Nat) * 1) ((n : Int) - (i : Nat)) 1) where
  mem := by simp
  obj := fun i h st b hb => by
    have e : b = it := by simpa using hb
    subst e
    exact ⟨_, st, fun v z => by
      have z' : Data.fields _ = Data.cell v := z
      cases z'⟩
  keep := fun i h h' st k => k it (by simp) _ st
  item := by
    intro X hP hw hK hc i pins s σ H E I hf st hg
    subst hP hw hK
    obtain ⟨f0, f1, f2, f3, f4, f5⟩ := hf it (by simp)
    have W := Walks.range (prog := X.prog) (w := X.w) (I.ok.hd hc) it lo 1 n
    refine W.item i s _ _ hg st fun v h' tk hv st' kk => ?_
    obtain ⟨t, rfl⟩ := hv
    have I1 : Inv X pins σ H { s with heap := h', toks := tk } := I.turned (fun b o hb e => kk b o (by simpa using hb) e) f0 f1 f3 f4 f5
    refine ⟨_, rfl, go_of (s := { s with heap := h', toks := tk }) (n := "range_iterator") st' rfl rfl (by decide) ⟨.int (lo + i), H, I1, ⟨t, ?_⟩, ⟨rfl, rfl⟩, st', fun b hb => (hf b hb).1⟩⟩
    rw [Int.mul_one]
  done := by
    intro X hP hw hK hc i pins s σ H E I hf st hg
    subst hP hw hK
    obtain ⟨f0, f1, f2, f3, f4, f5⟩ := hf it (by simp)
    exact wpAny_pyNext_range_end (I.ok.hd hc) st (by have : n ≤ i := hg; omega) fun h' eb => ⟨rfl, I.turned (t' := s.toks) (fun b o hb e => eb b o hb e) f0 f1 f3 f4 f5⟩
  self := fun _ _ _ _ _ st h => wpAny_pyIter_rangeiter st h
end L2

namespace L2
open PySem PySem.Spec PyProof.Rows
section
variable {X : Cx} {tg : Expr}
def iList (K : PySem.W.Frag) (tl : TE) : TI := fun σ H R => tl σ H fun x H1 => ∃ a, x = .ref a ∧ (∃ xs, SqL K H1 a xs) ∧ R (Itl K a) H1
def iTup (K : PySem.W.Frag) (tl : TE) : TI := fun σ H R => tl σ H fun x H1 => ∃ a, x = .ref a ∧ (∃ xs, SqT K H1 a xs) ∧ R (Itt K a) H1
theorem pi_list {l : Expr} {tl : TE} (hl : PE X l tl) : PI X tg l (iList X.K tl) := by
  intro pins s σ H R I h
  refine thn (hl pins s σ H _ I h) fun v s1 ⟨x, H1, I1, r1, q1⟩ => ?_
  obtain ⟨a, e, ⟨xs, hq⟩, q⟩ := q1
  subst e
  cases r1
  obtain ⟨its, rv, p, hz⟩ := I1.list hq
  refine wpAny_pyIter_list p.isList ?_
  refine ⟨s1.heap.objs.size, [s1.heap.objs.size], _, _, H1, rfl, I1.kept (t' := s1.toks) fun b o e => Heap.get?_push_of_some _ e, turn_list a _, ⟨_, Heap.get?_push_size _ rfl, rfl, rfl⟩, fun b hb => ?_, q⟩
  have e : b = s1.heap.objs.size := by simpa using hb
  subst e
  exact I1.fpOk (Nat.le_refl _) (I1.hok.fresh (Nat.le_refl _))
theorem pi_tup {l : Expr} {tl : TE} (hl : PE X l tl) : PI X tg l (iTup X.K tl) := by
  intro pins s σ H R I h
  refine thn (hl pins s σ H _ I h) fun v s1 ⟨x, H1, I1, r1, q1⟩ => ?_
  obtain ⟨a, e, ⟨xs, hq⟩, q⟩ := q1
  subst e
  cases r1
  obtain ⟨its, rv, p, hz⟩ := I1.tuple hq
  refine wpAny_pyIter_tuple (show s1.heap.IsTuple a its.toArray from p) ?_
  refine ⟨s1.heap.objs.size, [s1.heap.objs.size], _, _, H1, rfl, I1.kept (t' := s1.toks) fun b o e => Heap.get?_push_of_some _ e, turn_tuple a _, ⟨_, Heap.get?_push_size _ rfl, rfl, rfl⟩, fun b hb => ?_, q⟩
  have e : b = s1.heap.objs.size := by simpa using hb
  subst e
  exact I1.fpOk (Nat.le_refl _) (I1.hok.fresh (Nat.le_refl _))
/-- a range object just made, walked -/
theorem range_it {pins : List (Addr × Obj)} {σ : St} {H : Hp} {s : Shared} {R : It → Hp → Prop} {E : Value → Shared → Prop} {lo hi : Int} {t u v : Tok} {tk : Nat} (I : Inv X pins σ H s) (h1 : -(2 ^ 62) ≤ lo) (h2 : lo < 2 ^ 62) (h3 : -(2 ^ 62) ≤ hi) (h4 : hi < 2 ^ 62)
    (q : R (Itr lo (hi - lo).toNat) H) : wpAny (model X.prog X.w) X.A (pyIter (.ref s.heap.objs.size)) (PIE X pins σ tg R) E { s with heap := s.heap.push { cls := .type "range", data := .fields #[.int lo t, .int hi u, .int 1 v] }, toks := tk } := by
  refine wpAny_pyIter_range (IsRange.new ..) (small_one h1 h2 h3 h4) ?_
  have I1 : Inv X pins σ H { s with heap := s.heap.push { cls := .type "range", data := .fields #[.int lo t, .int hi u, .int 1 v] }, toks := tk } := I.kept fun b o e => Heap.get?_push_of_some _ e
  refine ⟨(s.heap.push { cls := .type "range", data := .fields #[.int lo t, .int hi u, .int 1 v] }).objs.size, [(s.heap.push { cls := .type "range", data := .fields #[.int lo t, .int hi u, .int 1 v] }).objs.size], _, _, H, rfl,
    I1.kept (t' := tk) fun b o e => Heap.get?_push_of_some _ e, turn_range _ lo (hi - lo).toNat, ?_, fun b hb => ?_, q⟩
  · have e1 : lo + ((0 : Nat) : Int) * 1 = lo := by simp
    have e2 : (((hi - lo).toNat : Nat) : Int) - ((0 : Nat) : Int) = Builtin.Range.rangeSize lo hi 1 := by rw [rangeSize_one]; split <;> omega
    show IsRangeIter _ _ (lo + ((0 : Nat) : Int) * 1) ((((hi - lo).toNat : Nat) : Int) - ((0 : Nat) : Int)) 1
    rw [e1, e2]
    exact Heap.get?_push_size _ rfl
  · have e : b = (s.heap.push { cls := .type "range", data := .fields #[.int lo t, .int hi u, .int 1 v] }).objs.size := by simpa using hb
    subst e
    exact I1.fpOk (Nat.le_refl _) (I1.hok.fresh (Nat.le_refl _))
def iRng1 (ta : TA) : TI := fun σ H R => ta σ H fun vs H1 => ∃ j : Int, vs = [.int j] ∧ -(2 ^ 62) ≤ j ∧ j < 2 ^ 62 ∧ R (Itr 0 j.toNat) H1
def iRng2 (ta : TA) : TI := fun σ H R => ta σ H fun vs H1 => ∃ i j : Int, vs = [.int i, .int j] ∧ (-(2 ^ 62) ≤ i ∧ i < 2 ^ 62 ∧ -(2 ^ 62) ≤ j ∧ j < 2 ^ 62) ∧ R (Itr i (j - i).toNat) H1
theorem pi_range1 {a : Expr} {ta : TA} {p pos : Pos} (hg : Gl X "range") (hm : X.mg "range" = none) (ha : PA X [a] ta) (hs : starEach [a] X.env = [(false, eval a X.env)] := by rfl) : PI X tg (.Call (.Name "range" p) [a] [] pos) (iRng1 ta) := by
  intro pins s σ H R I h
  refine Call_ (ld_blt I hg hm boot_range (PyProof.Rows.callWith_type1 (thn (ha pos pins s σ H _ I h) fun us s1 ⟨vs, H1, I1, r1, q1⟩ => ?_) hs rfl))
  obtain ⟨j, e, q1, q2, q⟩ := q1
  subst e
  cases r1 with
  | cons r rr =>
    cases rr
    obtain ⟨t, rfl⟩ := r
    exact call_range_1 (range_it I1 (by omega) (by omega) q1 q2 (by simpa using q))
theorem pi_range2 {a b : Expr} {ta : TA} {p pos : Pos} (hg : Gl X "range") (hm : X.mg "range" = none) (ha : PA X [a, b] ta) (hs : starEach [a, b] X.env = [(false, eval a X.env), (false, eval b X.env)] := by rfl) (hs2 : starEach [b] X.env = [(false, eval b X.env)] := by rfl) :
    PI X tg (.Call (.Name "range" p) [a, b] [] pos) (iRng2 ta) := by
  intro pins s σ H R I h
  refine Call_ (ld_blt I hg hm boot_range (PyProof.Rows.callWith_type1 (thn (ha pos pins s σ H _ I h) fun us s1 ⟨vs, H1, I1, r1, q1⟩ => ?_) (by rw [hs, hs2]) (by rw [hs2]; rfl)))
  obtain ⟨i, j, e, ⟨q1, q2, q3, q4⟩, q⟩ := q1
  subst e
  cases r1 with
  | cons r rr =>
    cases rr with
    | cons r' rr =>
      cases rr
      obtain ⟨t, rfl⟩ := r
      obtain ⟨t', rfl⟩ := r'
      exact call_range_2 (range_it I1 q1 q2 q3 q4 q)

/-! ### for -/
/-- W: the invariant by the turn and a measure; N: what the body is to reach -/
def tFor (wi : TI) (g : TG) (tb : TS) : TS := fun D σ H => wi σ H fun J H1 => ∃ W : Nat → Nat → St → Hp → Prop, (∃ m, W 0 m σ H1) ∧ ∀ i m σ H, W i m σ H →
  (J.stop i H ∧ D.nx σ H) ∨ (J.go i H ∧ ∃ N : St → Hp → Prop, (∀ σ' H', N σ' H' → ∃ m', m' < m ∧ W (i + 1) m' σ' H') ∧ ∀ x H', J.yld i H x H' → g x σ H' fun σ2 H2 => tb { D with nx := N, ct := N, bk := D.nx } σ2 H2)
/-- the records at fp as they stand -/
def pinsAt (fp : List Addr) (h : Heap) : List (Addr × Obj) := fp.filterMap fun b => (h.get? b).map fun o => (b, o)
theorem mem_pinsAt {fp : List Addr} {h : Heap} {b : Addr} {o : Obj} (hb : b ∈ fp) (e : h.get? b = some o) : (b, o) ∈ pinsAt fp h := List.mem_filterMap.mpr ⟨b, hb, by rw [e]; rfl⟩
theorem of_pinsAt {fp : List Addr} {h : Heap} {p : Addr × Obj} (hp : p ∈ pinsAt fp h) : p.1 ∈ fp ∧ h.get? p.1 = some p.2 := by
  obtain ⟨b, hb, e⟩ := List.mem_filterMap.mp hp
  cases q : h.get? b with
  | none => rw [q] at e; cases e
  | some o =>
    rw [q] at e
    have e' : (b, o) = p := Option.some.inj e
    subst e'
    exact ⟨hb, q⟩
theorem Inv.pinned {pins : List (Addr × Obj)} {σ : St} {H : Hp} {s : Shared} {fp : List Addr} (I : Inv X pins σ H s) (hf : ∀ b ∈ fp, FpOk X pins H b) (ho : ∀ b ∈ fp, ∃ o, s.heap.get? b = some o ∧ ∀ v, o.data ≠ .cell v) : Inv X (pins ++ pinsAt fp s.heap) σ H s :=
  I.pins_of fun p hp => (List.mem_append.mp hp).elim (fun z => I.pin p (List.mem_append_right _ z)) fun z => by
    obtain ⟨hb, e⟩ := of_pinsAt z
    obtain ⟨f0, f1, f2, _⟩ := hf p.1 hb
    obtain ⟨o, e', d⟩ := ho p.1 hb
    rw [e] at e'; cases e'
    exact ⟨e, f0, f1, f2, d⟩
theorem Inv.unpinned {pins pl : List (Addr × Obj)} {σ : St} {H : Hp} {s : Shared} (I : Inv X (pins ++ pl) σ H s) : Inv X pins σ H s := I.pins_of fun p hp => I.pin p (List.mem_append_right _ (List.mem_append_left _ hp))
theorem ps_for {iter : Expr} {body : List Stmt} {wi : TI} {g : TG} {tb : TS} {pos : Pos} (hp : PassesOwn (model X.prog X.w) X.A X.env X.xe) (hc : X.calm = true) (hi : PI X tg iter wi) (hg : PG X tg g) (hb : PSs X body tb)
    (hs : ∀ x, foldedSetIterable iter X.env x = pure x := by intro _; rfl) : PS X (.For tg iter body [] pos) (tFor wi g tb) := by
  intro pins s σ H D I h
  refine wpAny_For (thn (hi pins s σ H _ I h) fun v s1 h1 => thn h1 fun itv s2 h2 => ?_) hs
  obtain ⟨it, fp, tn, J, H2, e, I2, T, st2, f2, W, ⟨m0, w0⟩, turn⟩ := h2
  subst e
  -- what stays true of the iterator's objects through the loop
  have stat : ∀ {H' : Hp}, (∀ b ∈ fp, H' b = none) → ∀ b ∈ fp, FpOk X pins H' b := fun hn b hb => ⟨hn b hb, (f2 b hb).2⟩
  refine codeAny_forLoop_any (fun n s' => ∃ i σ' H', Inv X pins σ' H' s' ∧ tn i s'.heap ∧ (∀ b ∈ fp, H' b = none) ∧ W i n σ' H') ?_ m0 ⟨0, σ, H2, I2, st2, fun b hb => (f2 b hb).1, w0⟩
  rintro n s3 ⟨i, σ3, H3, I3, st3, fr3, w3⟩
  rcases turn i n σ3 H3 w3 with ⟨stop, qn⟩ | ⟨go, N, hN, step⟩
  · refine wpAny_passesOwn hp (thn (T.done X rfl rfl rfl hc i pins s3 σ3 H3 X.xe I3 (stat fr3) st3 stop) fun r s4 ⟨hr, I4⟩ => ?_)
    subst hr
    exact wpAny_execs_nil ⟨σ3, H3, I4, qn⟩
  · refine wpAny_passesOwn hp (thn (T.item X rfl rfl rfl hc i pins s3 σ3 H3 X.xe I3 (stat fr3) st3 go) fun r s4 ⟨u, hr, h4⟩ => ?_)
    subst hr
    refine wpAny_passesOwn hp (thn h4 fun _ s5 ⟨x, H5, I5, r5, y5, st5, fr5⟩ => ?_)
    have I5' := I5.pinned (stat fr5) (T.obj _ _ st5)
    refine wpAny_passesOwn hp (thn (hg _ s5 σ3 H5 x u _ I5' r5 (step x H5 y5)) fun _ s6 ⟨σ6, H6, I6, q6⟩ => ?_)
    refine wpAny_passesOwn hp (thn (hb _ s6 σ6 H6 _ I6 q6) fun f s7 q7 => ?_)
    have again : ∀ {σ7 : St} {H7 : Hp}, Inv X (pins ++ pinsAt fp s5.heap) σ7 H7 s7 → N σ7 H7 → ∃ m, m < n ∧ ∃ i σ' H', Inv X pins σ' H' s7 ∧ tn i s7.heap ∧ (∀ b ∈ fp, H' b = none) ∧ W i m σ' H' := fun {σ7 H7} I7 n7 => by
      obtain ⟨m', hm, w7⟩ := hN σ7 H7 n7
      refine ⟨m', hm, i + 1, σ7, H7, I7.unpinned, T.keep _ _ _ st5 fun b hb o e => (I7.pin (b, o) (List.mem_append_right _ (List.mem_append_right _ (mem_pinsAt hb e)))).1, fun b hb => ?_, w7⟩
      obtain ⟨o, e, d⟩ := T.obj _ _ st5 b hb
      exact (I7.pin (b, o) (List.mem_append_right _ (List.mem_append_right _ (mem_pinsAt hb e)))).2.1
    cases f with
    | next => obtain ⟨σ7, H7, I7, n7⟩ := q7; exact again I7 n7
    | cont => obtain ⟨σ7, H7, I7, n7⟩ := q7; exact again I7 n7
    | brk => obtain ⟨σ7, H7, I7, q7⟩ := q7; exact ⟨σ7, H7, I7.unpinned, q7⟩
    | ret v => obtain ⟨x7, σ7, H7, I7, r7, q7⟩ := q7; exact ⟨x7, σ7, H7, I7.unpinned, r7, q7⟩
end

/-! ### the forms one uses -/
/-- over a list that the body leaves as it is -/
theorem for_list {K : PySem.W.Frag} {a : Addr} {xs : List V} {g : TG} {tb : TS} {D : Ends} {σ : St} {H : Hp} (Pv : Nat → St → Hp → Prop) (h0 : Pv 0 σ H) (hl : ∀ i σ H, i ≤ xs.length → Pv i σ H → SqL K H a xs)
    (hs : ∀ i x σ H, xs[i]? = some x → Pv i σ H → g x σ H fun σ2 H2 => tb { D with nx := Pv (i + 1), ct := Pv (i + 1), bk := D.nx } σ2 H2) (hd : ∀ σ H, Pv xs.length σ H → D.nx σ H) :
    ∃ W : Nat → Nat → St → Hp → Prop, (∃ m, W 0 m σ H) ∧ ∀ i m σ H, W i m σ H →
      ((Itl K a).stop i H ∧ D.nx σ H) ∨ ((Itl K a).go i H ∧ ∃ N : St → Hp → Prop, (∀ σ' H', N σ' H' → ∃ m', m' < m ∧ W (i + 1) m' σ' H') ∧ ∀ x H', (Itl K a).yld i H x H' → g x σ H' fun σ2 H2 => tb { D with nx := N, ct := N, bk := D.nx } σ2 H2) := by
  refine ⟨fun i m σ H => m = xs.length - i ∧ i ≤ xs.length ∧ Pv i σ H, ⟨xs.length, by simp, Nat.zero_le _, h0⟩, ?_⟩
  rintro i m σ H ⟨rfl, hi, p⟩
  have q := hl i σ H hi p
  by_cases hlt : i < xs.length
  · refine .inr ⟨⟨xs, xs[i], q, by simp [hlt]⟩, Pv (i + 1), fun σ' H' p' => ⟨xs.length - (i + 1), by omega, rfl, hlt, p'⟩, fun x H' y => ?_⟩
    obtain ⟨e, y⟩ := y
    subst e
    exact hs i x σ _ (y xs q) p
  · have e : i = xs.length := by omega
    subst e
    exact .inl ⟨⟨xs, q, Nat.le_refl _⟩, hd σ H p⟩
theorem for_tup {K : PySem.W.Frag} {a : Addr} {xs : List V} {g : TG} {tb : TS} {D : Ends} {σ : St} {H : Hp} (Pv : Nat → St → Hp → Prop) (h0 : Pv 0 σ H) (hl : ∀ i σ H, i ≤ xs.length → Pv i σ H → SqT K H a xs)
    (hs : ∀ i x σ H, xs[i]? = some x → Pv i σ H → g x σ H fun σ2 H2 => tb { D with nx := Pv (i + 1), ct := Pv (i + 1), bk := D.nx } σ2 H2) (hd : ∀ σ H, Pv xs.length σ H → D.nx σ H) :
    ∃ W : Nat → Nat → St → Hp → Prop, (∃ m, W 0 m σ H) ∧ ∀ i m σ H, W i m σ H →
      ((Itt K a).stop i H ∧ D.nx σ H) ∨ ((Itt K a).go i H ∧ ∃ N : St → Hp → Prop, (∀ σ' H', N σ' H' → ∃ m', m' < m ∧ W (i + 1) m' σ' H') ∧ ∀ x H', (Itt K a).yld i H x H' → g x σ H' fun σ2 H2 => tb { D with nx := N, ct := N, bk := D.nx } σ2 H2) := by
  refine ⟨fun i m σ H => m = xs.length - i ∧ i ≤ xs.length ∧ Pv i σ H, ⟨xs.length, by simp, Nat.zero_le _, h0⟩, ?_⟩
  rintro i m σ H ⟨rfl, hi, p⟩
  have q := hl i σ H hi p
  by_cases hlt : i < xs.length
  · refine .inr ⟨⟨xs, xs[i], q, by simp [hlt]⟩, Pv (i + 1), fun σ' H' p' => ⟨xs.length - (i + 1), by omega, rfl, hlt, p'⟩, fun x H' y => ?_⟩
    obtain ⟨e, y⟩ := y
    subst e
    exact hs i x σ _ (y xs q) p
  · have e : i = xs.length := by omega
    subst e
    exact .inl ⟨⟨xs, q, Nat.le_refl _⟩, hd σ H p⟩
theorem for_range {lo : Int} {n : Nat} {g : TG} {tb : TS} {D : Ends} {σ : St} {H : Hp} (Pv : Nat → St → Hp → Prop) (h0 : Pv 0 σ H)
    (hs : ∀ i σ H, i < n → Pv i σ H → g (.int (lo + i)) σ H fun σ2 H2 => tb { D with nx := Pv (i + 1), ct := Pv (i + 1), bk := D.nx } σ2 H2) (hd : ∀ σ H, Pv n σ H → D.nx σ H) :
    ∃ W : Nat → Nat → St → Hp → Prop, (∃ m, W 0 m σ H) ∧ ∀ i m σ H, W i m σ H →
      ((Itr lo n).stop i H ∧ D.nx σ H) ∨ ((Itr lo n).go i H ∧ ∃ N : St → Hp → Prop, (∀ σ' H', N σ' H' → ∃ m', m' < m ∧ W (i + 1) m' σ' H') ∧ ∀ x H', (Itr lo n).yld i H x H' → g x σ H' fun σ2 H2 => tb { D with nx := N, ct := N, bk := D.nx } σ2 H2) := by
  refine ⟨fun i m σ H => m = n - i ∧ i ≤ n ∧ Pv i σ H, ⟨n, by simp, Nat.zero_le _, h0⟩, ?_⟩
  rintro i m σ H ⟨rfl, hi, p⟩
  by_cases hlt : i < n
  · refine .inr ⟨hlt, Pv (i + 1), fun σ' H' p' => ⟨n - (i + 1), by omega, rfl, hlt, p'⟩, fun x H' y => ?_⟩
    obtain ⟨e, y⟩ := y
    subst e y
    exact hs i σ _ hlt p
  · have e : i = n := by omega
    subst e
    exact .inl ⟨Nat.le_refl _, hd σ H p⟩
/-- while, by a word and a measure of the state -/
theorem while_by {c : TT} {tb : TS} {D : Ends} {σ : St} {H : Hp} (Pv : St → Hp → Prop) (μ : St → Hp → Nat) (h0 : Pv σ H)
    (hs : ∀ σ H, Pv σ H → c σ H fun b H1 => if b = true then tb { D with nx := fun σ' H' => Pv σ' H' ∧ μ σ' H' < μ σ H, ct := fun σ' H' => Pv σ' H' ∧ μ σ' H' < μ σ H, bk := D.nx } σ H1 else D.nx σ H1)
    (mono : ∀ σ H Q Q', (∀ b H1, Q b H1 → Q' b H1) → c σ H Q → c σ H Q') : tWhile c tb D σ H := by
  refine ⟨fun m σ H => m = μ σ H ∧ Pv σ H, ⟨_, rfl, h0⟩, ?_⟩
  rintro m σ H ⟨rfl, p⟩
  refine mono σ H _ _ (fun b H1 q => ?_) (hs σ H p)
  cases b with
  | true => exact ⟨_, fun σ' H' ⟨p', l⟩ => ⟨_, l, rfl, p'⟩, q⟩
  | false => exact q
end L2

namespace L2
open PySem PySem.Spec PyProof.Rows

abbrev R2 := V → V → Hp → VK → Prop
/-- a two-place operation on values: f is binaryOp op, inplaceOp op or compareOp op -/
def OpR (X : Cx) (f : Value → Value → Sem Value) (r : R2) : Prop :=
  ∀ (pins : List (Addr × Obj)) (s : Shared) (σ : St) (H : Hp) (x y : V) (v u : Value) (Q : VK), Inv X pins σ H s → RelV x v → RelV y u → r x y H Q →
    wpAny (model X.prog X.w) X.A (f v u) (EP X pins σ Q) X.xe s
/-- a one-place operation -/
def UnR (X : Cx) (f : Value → Sem Value) (r : V → Hp → VK → Prop) : Prop :=
  ∀ (pins : List (Addr × Obj)) (s : Shared) (σ : St) (H : Hp) (x : V) (v : Value) (Q : VK), Inv X pins σ H s → RelV x v → r x H Q →
    wpAny (model X.prog X.w) X.A (f v) (EP X pins σ Q) X.xe s
/-- a call of a value that is known (a builtin, a type) with values -/
def CallR (X : Cx) (f : Value) (r : List V → Hp → VK → Prop) : Prop :=
  ∀ (pins : List (Addr × Obj)) (s : Shared) (σ : St) (H : Hp) (xs : List V) (us : List Value) (Q : VK), Inv X pins σ H s → Vals xs us → r xs H Q →
    wpAny (model X.prog X.w) X.A (call f us) (EP X pins σ Q) X.xe s
/-- a value's truth -/
def TruR (X : Cx) (r : V → Hp → (Bool → Hp → Prop) → Prop) : Prop :=
  ∀ (pins : List (Addr × Obj)) (s : Shared) (σ : St) (H : Hp) (x : V) (v : Value) (Q : Bool → Hp → Prop), Inv X pins σ H s → RelV x v → r x H Q →
    wpAny (model X.prog X.w) X.A (truthy v) (TP X pins σ Q) X.xe s

def tOp (r : R2) (ta tb : TE) : TE := fun σ H Q => ta σ H fun x H1 => tb σ H1 fun y H2 => r x y H2 Q
def tUn (r : V → Hp → VK → Prop) (ta : TE) : TE := fun σ H Q => ta σ H fun x H1 => r x H1 Q
/-- ints in, under C, and a value out -/
def rI (C : Int → Int → Prop) (g : Int → Int → V) : R2 := fun x y H Q => ∃ i j, x = .int i ∧ y = .int j ∧ C i j ∧ Q (g i j) H
def rI0 (g : Int → Int → V) : R2 := fun x y H Q => ∃ i j, x = .int i ∧ y = .int j ∧ Q (g i j) H
def rU (g : Int → V) : V → Hp → VK → Prop := fun x H Q => ∃ i, x = .int i ∧ Q (g i) H

section
variable {X : Cx} {a b c : Expr} {ta tb tc : TE} {pos : Pos}

theorem binT (ha : PE X a ta) (hb : PE X b tb) {pins : List (Addr × Obj)} {s : Shared} {σ : St} {H : Hp} {R : V → V → Hp → Prop} (I : Inv X pins σ H s)
    (h : ta σ H fun x H1 => tb σ H1 fun y H2 => R x y H2) {Q : Value → Shared → Prop} {f : Value → Value → Sem Value}
    (hf : ∀ v u s2 x y H2, Inv X pins σ H2 s2 → RelV x v → RelV y u → R x y H2 → wpAny (model X.prog X.w) X.A (f v u) Q X.xe s2) :
    wpAny (model X.prog X.w) X.A (eval a X.env) (fun v s₁ => wpAny (model X.prog X.w) X.A (eval b X.env) (fun u s₂ => wpAny (model X.prog X.w) X.A (f v u) Q X.xe s₂) X.xe s₁) X.xe s := by
  refine thn (ha pins s σ H _ I h) fun v s1 ⟨x, H1, I1, r1, q1⟩ => ?_
  refine thn (hb pins s1 σ H1 _ I1 q1) fun u s2 ⟨y, H2, I2, r2, q2⟩ => ?_
  exact hf v u s2 x y H2 I2 r1 r2 q2

theorem pe_op {op : Operator} {r : R2} (ho : OpR X (binaryOp op) r) (ha : PE X a ta) (hb : PE X b tb) : PE X (.BinOp a op b pos) (tOp r ta tb) := by
  intro pins s σ H Q I h
  exact wpAny_BinOp (binT ha hb I h fun v u s2 x y H2 I2 rx ry q => ho pins s2 σ H2 x y v u Q I2 rx ry q)
theorem pe_un {op : UnaryOp} {r : V → Hp → VK → Prop} (ho : UnR X (unaryOp op) r) (ha : PE X a ta) : PE X (.UnaryOp op a pos) (tUn r ta) := by
  intro pins s σ H Q I h
  exact UnaryOp_ (thn (ha pins s σ H _ I h) fun v s1 ⟨x, H1, I1, r1, q1⟩ => ho pins s1 σ H1 x v Q I1 r1 q1)
/-- a op= e at a name: the name's slot i -/
theorem augR {op : Operator} {r : R2} (ho : OpR X (inplaceOp op) r) {pins : List (Addr × Obj)} {s : Shared} {σ : St} {H : Hp} {x y : V} {v u : Value} {Q : VK} (I : Inv X pins σ H s)
    (rx : RelV x v) (ry : RelV y u) (q : r x y H Q) : wpAny (model X.prog X.w) X.A (inplaceOp op v u) (EP X pins σ Q) X.xe s := ho pins s σ H x y v u Q I rx ry q

/-! ### ints -/
theorem opI {f : Value → Value → Sem Value} {C : Int → Int → Prop} {g : Int → Int → Int}
    (rule : ∀ (i j : Int) (t u : Tok) (s : Shared) (Q : Value → Shared → Prop) (E : Value → Shared → Prop), C i j → Q (.int (g i j) s.toks) { s with toks := s.toks + 1 } → wpAny (model X.prog X.w) X.A (f (.int i t) (.int j u)) Q E s) :
    OpR X f (rI C fun i j => .int (g i j)) := by
  intro pins s σ H x y v u Q I rx ry h
  obtain ⟨i, j, rfl, rfl, hc, q⟩ := h
  obtain ⟨t, rfl⟩ := rx
  obtain ⟨t', rfl⟩ := ry
  exact rule i j t t' s _ _ hc ⟨.int (g i j), H, I.tok _, ⟨_, rfl⟩, q⟩
theorem opI0 {f : Value → Value → Sem Value} {g : Int → Int → Int}
    (rule : ∀ (i j : Int) (t u : Tok) (s : Shared) (Q : Value → Shared → Prop) (E : Value → Shared → Prop), Q (.int (g i j) s.toks) { s with toks := s.toks + 1 } → wpAny (model X.prog X.w) X.A (f (.int i t) (.int j u)) Q E s) :
    OpR X f (rI0 fun i j => .int (g i j)) := by
  intro pins s σ H x y v u Q I rx ry h
  obtain ⟨i, j, rfl, rfl, q⟩ := h
  obtain ⟨t, rfl⟩ := rx
  obtain ⟨t', rfl⟩ := ry
  exact rule i j t t' s _ _ ⟨.int (g i j), H, I.tok _, ⟨_, rfl⟩, q⟩
theorem opB0 {f : Value → Value → Sem Value} {g : Int → Int → Bool}
    (rule : ∀ (i j : Int) (t u : Tok) (s : Shared) (Q : Value → Shared → Prop) (E : Value → Shared → Prop), Q (.bool (g i j)) s → wpAny (model X.prog X.w) X.A (f (.int i t) (.int j u)) Q E s) :
    OpR X f (rI0 fun i j => .bl (g i j)) := by
  intro pins s σ H x y v u Q I rx ry h
  obtain ⟨i, j, rfl, rfl, q⟩ := h
  obtain ⟨t, rfl⟩ := rx
  obtain ⟨t', rfl⟩ := ry
  exact rule i j t t' s _ _ ⟨.bl (g i j), H, I, rfl, q⟩

def CDiv (i j : Int) : Prop := 0 < j ∧ j < 1073741824
def CDivN (i j : Int) : Prop := j ≠ 0 ∧ j.natAbs < 1073741824
def CPow (i j : Int) : Prop := 0 ≤ j ∧ j ≤ 1000000 ∧ i.natAbs < 2 ^ 64
def CMul (i j : Int) : Prop := (-(2 ^ 64) < i ∧ i < 2 ^ 64) ∨ (-(2 ^ 64) < j ∧ j < 2 ^ 64)
theorem CMul.ok {i j : Int} (h : CMul i j) : IntMulOk i j := by
  rcases h with ⟨h1, h2⟩ | ⟨h1, h2⟩
  · exact .of_left (intBits_le_64 h1 h2)
  · exact .of_right (intBits_le_64 h1 h2)
theorem two_pow_nn (k : Nat) : (0 : Int) ≤ 2 ^ k := by
  rw [two_pow_cast]
  exact Int.natCast_nonneg _

theorem op_add : OpR X (binaryOp .Add) (rI0 fun i j => .int (i + j)) := opI0 fun _ _ _ _ _ _ _ q => add_int q
theorem op_sub : OpR X (binaryOp .Sub) (rI0 fun i j => .int (i - j)) := opI0 fun _ _ _ _ _ _ _ q => sub_int q
theorem op_mul : OpR X (binaryOp .Mult) (rI CMul fun i j => .int (i * j)) := opI fun _ _ _ _ _ _ _ hc q => mul_int q hc.ok
/-- // by a positive divisor -/
theorem op_fdiv : OpR X (binaryOp .FloorDiv) (rI CDiv fun i j => .int (i / j)) := opI fun i j _ _ _ _ _ hc q => by
  have h1 : (0 : Int) < j := hc.1
  have h2 : j < 1073741824 := hc.2
  exact floordiv_int (by omega) (by rw [Int.fdiv_eq_ediv_of_nonneg i (by omega)]; exact q) (.inl (PyProof.noPylong_small (by omega)))
theorem op_fdivN : OpR X (binaryOp .FloorDiv) (rI CDivN fun i j => .int (i.fdiv j)) := opI fun _ _ _ _ _ _ _ hc q => floordiv_int hc.1 q (.inl (PyProof.noPylong_small hc.2))
/-- % by a positive divisor of any size -/
theorem op_mod : OpR X (binaryOp .Mod) (rI (fun _ j => 0 < j) fun i j => .int (i % j)) := opI fun i j _ _ _ _ _ hc q => by
  have h1 : (0 : Int) < j := hc
  exact mod_int' (by omega) (by rw [Int.fmod_eq_emod_of_nonneg i (by omega)]; exact q)
theorem op_modN : OpR X (binaryOp .Mod) (rI (fun _ j => j ≠ 0) fun i j => .int (i.fmod j)) := opI fun _ _ _ _ _ _ _ hc q => mod_int' hc q
theorem op_pow : OpR X (binaryOp .Pow) (rI CPow fun i j => .int (i ^ j.toNat)) := opI fun _ _ _ _ _ _ _ hc q => pow_int_small hc.1 hc.2.1 hc.2.2 q
theorem op_shl : OpR X (binaryOp .LShift) (rI CPow fun i j => .int (i * 2 ^ j.toNat)) := opI fun _ _ _ _ _ _ _ hc q => lshift_int_small hc.1 hc.2.1 hc.2.2 q
theorem op_shr : OpR X (binaryOp .RShift) (rI (fun _ j => 0 ≤ j) fun i j => .int (i / 2 ^ j.toNat)) := opI fun i j _ _ _ _ _ hc q =>
  rshift_int hc (by rw [Int.fdiv_eq_ediv_of_nonneg i (two_pow_nn _)]; exact q)
theorem op_and : OpR X (binaryOp .BitAnd) (rI0 fun i j => .int (Builtin.bitAnd i j)) := opI0 fun _ _ _ _ _ _ _ q => and_int q
theorem op_or : OpR X (binaryOp .BitOr) (rI0 fun i j => .int (Builtin.bitOr i j)) := opI0 fun _ _ _ _ _ _ _ q => or_int q
theorem op_xor : OpR X (binaryOp .BitXor) (rI0 fun i j => .int (Builtin.bitXor i j)) := opI0 fun _ _ _ _ _ _ _ q => xor_int q

theorem iop_add : OpR X (inplaceOp .Add) (rI0 fun i j => .int (i + j)) := opI0 fun _ _ _ _ _ _ _ q => iadd_int q
theorem iop_sub : OpR X (inplaceOp .Sub) (rI0 fun i j => .int (i - j)) := opI0 fun _ _ _ _ _ _ _ q => isub_int q
theorem iop_mul : OpR X (inplaceOp .Mult) (rI CMul fun i j => .int (i * j)) := opI fun _ _ _ _ _ _ _ hc q => imul_int q hc.ok
theorem iop_fdiv : OpR X (inplaceOp .FloorDiv) (rI CDiv fun i j => .int (i / j)) := opI fun i j _ _ _ _ _ hc q => by
  have h1 : (0 : Int) < j := hc.1
  have h2 : j < 1073741824 := hc.2
  exact ifloordiv_int (by omega) (by rw [Int.fdiv_eq_ediv_of_nonneg i (by omega)]; exact q) (.inl (PyProof.noPylong_small (by omega)))
theorem iop_mod : OpR X (inplaceOp .Mod) (rI (fun _ j => 0 < j) fun i j => .int (i % j)) := opI fun i j _ _ _ _ _ hc q => by
  have h1 : (0 : Int) < j := hc
  exact imod_int (by omega) (by rw [Int.fmod_eq_emod_of_nonneg i (by omega)]; exact q)
theorem iop_shl : OpR X (inplaceOp .LShift) (rI CPow fun i j => .int (i * 2 ^ j.toNat)) := opI fun _ _ _ _ _ _ _ hc q => ilshift_int_small hc.1 hc.2.1 hc.2.2 q
theorem iop_shr : OpR X (inplaceOp .RShift) (rI (fun _ j => 0 ≤ j) fun i j => .int (i / 2 ^ j.toNat)) := opI fun i j _ _ _ _ _ hc q =>
  irshift_int hc (by rw [Int.fdiv_eq_ediv_of_nonneg i (two_pow_nn _)]; exact q)
theorem iop_and : OpR X (inplaceOp .BitAnd) (rI0 fun i j => .int (Builtin.bitAnd i j)) := opI0 fun _ _ _ _ _ _ _ q => iand_int q
theorem iop_or : OpR X (inplaceOp .BitOr) (rI0 fun i j => .int (Builtin.bitOr i j)) := opI0 fun _ _ _ _ _ _ _ q => ior_int q
theorem iop_xor : OpR X (inplaceOp .BitXor) (rI0 fun i j => .int (Builtin.bitXor i j)) := opI0 fun _ _ _ _ _ _ _ q => ixor_int q

theorem unI {f : Value → Sem Value} {g : Int → Int}
    (rule : ∀ (i : Int) (t : Tok) (s : Shared) (Q : Value → Shared → Prop) (E : Value → Shared → Prop), Q (.int (g i) s.toks) { s with toks := s.toks + 1 } → wpAny (model X.prog X.w) X.A (f (.int i t)) Q E s) :
    UnR X f (rU fun i => .int (g i)) := by
  intro pins s σ H x v Q I rx h
  obtain ⟨i, rfl, q⟩ := h
  obtain ⟨t, rfl⟩ := rx
  exact rule i t s _ _ ⟨.int (g i), H, I.tok _, ⟨_, rfl⟩, q⟩
theorem un_neg : UnR X (unaryOp .USub) (rU fun i => .int (-i)) := unI fun _ _ _ _ _ q => neg_int q
theorem un_inv : UnR X (unaryOp .Invert) (rU fun i => .int (Builtin.bitNot i)) := unI fun _ _ _ _ _ q => invert_int q

/-! ### bools among ints: n += (a < b) -/
theorem op_add_ib : OpR X (binaryOp .Add) (fun x y H Q => ∃ i k, x = .int i ∧ y = .bl k ∧ Q (.int (i + b2i k)) H) := by
  intro pins s σ H x y v u Q I rx ry h
  obtain ⟨i, k, rfl, rfl, q⟩ := h
  obtain ⟨t, rfl⟩ := rx
  cases ry
  exact add_int_bool ⟨.int (i + b2i k), H, I.tok _, ⟨_, rfl⟩, q⟩
end

/-! ### comparisons -/
/-- the scalars that == tells apart as data does -/
def scal : V → V → Bool
  | .non, .non => true | .non, .int _ => true | .int _, .non => true | .non, .bl _ => true | .bl _, .non => true | .non, .str _ => true | .str _, .non => true
  | .int _, .int _ => true | .bl _, .bl _ => true | .str _, .str _ => true | .byt _, .byt _ => true
  | .int _, .str _ => true | .str _, .int _ => true | .bl _, .str _ => true | .str _, .bl _ => true
  | _, _ => false
def rEq : R2 := fun x y H Q => scal x y = true ∧ Q (.bl (decide (x = y))) H
def rNe : R2 := fun x y H Q => scal x y = true ∧ Q (.bl (!decide (x = y))) H

theorem dec_int {i j : Int} : decide (V.int i = V.int j) = (i == j) := by
  rw [Bool.eq_iff_iff]
  simp
theorem dec_bl {i j : Bool} : decide (V.bl i = V.bl j) = (i == j) := by
  rw [Bool.eq_iff_iff]
  simp
theorem dec_str {i j : Str} : decide (V.str i = V.str j) = (i == j) := by
  rw [Bool.eq_iff_iff]
  simp
theorem dec_byt {i j : Array UInt8} : decide (V.byt i = V.byt j) = (i.toList == j.toList) := by
  rw [Bool.eq_iff_iff]
  cases i
  cases j
  simp

section
variable {X : Cx} {a b c : Expr} {ta tb tc : TE} {pos : Pos}
theorem fin_bl {pins : List (Addr × Obj)} {σ : St} {H : Hp} {s : Shared} {Q : VK} {k k' : Bool} (I : Inv X pins σ H s) (q : Q (.bl k) H) (e : k = k') : EP X pins σ Q (.bool k') s := by
  subst e
  exact ⟨.bl k, H, I, rfl, q⟩
theorem op_eq : OpR X (compareOp .Eq) rEq := by
  intro pins s σ H x y v u Q I rx ry h
  obtain ⟨hs, q⟩ := h
  cases x with
  | non =>
    cases rx
    cases y with
    | non => cases ry; exact PySem.EqNone.eq_none_none (fin_bl I q (by simp))
    | bl j => cases ry; exact PySem.EqNone.eq_none_bool (fin_bl I q (by simp))
    | int j => obtain ⟨t', rfl⟩ := ry; exact PySem.EqNone.eq_none_int (fin_bl I q (by simp))
    | str j => obtain ⟨t', rfl⟩ := ry; exact PySem.EqNone.eq_none_str (fin_bl I q (by simp))
    | _ => exact absurd (show false = true from hs) Bool.false_ne_true
  | bl i =>
    cases rx
    cases y with
    | non => cases ry; exact PySem.EqNone.eq_bool_none (fin_bl I q (by simp))
    | bl j => cases ry; exact eq_bool (fin_bl I q dec_bl)
    | str j => obtain ⟨t', rfl⟩ := ry; exact PySem.EqMixed.eq_bool_str (fin_bl I q (by simp))
    | _ => exact absurd (show false = true from hs) Bool.false_ne_true
  | int i =>
    obtain ⟨t, rfl⟩ := rx
    cases y with
    | non => cases ry; exact PySem.EqNone.eq_int_none (fin_bl I q (by simp))
    | int j => obtain ⟨t', rfl⟩ := ry; exact eq_int (fin_bl I q dec_int)
    | str j => obtain ⟨t', rfl⟩ := ry; exact PySem.EqMixed.eq_int_str (fin_bl I q (by simp))
    | _ => exact absurd (show false = true from hs) Bool.false_ne_true
  | str i =>
    obtain ⟨t, rfl⟩ := rx
    cases y with
    | non => cases ry; exact PySem.EqNone.eq_str_none (fin_bl I q (by simp))
    | bl j => cases ry; exact PySem.EqMixed.eq_str_bool (fin_bl I q (by simp))
    | int j => obtain ⟨t', rfl⟩ := ry; exact PySem.EqMixed.eq_str_int (fin_bl I q (by simp))
    | str j => obtain ⟨t', rfl⟩ := ry; exact eq_str (fin_bl I q dec_str)
    | _ => exact absurd (show false = true from hs) Bool.false_ne_true
  | byt i =>
    obtain ⟨t, rfl⟩ := rx
    cases y with
    | byt j => obtain ⟨t', rfl⟩ := ry; exact PySem.W.eq_bytes (fin_bl I q dec_byt)
    | _ => exact absurd (show false = true from hs) Bool.false_ne_true
  | _ => cases y <;> exact absurd (show false = true from hs) Bool.false_ne_true
theorem op_ne : OpR X (compareOp .NotEq) rNe := by
  intro pins s σ H x y v u Q I rx ry h
  obtain ⟨hs, q⟩ := h
  cases x with
  | non =>
    cases rx
    cases y with
    | non => cases ry; exact PySem.EqNone.ne_none_none (fin_bl I q (by simp))
    | bl j => cases ry; exact PySem.EqNone.ne_none_bool (fin_bl I q (by simp))
    | int j => obtain ⟨t', rfl⟩ := ry; exact PySem.EqNone.ne_none_int (fin_bl I q (by simp))
    | str j => obtain ⟨t', rfl⟩ := ry; exact PySem.EqNone.ne_none_str (fin_bl I q (by simp))
    | _ => exact absurd (show false = true from hs) Bool.false_ne_true
  | bl i =>
    cases rx
    cases y with
    | non => cases ry; exact PySem.EqNone.ne_bool_none (fin_bl I q (by simp))
    | bl j => cases ry; exact ne_bool (fin_bl I q (congrArg not dec_bl))
    | str j => obtain ⟨t', rfl⟩ := ry; exact PySem.EqMixed.ne_bool_str (fin_bl I q (by simp))
    | _ => exact absurd (show false = true from hs) Bool.false_ne_true
  | int i =>
    obtain ⟨t, rfl⟩ := rx
    cases y with
    | non => cases ry; exact PySem.EqNone.ne_int_none (fin_bl I q (by simp))
    | int j => obtain ⟨t', rfl⟩ := ry; exact ne_int (fin_bl I q (congrArg not dec_int))
    | str j => obtain ⟨t', rfl⟩ := ry; exact PySem.EqMixed.ne_int_str (fin_bl I q (by simp))
    | _ => exact absurd (show false = true from hs) Bool.false_ne_true
  | str i =>
    obtain ⟨t, rfl⟩ := rx
    cases y with
    | non => cases ry; exact PySem.EqNone.ne_str_none (fin_bl I q (by simp))
    | bl j => cases ry; exact PySem.EqMixed.ne_str_bool (fin_bl I q (by simp))
    | int j => obtain ⟨t', rfl⟩ := ry; exact PySem.EqMixed.ne_str_int (fin_bl I q (by simp))
    | str j => obtain ⟨t', rfl⟩ := ry; exact ne_str (fin_bl I q (congrArg not dec_str))
    | _ => exact absurd (show false = true from hs) Bool.false_ne_true
  | byt i =>
    obtain ⟨t, rfl⟩ := rx
    cases y with
    | byt j => obtain ⟨t', rfl⟩ := ry; exact PySem.W.ne_bytes (fin_bl I q (congrArg not dec_byt))
    | _ => exact absurd (show false = true from hs) Bool.false_ne_true
  | _ => cases y <;> exact absurd (show false = true from hs) Bool.false_ne_true

theorem op_lt : OpR X (compareOp .Lt) (rI0 fun i j => .bl (decide (i < j))) := opB0 fun _ _ _ _ _ _ _ q => lt_int q
theorem op_le : OpR X (compareOp .LtE) (rI0 fun i j => .bl (decide (i ≤ j))) := opB0 fun _ _ _ _ _ _ _ q => le_int q
theorem op_gt : OpR X (compareOp .Gt) (rI0 fun i j => .bl (decide (j < i))) := opB0 fun _ _ _ _ _ _ _ q => gt_int q
theorem op_ge : OpR X (compareOp .GtE) (rI0 fun i j => .bl (decide (j ≤ i))) := opB0 fun _ _ _ _ _ _ _ q => ge_int q
theorem op_lt_str : OpR X (compareOp .Lt) (fun x y H Q => ∃ i j, x = .str i ∧ y = .str j ∧ Q (.bl (decide (i.cps.toList < j.cps.toList))) H) := by
  intro pins s σ H x y v u Q I rx ry h
  obtain ⟨i, j, rfl, rfl, q⟩ := h
  obtain ⟨t, rfl⟩ := rx
  obtain ⟨t', rfl⟩ := ry
  exact lt_str (fin_bl I q rfl)
/-- the one string within the other -/
theorem op_in_str : OpR X (compareOp .In) (fun x y H Q => ∃ i j, x = .str i ∧ y = .str j ∧ Q (.bl (!(Builtin.Str.occurrences j i 0 j.length 1).isEmpty)) H) := by
  intro pins s σ H x y v u Q I rx ry h
  obtain ⟨i, j, rfl, rfl, q⟩ := h
  obtain ⟨t, rfl⟩ := rx
  obtain ⟨t', rfl⟩ := ry
  exact in_str (fin_bl I q rfl)

/-- is None, is not None: the right side a value none -/
theorem op_isN : OpR X (compareOp .Is) (fun x y H Q => y = .non ∧ Q (.bl (decide (x = .non))) H) := by
  intro pins s σ H x y v u Q I rx ry h
  obtain ⟨rfl, q⟩ := h
  cases ry
  refine is_none_gen (fin_bl I q ?_)
  cases x <;> first
    | (cases rx; rfl)
    | (obtain ⟨t, rfl⟩ := rx; rfl)
theorem op_notN : OpR X (compareOp .IsNot) (fun x y H Q => y = .non ∧ Q (.bl (!decide (x = .non))) H) := by
  intro pins s σ H x y v u Q I rx ry h
  obtain ⟨rfl, q⟩ := h
  cases ry
  refine isnot_none_gen (fin_bl I q ?_)
  cases x <;> first
    | (cases rx; rfl)
    | (obtain ⟨t, rfl⟩ := rx; rfl)

theorem op_notin_str : OpR X (compareOp .NotIn) (fun x y H Q => ∃ i j, x = .str i ∧ y = .str j ∧ Q (.bl (!(!(Builtin.Str.occurrences j i 0 j.length 1).isEmpty))) H) := by
  intro pins s σ H x y v u Q I rx ry h
  obtain ⟨i, j, rfl, rfl, q⟩ := h
  obtain ⟨t, rfl⟩ := rx
  obtain ⟨t', rfl⟩ := ry
  exact notIn_str (fin_bl I q rfl)
/-- is, is not of two objects that are tracked lists or instances -/
def isObj : HO → Bool
  | .lst _ => true
  | .ins _ _ _ => true
  | _ => false
theorem obj_there {pins : List (Addr × Obj)} {s : Shared} {σ : St} {H : Hp} {a : Addr} {o : HO} (I : Inv X pins σ H s) (h : H a = some o) (p : isObj o = true) : ∃ ob, s.heap.get? a = some ob ∧ ob.cls ≠ .type "tuple" := by
  cases o with
  | lst xs =>
    obtain ⟨_, its, n, _, e⟩ : xs.length ≤ sizeLine ∧ ∃ (its : List Value) (n : Nat), Vals xs its ∧ s.heap.get? a = some { cls := .type "list", data := .seq its.toArray n } := I.hok a _ h
    exact ⟨_, e, (by show Value.type "list" ≠ .type "tuple"; decide +kernel)⟩
  | ins C dx fs =>
    have x := I.hok a _ h
    obtain ⟨_, _, _, e, _⟩ := x
    exact ⟨_, e, (by show Value.ref C ≠ .type "tuple"; exact fun z => by cases z)⟩
  | _ => exact absurd (show false = true from p) Bool.false_ne_true
theorem op_is_ref : OpR X (compareOp .Is) (fun x y H Q => ∃ a b oa ob, x = .ref a ∧ y = .ref b ∧ H a = some oa ∧ isObj oa = true ∧ H b = some ob ∧ isObj ob = true ∧ Q (.bl (decide (a = b))) H) := by
  intro pins s σ H x y v u Q I rx ry h
  obtain ⟨a, b, oa, ob, rfl, rfl, ha, pa, hb, pb, q⟩ := h
  cases rx
  cases ry
  obtain ⟨o1, e1, n1⟩ := obj_there I ha pa
  obtain ⟨o2, e2, _⟩ := obj_there I hb pb
  by_cases z : a = b
  · subst z
    exact wpAny_is_ref_self (fin_bl I q (by simp))
  · exact wpAny_is_ref_other z e1 e2 n1 (fin_bl I q (by simp [z]))
theorem op_isnot_ref : OpR X (compareOp .IsNot) (fun x y H Q => ∃ a b oa ob, x = .ref a ∧ y = .ref b ∧ H a = some oa ∧ isObj oa = true ∧ H b = some ob ∧ isObj ob = true ∧ Q (.bl (!decide (a = b))) H) := by
  intro pins s σ H x y v u Q I rx ry h
  obtain ⟨a, b, oa, ob, rfl, rfl, ha, pa, hb, pb, q⟩ := h
  cases rx
  cases ry
  obtain ⟨o1, e1, n1⟩ := obj_there I ha pa
  obtain ⟨o2, e2, _⟩ := obj_there I hb pb
  by_cases z : a = b
  · subst z
    exact wpAny_isNot_ref_self (fin_bl I q (by simp))
  · exact wpAny_isNot_ref_other z e1 e2 n1 (fin_bl I q (by simp [z]))

/-- two rules for one operation: by cases -/
theorem OpR.or {f : Value → Value → Sem Value} {r r' : R2} (h : OpR X f r) (h' : OpR X f r') : OpR X f (fun x y H Q => r x y H Q ∨ r' x y H Q) := by
  intro pins s σ H x y v u Q I rx ry q
  rcases q with q | q
  · exact h pins s σ H x y v u Q I rx ry q
  · exact h' pins s σ H x y v u Q I rx ry q

theorem nomark (b : Expr) {op : CmpOp} (h : op ≠ .In := by decide) (h2 : op ≠ .NotIn := by decide) : behindInMarks op b = false := by
  have e1 : (op == CmpOp.In) = false := by cases op <;> first | rfl | exact absurd rfl h
  have e2 : (op == CmpOp.NotIn) = false := by cases op <;> first | rfl | exact absurd rfl h2
  cases b <;> simp [behindInMarks, e1, e2]
/-- a comparison as a value; hm: nomark b, or (for in, not in) by with_unfolding_all rfl -/
theorem pe_cmpR {op : CmpOp} {r : R2} (ho : OpR X (compareOp op) r) (ha : PE X a ta) (hb : PE X b tb) (hm : behindInMarks op b = false) : PE X (.Compare a [op] [b] pos) (tOp r ta tb) := by
  intro pins s σ H Q I h
  exact wpAny_Compare1 (binT ha hb I h fun v u s2 x y H2 I2 rx ry q => ho pins s2 σ H2 x y v u Q I2 rx ry q) hm
/-- a reading of a value as a test -/
def tTest (t : TE) : TT := fun σ H Q => t σ H fun x H' => ∃ k, x = .bl k ∧ Q k H'
theorem pt_cmpR {op : CmpOp} {r : R2} (ho : OpR X (compareOp op) r) (ha : PE X a ta) (hb : PE X b tb) (hm : behindInMarks op b = false) : PT X (.Compare a [op] [b] pos) (tTest (tOp r ta tb)) := by
  intro pins s σ H Q I h
  refine wpAny_isTrue_Compare1 (thn (ha pins s σ H _ I h) fun v s1 ⟨x, H1, I1, r1, q1⟩ => thn (hb pins s1 σ H1 _ I1 q1) fun u s2 ⟨y, H2, I2, r2, q2⟩ =>
    thn (ho pins s2 σ H2 x y v u _ I2 r1 r2 q2) fun c s3 ⟨z, H3, I3, r3, k, e, q3⟩ => ?_) hm
  subst e
  cases r3
  exact wpAny_truthy_bool ⟨H3, I3, q3⟩
/-- a op1 b op2 c -/
def tChain (r r' : R2) (ta tb tc : TE) : TE := fun σ H Q => ta σ H fun x H1 => tb σ H1 fun y H2 => r x y H2 fun z H3 => ∃ k, z = .bl k ∧
  (if k = true then tc σ H3 fun w' H4 => r' y w' H4 Q else Q (.bl false) H3)
theorem pe_chain {op op' : CmpOp} {r r' : R2} (ho : OpR X (compareOp op) r) (ho' : OpR X (compareOp op') r') (ha : PE X a ta) (hb : PE X b tb) (hc : PE X c tc)
    (hm : lastMarks [op, op'] [b, c] = false := by with_unfolding_all rfl) : PE X (.Compare a [op, op'] [b, c] pos) (tChain r r' ta tb tc) := by
  intro pins s σ H Q I h
  refine Compare_chain (thn (ha pins s σ H _ I h) fun v s1 ⟨x, H1, I1, r1, q1⟩ => chain_link (thn (hb pins s1 σ H1 _ I1 q1) fun u s2 ⟨y, H2, I2, r2, q2⟩ =>
    thn (ho pins s2 σ H2 x y v u _ I2 r1 r2 q2) fun d s3 ⟨z, H3, I3, r3, k, e, q3⟩ => ?_)) hm
  subst e
  cases r3
  refine wpAny_truthy_bool ?_
  cases k with
  | false => exact ite_ff ⟨.bl false, H3, I3, rfl, q3⟩
  | true => exact ite_tt (chain_last (thn (hc pins s3 σ H3 _ I3 q3) fun w' s4 ⟨z', H4, I4, r4, q4⟩ => ho' pins s4 σ H4 y z' u w' Q I4 r2 r4 q4))
theorem pt_chain {op op' : CmpOp} {r r' : R2} (ho : OpR X (compareOp op) r) (ho' : OpR X (compareOp op') r') (ha : PE X a ta) (hb : PE X b tb) (hc : PE X c tc)
    (hm : lastMarks [op, op'] [b, c] = false := by with_unfolding_all rfl) : PT X (.Compare a [op, op'] [b, c] pos) (tTest (tChain r r' ta tb tc)) := by
  intro pins s σ H Q I h
  refine isTrue_chain (thn (ha pins s σ H _ I h) fun v s1 ⟨x, H1, I1, r1, q1⟩ => test_link (thn (hb pins s1 σ H1 _ I1 q1) fun u s2 ⟨y, H2, I2, r2, q2⟩ =>
    thn (ho pins s2 σ H2 x y v u _ I2 r1 r2 q2) fun d s3 ⟨z, H3, I3, r3, k, e, q3⟩ => ?_)) hm
  subst e
  cases r3
  refine wpAny_truthy_bool ?_
  cases k with
  | false =>
    obtain ⟨k', e', q'⟩ := q3
    cases e'
    exact ite_ff ⟨H3, I3, q'⟩
  | true =>
    refine ite_tt (test_last (thn (hc pins s3 σ H3 _ I3 q3) fun w' s4 ⟨z', H4, I4, r4, q4⟩ => thn (ho' pins s4 σ H4 y z' u w' _ I4 r2 r4 q4) fun d' s5 ⟨z2, H5, I5, r5, k2, e2, q5⟩ => ?_))
    subst e2
    cases r5
    exact wpAny_truthy_bool ⟨H5, I5, q5⟩

/-! ### truth -/
/-- a value's truth by the abstract heap -/
def TruV (K : PySem.W.Frag) (x : V) (H : Hp) (k : Bool) : Prop :=
  match x with
  | .non => k = false
  | .bl b => k = b
  | .int i => k = (i != 0)
  | .str y => y.length ≤ sizeLine ∧ k = ((y.length : Int) != 0)
  | .byt y => y.size ≤ sizeLine ∧ k = ((y.size : Int) != 0)
  | .ref p => (∃ xs, SqL K H p xs ∧ k = !xs.isEmpty) ∨ (∃ xs, SqT K H p xs ∧ k = !xs.isEmpty) ∨ ∃ kvs, H p = some (.dK kvs) ∧ k = !kvs.isEmpty
  | _ => False
theorem isEmpty_kv {κ : Type} {kvs : List (κ × V)} {vs : List (κ × Value)} (r : KV kvs vs) : (!vs.isEmpty) = !kvs.isEmpty := by
  cases r <;> rfl
theorem isEmpty_of {xs : List V} {its : List Value} (r : Vals xs its) : (!its.toArray.isEmpty) = !xs.isEmpty := by
  cases r <;> simp
theorem line63 : (sizeLine : Nat) < 2 ^ 63 := by rw [sizeLine_eq]; decide
theorem tru_ok : TruR X (fun x H Q => ∃ k, TruV X.K x H k ∧ Q k H) := by
  intro pins s σ H x v Q I rx h
  obtain ⟨k, e, q⟩ := h
  have hl := line63
  have hs : sizeLine = 16777216 := sizeLine_eq
  cases x with
  | non =>
    cases rx
    have e' : k = false := e
    subst e'
    exact truthy_none ⟨H, I, q⟩
  | bl b =>
    cases rx
    have e' : k = b := e
    subst e'
    exact wpAny_truthy_bool ⟨H, I, q⟩
  | int i =>
    obtain ⟨t, rfl⟩ := rx
    have e' : k = (i != 0) := e
    subst e'
    exact PySem.P.truthy_int ⟨H, I, q⟩
  | str y =>
    obtain ⟨t, rfl⟩ := rx
    obtain ⟨hy, e'⟩ : y.length ≤ sizeLine ∧ k = ((y.length : Int) != 0) := e
    subst e'
    exact PySem.P.truthy_str (by omega) ⟨H, I.tok _, q⟩
  | byt y =>
    obtain ⟨t, rfl⟩ := rx
    obtain ⟨hy, e'⟩ : y.size ≤ sizeLine ∧ k = ((y.size : Int) != 0) := e
    subst e'
    exact PySem.W.truthy_bytes (by omega) ⟨H, I.tok _, q⟩
  | ref p =>
    cases rx
    have e' : (∃ xs, SqL X.K H p xs ∧ k = !xs.isEmpty) ∨ (∃ xs, SqT X.K H p xs ∧ k = !xs.isEmpty) ∨ ∃ kvs, H p = some (.dK kvs) ∧ k = !kvs.isEmpty := e
    rcases e' with ⟨xs, hx, e'⟩ | ⟨xs, hx, e'⟩ | ⟨kvs, hx, e'⟩
    · subst e'
      obtain ⟨its, r, pl, hz⟩ := I.list hx
      have hlen := r.length
      exact wpAny_truthy_list pl.isList (by simp only [List.size_toArray]; omega) ⟨H, I.tok _, by rw [isEmpty_of r]; exact q⟩
    · subst e'
      obtain ⟨its, r, pl, hz⟩ := I.tuple hx
      have hlen := r.length
      exact truthy_tuple pl (by simp only [List.size_toArray]; omega) ⟨H, I.tok _, by rw [isEmpty_of r]; exact q⟩
    · subst e'
      obtain ⟨hz, hS, vs, r, m⟩ : kvs.length ≤ sizeLine ∧ (p == sysModules) = false ∧ ∃ vs, KV kvs vs ∧ s.heap.DictOf (mixKind X.prog X.w) p vs := I.hok p _ hx
      have hlen : kvs.length = vs.length := Paired.length r
      exact wpAny_truthy_dict hS m (by omega) ⟨H, I.tok _, by rw [isEmpty_kv r]; exact q⟩
  | _ => exact (show False from e).elim
/-- any expression whose test is its value's truth (a name, a call, a subscript, a field ..: he by fun _ => rfl) -/
theorem pt_truth (ha : PE X a ta) (he : ∀ whole, isTrue a X.env whole = (do let v ← whole; standAt a.pos; holding [v] (truthy v))) :
    PT X a (fun σ H Q => ta σ H fun x H' => ∃ k, TruV X.K x H' k ∧ Q k H') := by
  intro pins s σ H Q I h
  exact isTrue_plain (thn (ha pins s σ H _ I h) fun v s1 ⟨x, H1, I1, r1, q1⟩ => tru_ok pins s1 σ H1 x v Q I1 r1 q1) (he _)

/-! ### strs and bytes -/
theorem pe_byt {x : List UInt8} {k : Nat} : PE X (.Constant (.bytes x) k pos) (fun _ H Q => Q (.byt x.toArray) H) := fun _ _ _ H _ I h => PySem.W.Constant_bytes ⟨.byt x.toArray, H, I.tok _, ⟨_, rfl⟩, h⟩
theorem op_add_str : OpR X (binaryOp .Add) (fun x y H Q => ∃ i j, x = .str i ∧ y = .str j ∧ i.length + j.length ≤ sizeLine ∧ Q (.str (i ++ j)) H) := by
  intro pins s σ H x y v u Q I rx ry h
  obtain ⟨i, j, rfl, rfl, hz, q⟩ := h
  obtain ⟨t, rfl⟩ := rx
  obtain ⟨t', rfl⟩ := ry
  exact add_str (fun t' tk => ⟨.str (i ++ j), H, I.tok _, ⟨_, rfl⟩, q⟩) hz
theorem iop_add_str : OpR X (inplaceOp .Add) (fun x y H Q => ∃ i j, x = .str i ∧ y = .str j ∧ i.length + j.length ≤ sizeLine ∧ Q (.str (i ++ j)) H) := by
  intro pins s σ H x y v u Q I rx ry h
  obtain ⟨i, j, rfl, rfl, hz, q⟩ := h
  obtain ⟨t, rfl⟩ := rx
  obtain ⟨t', rfl⟩ := ry
  exact iadd_str (fun t' tk => ⟨.str (i ++ j), H, I.tok _, ⟨_, rfl⟩, q⟩) hz
theorem op_add_byt : OpR X (binaryOp .Add) (fun x y H Q => ∃ i j, x = .byt i ∧ y = .byt j ∧ i.size + j.size ≤ 16777216 ∧ Q (.byt (i ++ j)) H) := by
  intro pins s σ H x y v u Q I rx ry h
  obtain ⟨i, j, rfl, rfl, hz, q⟩ := h
  obtain ⟨t, rfl⟩ := rx
  obtain ⟨t', rfl⟩ := ry
  exact PySem.W.KBy.add_bytes hz (fun t' tk => ⟨.byt (i ++ j), H, I.tok _, ⟨_, rfl⟩, q⟩)

def PlainIxT (b : Expr) : Prop := ∀ o i, subscripted b false o i = operate [o, i] (getItem o i)
/-- s[i], 0 ≤ i < len -/
theorem pe_item_str (ha : PE X a ta) (hb : PE X b tb) (hs : PlainIxT b) :
    PE X (.Subscript a b pos) (tOp (fun x y H Q => ∃ z i c, x = .str z ∧ y = .int i ∧ 0 ≤ i ∧ i < 2 ^ 63 ∧ i < z.length ∧ z.cps[i.toNat]? = some c ∧ Q (.str ⟨#[c]⟩) H) ta tb) := by
  intro pins s σ H Q I h
  refine Subscript_ (binT ha hb I h fun v u s2 x y H2 I2 rx ry q => ?_)
  obtain ⟨z, i, c, rfl, rfl, h0, h63, h1, hc, q⟩ := q
  obtain ⟨t, rfl⟩ := rx
  obtain ⟨t', rfl⟩ := ry
  have e : seqIndex? i z.length = some i.toNat := PySem.StrLaws.seqIndex_nonneg h0 h1
  exact tail_any (typeIs_str s2 z t) slot_str_getitem.lookup (getItem_str (c := c) (by
    have e1 : decide (i < -(2 ^ 63 : Int)) = false := decide_eq_false (by omega)
    have e2 : decide (i ≥ 2 ^ 63) = false := decide_eq_false (by omega)
    rw [e1, e2] <;> rfl) (by rw [e]; exact hc) ⟨.str ⟨#[c]⟩, H2, I2.tok _, ⟨_, rfl⟩, q⟩) (hs _ _)
/-- b[i], 0 ≤ i < len -/
theorem pe_item_byt (ha : PE X a ta) (hb : PE X b tb) (hs : PlainIxT b) :
    PE X (.Subscript a b pos) (tOp (fun x y H Q => ∃ (z : List UInt8) (i : Int), x = .byt z.toArray ∧ y = .int i ∧ z.length ≤ sizeLine ∧ 0 ≤ i ∧ i < z.length ∧ Q (.int ((z.getD i.toNat 0).toNat : Nat)) H) ta tb) := by
  intro pins s σ H Q I h
  refine Subscript_ (binT ha hb I h fun v u s2 x y H2 I2 rx ry q => ?_)
  obtain ⟨z, i, rfl, rfl, hz, h0, h1, q⟩ := q
  obtain ⟨t, rfl⟩ := rx
  obtain ⟨t', rfl⟩ := ry
  have hl : sizeLine = 16777216 := sizeLine_eq
  exact tail_any (PySem.W.typeIs_bytes s2 z.toArray t) PySem.W.FB.slot_bytes_getitem.lookup (PySem.W.getItem_bytes (by omega) h0 h1 ⟨.int ((z.getD i.toNat 0).toNat : Nat), H2, I2.tok _, ⟨_, rfl⟩, q⟩) (hs _ _)

/-! ### scalar builtins, by CallR -/
theorem vals1 {x : V} {us : List Value} (r : Vals [x] us) : ∃ u, us = [u] ∧ RelV x u := by
  cases r with
  | cons r1 r2 => cases r2; exact ⟨_, rfl, r1⟩
theorem vals2 {x y : V} {us : List Value} (r : Vals [x, y] us) : ∃ u w', us = [u, w'] ∧ RelV x u ∧ RelV y w' := by
  cases r with
  | cons r1 r2 =>
    cases r2 with
    | cons r3 r4 => cases r4; exact ⟨_, _, rfl, r1, r3⟩
theorem call_abs : CallR X (.builtin "abs") (fun xs H Q => ∃ i, xs = [.int i] ∧ Q (.int (if i < 0 then -i else i)) H) := by
  intro pins s σ H xs us Q I r h
  obtain ⟨i, rfl, q⟩ := h
  obtain ⟨u, rfl, t, rfl⟩ := vals1 r
  exact call_abs_int fun u tk => ⟨.int (if i < 0 then -i else i), H, I.tok _, ⟨_, rfl⟩, q⟩
theorem call_max2 (hc : X.calm = true) : CallR X (.builtin "max") (fun xs H Q => ∃ i j, xs = [.int i, .int j] ∧ Q (.int (if j > i then j else i)) H) := by
  intro pins s σ H xs us Q I r h
  obtain ⟨i, j, rfl, q⟩ := h
  obtain ⟨u, w', rfl, ⟨t, rfl⟩, ⟨t', rfl⟩⟩ := vals2 r
  refine max_two_ints (I.ok.hd hc) fun h' tk k => ⟨_, H, I.kept k, ?_, q⟩
  by_cases hj : j > i
  · rw [if_pos hj, if_pos hj]; exact ⟨_, rfl⟩
  · rw [if_neg hj, if_neg hj]; exact ⟨_, rfl⟩
theorem call_min2 (hc : X.calm = true) : CallR X (.builtin "min") (fun xs H Q => ∃ i j, xs = [.int i, .int j] ∧ Q (.int (if j < i then j else i)) H) := by
  intro pins s σ H xs us Q I r h
  obtain ⟨i, j, rfl, q⟩ := h
  obtain ⟨u, w', rfl, ⟨t, rfl⟩, ⟨t', rfl⟩⟩ := vals2 r
  refine min_two_ints (I.ok.hd hc) fun h' tk k => ⟨_, H, I.kept k, ?_, q⟩
  by_cases hj : j < i
  · rw [if_pos hj, if_pos hj]; exact ⟨_, rfl⟩
  · rw [if_neg hj, if_neg hj]; exact ⟨_, rfl⟩
theorem call_int1 : CallR X (.type "int") (fun xs H Q => (∃ i, xs = [.int i] ∧ Q (.int i) H) ∨ ∃ k, xs = [.bl k] ∧ Q (.int (if k then 1 else 0)) H) := by
  intro pins s σ H xs us Q I r h
  rcases h with ⟨i, rfl, q⟩ | ⟨k, rfl, q⟩
  · obtain ⟨u, rfl, t, rfl⟩ := vals1 r
    exact call_int_int ⟨.int i, H, I, ⟨_, rfl⟩, q⟩
  · obtain ⟨u, rfl, r1⟩ := vals1 r
    cases r1
    exact call_int_bool ⟨.int (if k then 1 else 0), H, I.tok _, ⟨_, rfl⟩, q⟩
theorem call_bool1 : CallR X (.type "bool") (fun xs H Q => (∃ i, xs = [.int i] ∧ Q (.bl (i != 0)) H) ∨ ∃ k, xs = [.bl k] ∧ Q (.bl k) H) := by
  intro pins s σ H xs us Q I r h
  rcases h with ⟨i, rfl, q⟩ | ⟨k, rfl, q⟩
  · obtain ⟨u, rfl, t, rfl⟩ := vals1 r
    exact call_bool_int ⟨.bl (i != 0), H, I, rfl, q⟩
  · obtain ⟨u, rfl, r1⟩ := vals1 r
    cases r1
    exact call_bool_bool ⟨.bl k, H, I, rfl, q⟩
theorem call_str_int : CallR X (.type "str") (fun xs H Q => ∃ i, xs = [.int i] ∧ i.natAbs.log2 < 1920 ∧ Q (.str (toString i)) H) := by
  intro pins s σ H xs us Q I r h
  obtain ⟨i, rfl, hz, q⟩ := h
  obtain ⟨u, rfl, t, rfl⟩ := vals1 r
  exact PySem.P.str_of_int hz ⟨.str _, H, I.tok _, ⟨_, rfl⟩, q⟩
theorem call_ord : CallR X (.builtin "ord") (fun xs H Q => ∃ x, xs = [.str x] ∧ x.length = 1 ∧ Q (.int (x.cps.getD 0 0 : Nat)) H) := by
  intro pins s σ H xs us Q I r h
  obtain ⟨x, rfl, hz, q⟩ := h
  obtain ⟨u, rfl, t, rfl⟩ := vals1 r
  exact ord_of_one hz ⟨.int _, H, I.tok _, ⟨_, rfl⟩, q⟩
theorem call_chr : CallR X (.builtin "chr") (fun xs H Q => ∃ i, xs = [.int i] ∧ 0 ≤ i ∧ i ≤ 1114111 ∧ Q (.str ⟨#[i.toNat]⟩) H) := by
  intro pins s σ H xs us Q I r h
  obtain ⟨i, rfl, h0, h1, q⟩ := h
  obtain ⟨u, rfl, t, rfl⟩ := vals1 r
  exact chr_of_range h0 h1 ⟨.str _, H, I.tok _, ⟨_, rfl⟩, q⟩
/-- len of a str, a bytes, a list, a tuple -/
def LenV (K : PySem.W.Frag) (x : V) (H : Hp) (n : Nat) : Prop :=
  match x with
  | .str y => y.length ≤ sizeLine ∧ n = y.length
  | .byt y => y.size ≤ sizeLine ∧ n = y.size
  | .ref p => (∃ xs, SqL K H p xs ∧ n = xs.length) ∨ ∃ xs, SqT K H p xs ∧ n = xs.length
  | _ => False
theorem call_len : CallR X (.builtin "len") (fun xs H Q => ∃ x n, xs = [x] ∧ LenV X.K x H n ∧ Q (.int n) H) := by
  intro pins s σ H xs us Q I r h
  obtain ⟨x, n, rfl, e, q⟩ := h
  obtain ⟨u, rfl, rx⟩ := vals1 r
  have hl := line63
  have hs : sizeLine = 16777216 := sizeLine_eq
  cases x with
  | str y =>
    obtain ⟨t, rfl⟩ := rx
    obtain ⟨hy, e'⟩ : y.length ≤ sizeLine ∧ n = y.length := e
    subst e'
    exact len_str (by omega) ⟨.int _, H, I.tok _, ⟨_, rfl⟩, q⟩
  | byt y =>
    obtain ⟨t, rfl⟩ := rx
    obtain ⟨hy, e'⟩ : y.size ≤ sizeLine ∧ n = y.size := e
    subst e'
    exact PySem.W.len_bytes (by omega) ⟨.int _, H, I.tok _, ⟨_, rfl⟩, q⟩
  | ref p =>
    cases rx
    have e' : (∃ xs, SqL X.K H p xs ∧ n = xs.length) ∨ ∃ xs, SqT X.K H p xs ∧ n = xs.length := e
    rcases e' with ⟨xs, hx, e'⟩ | ⟨xs, hx, e'⟩
    · subst e'
      obtain ⟨its, r', pl, hz⟩ := I.list hx
      have hlen := r'.length
      exact Calls.call_len_list pl.isList (by simp only [List.size_toArray]; omega) ⟨.int xs.length, H, I.tok _, ⟨_, by simp only [List.size_toArray]; rw [hlen]⟩, q⟩
    · subst e'
      obtain ⟨its, r', pl, hz⟩ := I.tuple hx
      have hlen := r'.length
      exact len_tuple pl (by simp only [List.size_toArray]; omega) ⟨.int xs.length, H, I.tok _, ⟨_, by simp only [List.size_toArray]; rw [hlen]⟩, q⟩
  | _ => exact (show False from e).elim
/-- divmod: a new tuple -/
theorem call_divmod : CallR X (.builtin "divmod") (fun xs H Q => ∃ i j, xs = [.int i, .int j] ∧ CDiv i j ∧ ∀ p, H p = none → Q (.ref p) (upd H p (.tup [.int (i / j), .int (i % j)]))) := by
  intro pins s σ H xs us Q I r h
  obtain ⟨i, j, rfl, ⟨h1, h2⟩, q⟩ := h
  obtain ⟨u, w', rfl, ⟨t, rfl⟩, ⟨t', rfl⟩⟩ := vals2 r
  refine divmod_int (by omega) ?_ (.inl (PyProof.noPylong_small (by omega)))
  rw [Int.fdiv_eq_ediv_of_nonneg i (by omega), Int.fmod_eq_emod_of_nonneg i (by omega)]
  have hn : H s.heap.objs.size = none := I.hok.fresh (Nat.le_refl _)
  refine ⟨.ref s.heap.objs.size, _, ?_, rfl, q _ hn⟩
  refine I.laid (fun b o e => Heap.get?_push_of_some _ e) (Nat.le_refl _) ⟨by simp only [List.length_cons, List.length_nil]; rw [sizeLine_eq]; decide, [.int (i / j) s.toks, .int (i % j) (s.toks + 1)], .cons ⟨_, rfl⟩ (.cons ⟨_, rfl⟩ .nil), ?_⟩
  exact ⟨_, Heap.get?_push_size s.heap rfl, rfl, 0, rfl⟩
end
end L2

namespace L2
open PySem PySem.Spec PyProof.Rows

/-! ### an instance, its attributes a map -/
structure ObjM (h : Heap) (x dx C : Addr) (mA : Str → Option Value) : Prop where
  obj : h.get? x = some (PySem.W.instObj C dx)
  ns : h.Ns1 dx mA
  ne : dx ≠ x

theorem lookIn_ns {h : Heap} {dx : Addr} {mA : Str → Option Value} (n : h.Ns1 dx mA) : ∃ od, h.get? dx = some od ∧ ∀ name, PySem.W.lookIn name od = some (mA name) := by
  obtain ⟨o, es, ep, ho, hd, hk, _, hm⟩ := n
  refine ⟨o, ho, fun name => ?_⟩
  have e := hm name
  unfold nsFind findBy at e
  rw [← Array.find?_toList] at e
  unfold PySem.W.lookIn
  rw [hd]
  dsimp only
  split
  · rename_i y q
    rw [q] at e
    exact congrArg some e
  · rename_i q
    rw [q] at e
    have a : es.toList.any (·.refKey) = false := by
      rw [List.any_eq_false]
      intro y hy
      obtain ⟨z, t, hkey⟩ := hk y (Array.mem_toList_iff.mp hy)
      simp [DictEntry.refKey, hkey]
    have a' : ¬ es.toList.any (·.refKey) = true := by rw [a]; exact Bool.false_ne_true
    rw [if_neg a']
    exact congrArg some e

theorem ObjM.look {h : Heap} {x dx C : Addr} {mA : Str → Option Value} (I : ObjM h x dx C mA) : ∃ od, PySem.W.InstAt h x (PySem.W.instObj C dx) C (some od) ∧ ∀ name, PySem.W.lookIn name od = some (mA name) :=
  let ⟨od, ho, hl⟩ := lookIn_ns I.ns
  ⟨od, ⟨I.obj, rfl, rfl, ho⟩, hl⟩

section
variable {prog : Program} {w : World} {A : Around} {E : Value → Shared → Prop} {s : Shared} {K : PySem.W.Frag} {x dx C f : Addr} {mA : Str → Option Value} {name : Str} {v : Value}

theorem get_map {expr : Bool} {Q : Value → Shared → Prop} (X : K.In s.heap) (I : ObjM s.heap x dx C mA) (hg : PySem.W.plainGet K C name = true) (hh : PySem.W.hasDictIn K C = true)
    (ha : PySem.W.findIn K (.ref C) name = some none) (hv : mA name = some v) (hv' : PySem.W.handedIn v = true) (h : Q v { s with toks := s.toks + 1 }) :
    wpAny (model prog w) A (getAttr (.ref x) name expr) Q E s := by
  obtain ⟨od, J, hl⟩ := I.look
  exact PySem.W.get_value X J (PySem.W.plainGet_of hg).1 (PySem.W.findObj_own hh ha rfl (by rw [hl, hv])) hv' h

theorem get_const {expr : Bool} {a : Value} {Q : Value → Shared → Prop} (X : K.In s.heap) (I : ObjM s.heap x dx C mA) (hg : PySem.W.plainGet K C name = true) (hh : PySem.W.hasDictIn K C = true)
    (ha : PySem.W.findIn K (.ref C) name = some (some a)) (hn : PySem.W.specialIn K a "__get__" = some none) (hc : PySem.W.copiedNames.contains name = false) (hv : mA name = none) (hv' : PySem.W.handedIn a = true)
    (h : Q a { s with toks := s.toks + 1 }) : wpAny (model prog w) A (getAttr (.ref x) name expr) Q E s := by
  obtain ⟨od, J, hl⟩ := I.look
  exact PySem.W.get_value X J (PySem.W.plainGet_of hg).1 (PySem.W.findObj_cls hh ha hn hv' hc (by rw [hl, hv])) hv' h

theorem get_meth {pl : Sem Bool} {Q : Value × List Value → Shared → Prop} (X : K.In s.heap) (I : ObjM s.heap x dx C mA) (hg : PySem.W.plainGet K C name = true)
    (hf : PySem.W.findIn K (.ref C) name = some (some (.ref f))) (ht : PySem.W.isFn K (.ref f) = true) (hv : mA name = none) (h : Q (.ref f, [.ref x]) s) :
    wpAny (model prog w) A (getMethod (.ref x) name pl) Q E s := by
  obtain ⟨od, J, hl⟩ := I.look
  exact PySem.W.method_fn X J (PySem.W.plainGet_of hg).1 (PySem.W.plainGet_of hg).2 hf (beq_iff_eq.mp ht) (by show (PySem.W.lookIn name od).map (·.isSome) = some false; rw [hl, hv]; rfl) h

theorem set_map {ns : List Str} {Q : Unit → Shared → Prop} (X : K.In s.heap) (I : ObjM s.heap x dx C mA)
    (hs : PySem.W.findIn K (.ref C) "__setattr__" = some (some (.builtin "object.__setattr__"))) (hp : PySem.W.plainOver K C = true) (ht : PySem.W.takerIn K C name = some none) (hh : PySem.W.hasDictIn K C = true)
    (hw : PySem.Within mA ns) (hsz : ns.length ≤ sizeLine)
    (h : ∀ h', ObjM h' x dx C (fun y => if y = name then some v else mA y) → Heap.SameBut dx s.heap h' → Q () { s with heap := h', toks := s.toks + 2 }) :
    wpAny (model prog w) A (setAttr (.ref x) name v) Q E s := by
  obtain ⟨od, J, hl⟩ := I.look
  refine PySem.W.set_plain X J hs (PySem.W.osa_open (s := { s with toks := s.toks + 1 }) (r := none) X J hp ht fun b => ?_)
  obtain ⟨cd, hc, hd'⟩ := PySem.W.any_some hh
  have hx : s.heap.get? x = some ⟨.ref C, some dx, .plain, #[]⟩ := I.obj
  refine wpAny_bind (wpAny_pure (wpAny_bind (wpAny_bind (wpAny_loadPart hx (wpAny_bind (PySem.W.Looks.here (s := { s with toks := s.toks + 1 }) (PySem.W.looks_clsIn X hc) ?_))))))
  rw [hd']
  refine wpAny_pure (a := some dx) (wpAny_bind (wpAny_pure (wpAny_bind ?_)))
  refine wpAny_nsSet1 (s := { s with toks := s.toks + 1 }) I.ns fun h' hn2 hs2 => ?_
  obtain ⟨oD, esD, epD, hoD, hdD, hcD⟩ := hn2.count (PySem.Within.cons name v hw)
  refine wpAny_bind (wpAny_lookBehind hoD (by rw [hdD]; exact pastItsLine_dict (Nat.le_trans hcD (by rw [List.length_cons]; omega))) ?_)
  exact wpAny_pure (h _ ⟨(hs2.2 _ (Ne.symm I.ne)).trans I.obj, hn2, I.ne⟩ hs2)

/-- C(..): the dict at the heap's end, the instance behind it; then its __init__ -/
theorem make_map {R : Result → Shared → Prop} {vs : List Value} {kw : List (Str × Value)} (X : K.In s.heap) (hm : PySem.W.makesIn K C = true)
    (hi : PySem.W.findIn K (.ref C) "__init__" = some (some (.ref f))) (hf : PySem.W.typeIn K (.ref f) = some (.type "function"))
    (h : codeAny (model prog w) (A.under (.builtin "type.__call__" ⟨.ref C :: vs, kw⟩)) (.call (.ref f) ⟨.ref (s.heap.objs.size + 1) :: vs, kw⟩) (PySem.W.InitBack (s.heap.objs.size + 1) R)
      { s with heap := (s.heap.push PySem.W.emptyDict).push (PySem.W.instObj C s.heap.objs.size) }) :
    codeAny (model prog w) A (.call (.ref C) ⟨vs, kw⟩) R s := by
  obtain ⟨hh, g, d, t, os⟩ := s
  exact PySem.W.make_core (PySem.W.makes_of X hm) (PySem.W.looks_findIn X hi) (fun self => PySem.W.bind_fn X self hf) (.inl rfl) h
/-- C() where there is no __init__ but object's -/
theorem make_map0 {R : Result → Shared → Prop} (X : K.In s.heap) (hm : PySem.W.makesIn K C = true)
    (hi : PySem.W.findIn K (.ref C) "__init__" = some (some (.builtin "object.__init__")))
    (hb : ∀ self, PySem.W.Looks (model prog w) s.heap (bindSpecial (.builtin "object.__init__") self) (.builtin "object.__init__", [self]))
    (h : codeAny (model prog w) (A.under (.builtin "type.__call__" ⟨[.ref C], []⟩)) (.call (.builtin "object.__init__") ⟨[.ref (s.heap.objs.size + 1)], []⟩) (PySem.W.InitBack (s.heap.objs.size + 1) R)
      { s with heap := (s.heap.push PySem.W.emptyDict).push (PySem.W.instObj C s.heap.objs.size) }) :
    codeAny (model prog w) A (.call (.ref C) ⟨[], []⟩) R s := by
  obtain ⟨hh, g, d, t, os⟩ := s
  exact PySem.W.make_core (PySem.W.makes_of X hm) (PySem.W.looks_findIn X hi) hb (.inr ⟨rfl, rfl⟩) h
end

/-! ### the attributes as a list of pairs -/
def putF (f : Str) (v : V) : List (Str × V) → List (Str × V)
  | [] => [(f, v)]
  | (g, x) :: r => if g = f then (g, v) :: r else (g, x) :: putF f v r
theorem lookup_putF (f g : Str) (v : V) : ∀ fs : List (Str × V), (putF f v fs).lookup g = if g = f then some v else fs.lookup g
  | [] => by
    show List.lookup g [(f, v)] = _
    by_cases h : g = f
    · have hb : (g == f) = true := beq_iff_eq.mpr h
      simp only [List.lookup, hb, if_pos h]
    · have hb : (g == f) = false := beq_eq_false_iff_ne.mpr h
      simp only [List.lookup, hb, if_neg h]
  | (k, x) :: r => by
    have ih := lookup_putF f g v r
    rw [show putF f v ((k, x) :: r) = (if k = f then (k, v) :: r else (k, x) :: putF f v r) from rfl]
    by_cases hk : k = f
    · rw [if_pos hk]
      by_cases h : g = k
      · have hb : (g == k) = true := beq_iff_eq.mpr h
        simp only [List.lookup, hb, if_pos (h.trans hk)]
      · have hb : (g == k) = false := beq_eq_false_iff_ne.mpr h
        simp only [List.lookup, hb, if_neg (fun e : g = f => h (e.trans hk.symm))]
    · rw [if_neg hk]
      by_cases h : g = k
      · have hb : (g == k) = true := beq_iff_eq.mpr h
        simp only [List.lookup, hb, if_neg (fun e : g = f => hk (h.symm.trans e))]
      · have hb : (g == k) = false := beq_eq_false_iff_ne.mpr h
        simp only [List.lookup, hb]
        exact ih
theorem keys_putF (f : Str) (v : V) : ∀ fs : List (Str × V), f ∈ (putF f v fs).map (·.1) ∧ ∀ g, g ∈ fs.map (·.1) → g ∈ (putF f v fs).map (·.1)
  | [] => ⟨by simp [putF], fun g h => by simp at h⟩
  | (k, x) :: r => by
    obtain ⟨i1, i2⟩ := keys_putF f v r
    rw [show putF f v ((k, x) :: r) = (if k = f then (k, v) :: r else (k, x) :: putF f v r) from rfl]
    by_cases hk : k = f
    · rw [if_pos hk]
      subst hk
      exact ⟨by simp, fun g h => by simpa using h⟩
    · rw [if_neg hk]
      refine ⟨?_, fun g h => ?_⟩
      · rw [List.map_cons]
        exact List.mem_cons_of_mem _ i1
      · rw [List.map_cons] at h ⊢
        rcases List.mem_cons.mp h with e | e
        · exact List.mem_cons.mpr (.inl e)
        · exact List.mem_cons_of_mem _ (i2 g e)
theorem length_putF (f : Str) (v : V) : ∀ fs : List (Str × V), (putF f v fs).length ≤ fs.length + 1
  | [] => by simp [putF]
  | (k, x) :: r => by
    have ih := length_putF f v r
    rw [show putF f v ((k, x) :: r) = (if k = f then (k, v) :: r else (k, x) :: putF f v r) from rfl]
    by_cases hk : k = f
    · rw [if_pos hk, List.length_cons, List.length_cons]; omega
    · rw [if_neg hk, List.length_cons, List.length_cons]; omega

theorem RelO.some_of {v : V} {o : Option Value} (r : RelO (some v) o) : ∃ u, o = some u ∧ RelV v u := by
  cases o with
  | none => exact (show False from r).elim
  | some u => exact ⟨u, rfl, r⟩
theorem RelO.none_of {o : Option Value} (r : RelO none o) : o = none := by
  cases o with
  | none => rfl
  | some u => exact (show False from r).elim
theorem handed_of {v : V} {u : Value} (r : RelV v u) : PySem.W.handedIn u = true := by
  cases v with
  | non => cases (show u = Value.none from r); rfl
  | bl b => cases (show u = Value.bool b from r); rfl
  | int i => obtain ⟨t, e⟩ := (show ∃ t, u = Value.int i t from r); cases e; rfl
  | str x => obtain ⟨t, e⟩ := (show ∃ t, u = Value.str x t from r); cases e; rfl
  | byt b => obtain ⟨t, e⟩ := (show ∃ t, u = Value.bytes b t from r); cases e; rfl
  | flt b => obtain ⟨t, e⟩ := (show ∃ t, u = Value.float b t from r); cases e; rfl
  | ref a => cases (show u = Value.ref a from r); rfl
  | ty n => cases (show u = Value.type n from r); rfl

section
variable {P : Program} {w : World} {H H' : Hp} {h h' : Heap} {a C dx : Addr} {fs fs' : List (Str × V)}
theorem ins_get (hok : HOk P w H h) (e : H a = some (.ins C dx fs)) : ∃ mA, ObjM h a dx C mA ∧ (∀ f, RelO (fs.lookup f) (mA f)) ∧ PySem.Within mA (fs.map (·.1)) ∧ fs.length ≤ 1000 ∧ H dx = some (.own a) := by
  obtain ⟨d, z, ne, ob, mA, n, r, q⟩ := (show ObjOk P w H h a (.ins C dx fs) from hok a _ e)
  exact ⟨mA, ⟨ob, n, ne⟩, r, q, z, d⟩
end

/-! ### what of the text a class must have -/
structure Cls (K : PySem.W.Frag) (C : Addr) : Prop where
  pg : PySem.W.plainGet K C Str.empty = true
  hd : PySem.W.hasDictIn K C = true
  po : PySem.W.plainOver K C = true
  sa : PySem.W.findIn K (.ref C) "__setattr__" = some (some (.builtin "object.__setattr__"))
theorem Cls.get {K : PySem.W.Frag} {C : Addr} (c : Cls K C) (f : Str) : PySem.W.plainGet K C f = true := c.pg
/-- no class of it has the name -/
def NoAttr (K : PySem.W.Frag) (C : Addr) (f : Str) : Prop := PySem.W.findIn K (.ref C) f = some none
theorem NoAttr.taker {K : PySem.W.Frag} {C : Addr} {f : Str} (n : NoAttr K C f) : PySem.W.takerIn K C f = some none := by
  unfold PySem.W.takerIn
  rw [show PySem.W.findIn K (.ref C) f = some none from n]
  rfl
/-- a constant of the class -/
structure Con (K : PySem.W.Frag) (C : Addr) (f : Str) (v : V) (u : Value) : Prop where
  at_ : PySem.W.findIn K (.ref C) f = some (some u)
  rel : RelV v u
  get : PySem.W.specialIn K u "__get__" = some none
  cp : PySem.W.copiedNames.contains f = false
/-- a method: a plain def of the class or of one above it -/
structure Meth (K : PySem.W.Frag) (C : Addr) (m : Str) (f : Addr) : Prop where
  at_ : PySem.W.findIn K (.ref C) m = some (some (.ref f))
  fn : PySem.W.isFn K (.ref f) = true
  kp : PySem.W.keepIn K (.ref f) = true

section
variable {X : Cx} {pins : List (Addr × Obj)} {σ : St} {H : Hp} {s : Shared} {a C dx : Addr} {fs : List (Str × V)} {f : Str} {v : V} {A : Around} {E : Value → Shared → Prop}

theorem getattr_ok {b : Bool} {Q : Value → Shared → Prop} (I : Inv X pins σ H s) (e : H a = some (.ins C dx fs)) (c : Cls X.K C) (n : NoAttr X.K C f) (l : fs.lookup f = some v)
    (h : ∀ u s', Inv X pins σ H s' → RelV v u → Q u s') : wpAny (model X.prog X.w) A (getAttr (.ref a) f b) Q E s := by
  obtain ⟨mA, O, r, _, _, _⟩ := ins_get I.hok e
  obtain ⟨u, hu, ru⟩ := RelO.some_of (v := v) (o := mA f) (by rw [← l]; exact r f)
  exact get_map I.kIn O (c.get f) c.hd n hu (handed_of ru) (h u _ (I.tok _) ru)

theorem getcon_ok {b : Bool} {u : Value} {Q : Value → Shared → Prop} (I : Inv X pins σ H s) (e : H a = some (.ins C dx fs)) (c : Cls X.K C) (k : Con X.K C f v u) (l : fs.lookup f = none)
    (h : ∀ s', Inv X pins σ H s' → Q u s') : wpAny (model X.prog X.w) A (getAttr (.ref a) f b) Q E s := by
  obtain ⟨mA, O, r, _, _, _⟩ := ins_get I.hok e
  have hn : mA f = none := RelO.none_of (by rw [← l]; exact r f)
  exact get_const I.kIn O (c.get f) c.hd k.at_ k.get k.cp hn (handed_of k.rel) (h _ (I.tok _))

theorem getmeth_ok {m : Str} {g : Addr} {pl : Sem Bool} {Q : Value × List Value → Shared → Prop} (I : Inv X pins σ H s) (e : H a = some (.ins C dx fs)) (c : Cls X.K C) (k : Meth X.K C m g) (l : fs.lookup m = none)
    (h : Q (.ref g, [.ref a]) s) : wpAny (model X.prog X.w) A (getMethod (.ref a) m pl) Q E s := by
  obtain ⟨mA, O, r, _, _, _⟩ := ins_get I.hok e
  have hn : mA m = none := RelO.none_of (by rw [← l]; exact r m)
  exact get_meth I.kIn O (c.get m) k.at_ k.fn hn h

theorem setattr_ok {y : V} {u : Value} {Q : Unit → Shared → Prop} (I : Inv X pins σ H s) (e : H a = some (.ins C dx fs)) (c : Cls X.K C) (n : NoAttr X.K C f) (hl : fs.length < 1000) (ry : RelV y u)
    (h : ∀ s', Inv X pins σ (upd H a (.ins C dx (putF f y fs))) s' → Q () s') : wpAny (model X.prog X.w) A (setAttr (.ref a) f u) Q E s := by
  obtain ⟨mA, O, r, wi, _, ho⟩ := ins_get I.hok e
  have hz : (fs.map (·.1)).length ≤ sizeLine := by rw [List.length_map, sizeLine_eq]; omega
  refine set_map I.kIn O c.sa c.po n.taker c.hd wi hz fun h' O' sb => h _ ?_
  have hd : ∃ o, h'.get? dx = some o := let ⟨o, _, _, e', _⟩ := O'.ns; ⟨o, e'⟩
  refine I.write (x := a) (e := dx) (by rw [e]; exact True.intro) (.inr ho) (fun b q hb z => (sb.2 b hb).trans z) hd ?_
  refine ⟨by rw [upd_ne O.ne]; exact ho, ?_, O.ne, O'.obj, _, O'.ns, fun g => ?_, fun g hg => ?_⟩
  · have := length_putF f y fs; omega
  · show RelO ((putF f y fs).lookup g) (if g = f then some u else mA g)
    rw [lookup_putF]
    by_cases q : g = f
    · rw [if_pos q, if_pos q]; exact ry
    · rw [if_neg q, if_neg q]; exact r g
  · by_cases q : g = f
    · rw [q]; exact (keys_putF f y fs).1
    · refine (keys_putF f y fs).2 g (wi g fun z => hg ?_)
      show (if g = f then some u else mA g) = none
      rw [if_neg q]; exact z

/-- a new instance, tracked, without attributes -/
theorem Inv.made (I : Inv X pins σ H s) : Inv X pins σ (upd (upd H s.heap.objs.size (.own (s.heap.objs.size + 1))) (s.heap.objs.size + 1) (.ins C s.heap.objs.size []))
    { s with heap := (s.heap.push PySem.W.emptyDict).push (PySem.W.instObj C s.heap.objs.size) } := by
  have e1 : (s.heap.push PySem.W.emptyDict).get? s.heap.objs.size = some PySem.W.emptyDict := Heap.get?_push_size s.heap rfl
  have e2 : ((s.heap.push PySem.W.emptyDict).push (PySem.W.instObj C s.heap.objs.size)).get? (s.heap.objs.size + 1) = some (PySem.W.instObj C s.heap.objs.size) := by
    have := Heap.get?_push_size (s.heap.push PySem.W.emptyDict) (o := PySem.W.instObj C s.heap.objs.size) rfl
    rwa [Heap.size_push] at this
  have e3 : (s.heap.push PySem.W.emptyDict).Ns s.heap.objs.size (fun _ => none) := ⟨PySem.W.emptyDict, #[], _, e1, rfl, (fun e he => absurd he (by simp)), fun _ => rfl⟩
  have I1 := I.laid (a := s.heap.objs.size) (o := .own (s.heap.objs.size + 1)) (h' := s.heap.push PySem.W.emptyDict) (t' := s.toks) (fun b u q => Heap.get?_push_of_some _ q) (Nat.le_refl _) ⟨_, e1⟩
  refine I1.laid (a := s.heap.objs.size + 1) (o := .ins C s.heap.objs.size []) (t' := s.toks) (fun b u q => Heap.get?_push_of_some _ q) (Nat.le_of_eq (Heap.size_push _ _)) ?_
  have ne : s.heap.objs.size ≠ s.heap.objs.size + 1 := Nat.ne_of_lt (Nat.lt_succ_self _)
  refine ⟨by rw [upd_ne ne, upd_same], Nat.zero_le _, ne, e2, fun _ => none, (Heap.Ns1.of_empty e3).at fun o q => Heap.get?_push_of_some _ q, fun _ => True.intro, fun y hy => absurd rfl hy⟩

/-- e.f where nothing but the object is asked: through attributeBase (super) and the last hold -/
theorem attr_of {prog : Program} {w : World} {env : Env} {e : Expr} {f : Str} {pos : Pos} {s : Shared} {Q : Value → Shared → Prop} (hb : attributeBase e f env (eval e env) = eval e env)
    (h : wpAny (model prog w) A (eval e env) (fun o s₁ => wpAny (model prog w) A (getAttr o f true) Q E s₁) E s) : wpAny (model prog w) A (eval (.Attribute e f pos) env) Q E s :=
  Attribute_any_ h (by rw [arm_eval_Attribute, hb])
end

/-! ### readings and rules -/
/-- e.f, an attribute of the instance -/
def tFld (K : PySem.W.Frag) (ta : TE) (f : Str) : TE := fun σ H Q => ta σ H fun x H1 => ∃ a C dx fs v, x = .ref a ∧ H1 a = some (.ins C dx fs) ∧ Cls K C ∧ NoAttr K C f ∧ fs.lookup f = some v ∧ Q v H1
/-- e.f, a constant of the class -/
def tCon (K : PySem.W.Frag) (ta : TE) (f : Str) : TE := fun σ H Q => ta σ H fun x H1 => ∃ a C dx fs v u, x = .ref a ∧ H1 a = some (.ins C dx fs) ∧ Cls K C ∧ Con K C f v u ∧ fs.lookup f = none ∧ Q v H1
/-- e.f = value -/
def sFld (K : PySem.W.Frag) (ta tv : TE) (f : Str) : TS := fun D σ H => tv σ H fun y H1 => ta σ H1 fun x H2 => ∃ a C dx fs, x = .ref a ∧ H2 a = some (.ins C dx fs) ∧ Cls K C ∧ NoAttr K C f ∧ fs.length < 1000 ∧
  D.nx σ (upd H2 a (.ins C dx (putF f y fs)))
/-- an augmented operator on two values -/
def InOp (X : Cx) (op : Operator) (rd : V → V → Hp → VK → Prop) : Prop :=
  ∀ (pins : List (Addr × Obj)) (s : Shared) (σ : St) (H : Hp) (x y : V) (u v : Value) (Q : VK), Inv X pins σ H s → RelV x u → RelV y v → rd x y H Q → wpAny (model X.prog X.w) X.A (inplaceOp op u v) (EP X pins σ Q) X.xe s
/-- e.f op= value -/
def sFldAug (K : PySem.W.Frag) (ta tv : TE) (rd : V → V → Hp → VK → Prop) (f : Str) : TS := fun D σ H => ta σ H fun x H1 => ∃ a C dx fs v, x = .ref a ∧ H1 a = some (.ins C dx fs) ∧ Cls K C ∧ NoAttr K C f ∧ fs.lookup f = some v ∧
  tv σ H1 fun y H2 => rd v y H2 fun z H3 => ∃ dx' fs', H3 a = some (.ins C dx' fs') ∧ fs'.length < 1000 ∧ D.nx σ (upd H3 a (.ins C dx' (putF f z fs')))

section
variable {X : Cx} {o e value : Expr} {f : Str} {pos pos' tpos : Pos} {ta tv : TE}
theorem pe_fld (he : PE X e ta) (hb : attributeBase e f X.env (eval e X.env) = eval e X.env) : PE X (.Attribute e f pos) (tFld X.K ta f) := by
  intro pins s σ H Q I h
  refine attr_of hb (thn (he pins s σ H _ I h) fun u s1 ⟨x, H1, I1, rx, a, C, dx, fs, v, ex, ea, c, n, l, q⟩ => ?_)
  subst ex
  obtain rfl : u = Value.ref a := rx
  exact getattr_ok I1 ea c n l fun u' s2 I2 ru => ⟨v, H1, I2, ru, q⟩
theorem pe_con (he : PE X e ta) (hb : attributeBase e f X.env (eval e X.env) = eval e X.env) : PE X (.Attribute e f pos) (tCon X.K ta f) := by
  intro pins s σ H Q I h
  refine attr_of hb (thn (he pins s σ H _ I h) fun u s1 ⟨x, H1, I1, rx, a, C, dx, fs, v, u0, ex, ea, c, k, l, q⟩ => ?_)
  subst ex
  obtain rfl : u = Value.ref a := rx
  exact getcon_ok I1 ea c k l fun s2 I2 => ⟨v, H1, I2, k.rel, q⟩
theorem ps_fld (ha : PE X o ta) (hv : PE X value tv) (hs : swapsWith value (some (.Attribute o f pos')) pos.line X.env = pure false) : PS X (.Assign [.Attribute o f pos'] value pos) (sFld X.K ta tv f) := by
  intro pins s σ H D I h
  refine plainObj_wpAny_Assign_Attribute (thn (hv pins s σ H _ I h) fun u s1 ⟨y, H1, I1, ry, q⟩ => thn (ha pins s1 σ H1 _ I1 q) fun ov s2 ⟨x, H2, I2, rx, a, C, dx, fs, ex, ea, c, n, l, q2⟩ => ?_) hs
  subst ex
  obtain rfl : ov = Value.ref a := rx
  exact setattr_ok I2 ea c n l ry fun s3 I3 => ⟨σ, _, I3, q2⟩
theorem ps_fldaug {op : Operator} {rd : V → V → Hp → VK → Prop} (ha : PE X o ta) (hv : PE X value tv) (hop : InOp X op rd) : PS X (.AugAssign (.Attribute o f tpos) op value pos) (sFldAug X.K ta tv rd f) := by
  intro pins s σ H D I h
  refine wpAny_AugAssign_AttributeAny (thn (ha pins s σ H _ I h) fun ov s1 ⟨x, H1, I1, rx, a, C, dx, fs, v, ex, ea, c, n, l, q⟩ => ?_)
  subst ex
  obtain rfl : ov = Value.ref a := rx
  refine getattr_ok I1 ea c n l fun u s2 I2 ru => thn (hv pins s2 σ H1 _ I2 q) fun w3 s3 ⟨y, H2, I3, ry, q3⟩ => thn (hop pins s3 σ H2 v y u w3 _ I3 ru ry q3) fun w4 s4 ⟨z, H3, I4, rz, dx', fs', ea', l', q4⟩ => ?_
  exact setattr_ok I4 ea' c n l' rz fun s5 I5 => ⟨σ, _, I5, q4⟩
def rAdd : V → V → Hp → VK → Prop := fun x y H Q => ∃ i j, x = .int i ∧ y = .int j ∧ Q (.int (i + j)) H
def rSub : V → V → Hp → VK → Prop := fun x y H Q => ∃ i j, x = .int i ∧ y = .int j ∧ Q (.int (i - j)) H
theorem in_add : InOp X .Add rAdd := by
  rintro pins s σ H x y u v Q I rx ry ⟨i, j, rfl, rfl, q⟩
  obtain ⟨t, rfl⟩ := (show ∃ t, u = Value.int i t from rx)
  obtain ⟨t', rfl⟩ := (show ∃ t', v = Value.int j t' from ry)
  exact PyProof.Rows.iadd_int ⟨.int (i + j), H, I.tok _, ⟨_, rfl⟩, q⟩
theorem in_sub : InOp X .Sub rSub := by
  rintro pins s σ H x y u v Q I rx ry ⟨i, j, rfl, rfl, q⟩
  obtain ⟨t, rfl⟩ := (show ∃ t, u = Value.int i t from rx)
  obtain ⟨t', rfl⟩ := (show ∃ t', v = Value.int j t' from ry)
  exact PyProof.Rows.isub_int ⟨.int (i - j), H, I.tok _, ⟨_, rfl⟩, q⟩

/-- what is between an instance and its method: the tree of a method call -/
theorem methcall_of {pl : Sem Bool} {m : Str} {apos : Pos} {args : List Expr} {pins : List (Addr × Obj)} {s : Shared} {σ : St} {H : Hp} {Q : Value → Shared → Prop} {te : TE} (he : PE X e te) (I : Inv X pins σ H s)
    (h : te σ H fun x H1 => ∃ a C dx fs g, x = .ref a ∧ H1 a = some (.ins C dx fs) ∧ Cls X.K C ∧ Meth X.K C m g ∧ fs.lookup m = none ∧
      ∀ s1, Inv X pins σ H1 s1 → wpAny (model X.prog X.w) X.A (callWith pos (.ref g) [.ref a] (backTo pos (starEach args X.env)) (backToKw pos (keywordEach [] X.env))) Q X.xe s1)
    (ht : eval (.Call (.Attribute e m apos) args [] pos) X.env = (do
      let ov ← eval e X.env
      standAt apos.atName
      let (f, first) ← holding [ov] (getMethod ov m pl)
      callWith pos f first (backTo pos (starEach args X.env)) (backToKw pos (keywordEach [] X.env)))) :
    wpAny (model X.prog X.w) X.A (eval (.Call (.Attribute e m apos) args [] pos) X.env) Q X.xe s := by
  refine PySem.W.methodCall_KW (pl := pl) (thn (he pins s σ H _ I h) fun u s1 ⟨x, H1, I1, rx, a, C, dx, fs, g, ex, ea, c, k, l, q⟩ => ?_) ht
  subst ex
  obtain rfl : u = Value.ref a := rx
  exact getmeth_ok I1 ea c k l (q s1 I1)
end

/-! ### isinstance -/
section
variable {X : Cx} {pins : List (Addr × Obj)} {σ : St} {H : Hp} {s : Shared} {A : Around} {E : Value → Shared → Prop} {Q : Value → Shared → Prop} {c : Value} {b : Bool}
/-- the type of a value, as the fragment's deciders take it; for an instance its class -/
inductive TyOf (K : PySem.W.Frag) (H : Hp) : V → Value → Prop where
  | non : TyOf K H .non (.type "NoneType")
  | bl (x : Bool) : TyOf K H (.bl x) (.type "bool")
  | int (i : Int) : TyOf K H (.int i) (.type "int")
  | str (x : Str) : TyOf K H (.str x) (.type "str")
  | flt (x : UInt64) : TyOf K H (.flt x) (.type "float")
  | lst {a : Addr} {xs : List V} (e : H a = some (.lst xs)) : TyOf K H (.ref a) (.type "list")
  | frz {a : Addr} {o : Obj} {xs : List V} (e : H a = some (.frz o (.lst xs))) : TyOf K H (.ref a) (.type "list")
  | tup {a : Addr} {xs : List V} (e : H a = some (.tup xs)) : TyOf K H (.ref a) (.type "tuple")
  | dK {a : Addr} {kvs : List (Key × V)} (e : H a = some (.dK kvs)) : TyOf K H (.ref a) (.type "dict")
  | dT {a : Addr} {kvs : List (List Key × V)} (e : H a = some (.dT kvs)) : TyOf K H (.ref a) (.type "dict")
  | ins {a C dx : Addr} {fs : List (Str × V)} (e : H a = some (.ins C dx fs)) (cl : Cls K C) (ha : PySem.W.findIn K (.ref C) "__class__" = some (some (.builtin "object.__class__")))
      (hn : PySem.W.specialIn K (.builtin "object.__class__") "__get__" = some (some (.builtin "getset_descriptor.__get__"))) (htk : PySem.W.takesIn K (.builtin "object.__class__") = some true)
      (hm : PySem.W.mroIn K C (.type "object") = some true) : TyOf K H (.ref a) (.ref C)
/-- isinstance(x, c) for one class c, a built-in or an own one: kitOne's answer -/
theorem isinst_ok {x : V} {u t : Value} (I : Inv X pins σ H s) (rx : RelV x u) (ty : TyOf X.K H x t) (e : PySem.W.kitOne X.K t c = some b) (h : ∀ tk, Q (.bool b) { s with toks := tk }) :
    wpAny (model X.prog X.w) A (call (.builtin "isinstance") [u, c]) Q E s := by
  cases ty with
  | non => cases (show u = Value.none from rx); exact PySem.W.kia_one PySem.W.kitx_none I.kIn True.intro e (fun z => nomatch z) h
  | bl y => cases (show u = Value.bool y from rx); exact PySem.W.kia_one PySem.W.kitx_bool I.kIn True.intro e (fun z => nomatch z) h
  | int i => obtain ⟨t, q⟩ := (show ∃ t, u = Value.int i t from rx); cases q; exact PySem.W.kia_one PySem.W.kitx_int I.kIn True.intro e (fun z => nomatch z) h
  | str y => obtain ⟨t, q⟩ := (show ∃ t, u = Value.str y t from rx); cases q; exact PySem.W.kia_one PySem.W.kitx_str I.kIn True.intro e (fun z => nomatch z) h
  | flt y => obtain ⟨t, q⟩ := (show ∃ t, u = Value.float y t from rx); cases q; exact PySem.W.kia_one PySem.W.kitx_float I.kIn True.intro e (fun z => nomatch z) h
  | @lst a xs ea =>
    cases (show u = Value.ref a from rx)
    obtain ⟨_, _, n, _, h1⟩ := (show ObjOk X.prog X.w H s.heap a (.lst xs) from I.hok a _ ea)
    exact PySem.W.kia_one PySem.W.kitx_list I.kIn ⟨_, h1, rfl⟩ e (fun z => nomatch z) h
  | @frz a ob xs ea =>
    cases (show u = Value.ref a from rx)
    obtain ⟨_, _, _, n, _, h1⟩ := (show ObjOk X.prog X.w H s.heap a (.frz ob (.lst xs)) from I.hok a _ ea)
    exact PySem.W.kia_one PySem.W.kitx_list I.kIn ⟨_, h1, rfl⟩ e (fun z => nomatch z) h
  | @tup a xs ea =>
    cases (show u = Value.ref a from rx)
    obtain ⟨_, _, _, p⟩ := (show ObjOk X.prog X.w H s.heap a (.tup xs) from I.hok a _ ea)
    obtain ⟨o, h1, h2, _⟩ := p
    exact PySem.W.kia_one PySem.W.kitx_tuple I.kIn ⟨o, h1, h2⟩ e (fun z => nomatch z) h
  | @dK a kvs ea =>
    cases (show u = Value.ref a from rx)
    obtain ⟨_, _, vs, _, p⟩ := (show ObjOk X.prog X.w H s.heap a (.dK kvs) from I.hok a _ ea)
    obtain ⟨o, es, ep, h1, h2, _⟩ := p
    exact PySem.W.kia_one PySem.W.kitx_dict I.kIn ⟨o, h1, h2.1⟩ e (fun z => nomatch z) h
  | @dT a kvs ea =>
    cases (show u = Value.ref a from rx)
    obtain ⟨_, _, xs, _, o, es, ep, h1, h2, _⟩ := (show ObjOk X.prog X.w H s.heap a (.dT kvs) from I.hok a _ ea)
    exact PySem.W.kia_one PySem.W.kitx_dict I.kIn ⟨o, h1, h2.1⟩ e (fun z => nomatch z) h
  | @ins a C dx fs ea cl ha hn htk hm =>
    cases (show u = Value.ref a from rx)
    obtain ⟨mA, O, _⟩ := ins_get I.hok ea
    obtain ⟨od, J, _⟩ := O.look
    exact PySem.W.kia_one (PySem.W.kitx_own (cl.get _) cl.hd ha hn htk hm) I.kIn J e (fun z => nomatch z) h
end
end L2

namespace L2
open PySem PySem.Spec PyProof.Rows

/-! ### room -/
structure Room (k : Nat) (A : Around) : Prop where
  hd : A.handled = none
  dp : A.depth + 3 * k + 5 < recursionLimit
  un : A.units + 16 * k + 200 < cLine
theorem Room.mono {j k : Nat} {A : Around} (r : Room k A) (h : j ≤ k) : Room j A := ⟨r.hd, by have := r.dp; omega, by have := r.un; omega⟩
theorem Room.deeper {k : Nat} {A : Around} (r : Room (k + 1) A) (env : Env) : Room k (A.deeper env) :=
  ⟨r.hd, by have := r.dp; show A.depth + 1 + 3 * k + 5 < _; omega, by have := r.un; show A.units + 3 + 16 * k + 200 < _; omega⟩
theorem Room.in1 {k : Nat} {A : Around} (r : Room (k + 1) A) : Room k A.in1 :=
  ⟨r.hd, by have := r.dp; show A.depth + 3 * k + 5 < _; omega, by have := r.un; show A.units + 1 + 16 * k + 200 < _; omega⟩
theorem make_depth {A : Around} {C : Addr} {us : List Value} {kw : List (Str × Value)} : (A.under (.builtin "type.__call__" ⟨.ref C :: us, kw⟩)).depth = A.depth + 1 := by
  first | rfl | simp [Around.under, Code.weight, Code.isCreation, Code.isGuard, Code.isCaller, Code.frames, Code.isFrame, guardIds]
theorem make_units {A : Around} {C : Addr} {us : List Value} {kw : List (Str × Value)} : (A.under (.builtin "type.__call__" ⟨.ref C :: us, kw⟩)).units = A.units + 1 := by
  first | rfl | simp [Around.under, Code.cUnits, Code.frames, Code.isFrame]
theorem Room.make {k : Nat} {A : Around} (r : Room (k + 1) A) (C : Addr) (us : List Value) (kw : List (Str × Value)) : Room k (A.under (.builtin "type.__call__" ⟨.ref C :: us, kw⟩)) :=
  ⟨r.hd, by have := r.dp; rw [make_depth]; omega, by have := r.un; rw [make_units]; omega⟩
theorem Room.depth {k : Nat} {A : Around} (r : Room k A) : A.depth < recursionLimit := by have := r.dp; omega
theorem Room.units {k : Nat} {A : Around} (r : Room k A) : A.units + 64 < cLine := by have := r.un; omega
theorem Room.units0 {k : Nat} {A : Around} (r : Room k A) : A.units < cLine := by have := r.un; omega

/-! ### argument lists and displays -/
def tNil : TA := fun _ H Q => Q [] H
def tCons (ta : TE) (tr : TA) : TA := fun σ H Q => ta σ H fun x H1 => tr σ H1 fun xs H2 => Q (x :: xs) H2
section
variable {X : Cx} {e : Expr} {es : List Expr} {te : TE} {t : TA} {pos : Pos}
theorem pa_nil : PA X [] tNil := fun _ _ _ _ H Q I h => Calls.spliced_nil ⟨[], H, I, .nil, h⟩
theorem pa_cons (ha : PE X e te) (hr : PA X es t) (hs : starEach (e :: es) X.env = (false, eval e X.env) :: starEach es X.env := by rfl) : PA X (e :: es) (tCons te t) := by
  intro pos pins s σ H Q I h
  rw [hs]
  show wpAny _ _ (spliced ((false, eval e X.env) :: backTo pos (starEach es X.env))) _ _ s
  refine Calls.spliced_cons (thn (ha pins s σ H _ I h) fun u s1 ⟨x, H1, I1, r1, q1⟩ => ?_)
  exact thn (hr pos pins s1 σ H1 _ I1 q1) fun us s2 ⟨xs, H2, I2, r2, q2⟩ => ⟨x :: xs, H2, I2, .cons r1 r2, q2⟩

/-- a tuple, a list of written items -/
def tTup (t : TA) : TE := fun σ H Q => t σ H fun xs H1 => xs.length ≤ sizeLine ∧ ∀ p, H1 p = none → Q (.ref p) (upd H1 p (.tup xs))
def tLst (t : TA) : TE := fun σ H Q => t σ H fun xs H1 => xs.length ≤ sizeLine ∧ ∀ p, H1 p = none → Q (.ref p) (upd H1 p (.lst xs))
theorem pe_tup {x1} (h : PA X es t) : PE X (.Tuple es x1 pos) (tTup t) := by
  intro pins s σ H Q I hq
  refine wpAny_Tuple_spliced (thn (h pos pins s σ H _ I hq) fun us s1 ⟨xs, H1, I1, r, z, q⟩ => ⟨by rw [← r.length]; exact z, ?_⟩)
  have hf : H1 s1.heap.objs.size = none := I1.hok.fresh (Nat.le_refl _)
  refine ⟨.ref s1.heap.objs.size, upd H1 s1.heap.objs.size (.tup xs), I1.laid (t' := s1.toks) (fun b u e => Heap.get?_push_of_some _ e) (Nat.le_refl _) ?_, rfl, q _ hf⟩
  exact ⟨z, us, r, ⟨_, Heap.get?_push_size _ rfl, rfl, _, rfl⟩⟩
theorem pe_lst (h : PA X es t) : PE X (.List es pos) (tLst t) := by
  intro pins s σ H Q I hq
  refine wpAny_List_spliced (thn (h pos pins s σ H _ I hq) fun us s1 ⟨xs, H1, I1, r, z, q⟩ => ⟨by rw [← r.length]; exact z, ?_⟩)
  have hf : H1 s1.heap.objs.size = none := I1.hok.fresh (Nat.le_refl _)
  refine ⟨.ref s1.heap.objs.size, upd H1 s1.heap.objs.size (.lst xs), I1.laid (t' := s1.toks) (fun b u e => Heap.get?_push_of_some _ e) (Nat.le_refl _) ?_, rfl, q _ hf⟩
  exact ⟨z, us, 0, r, Heap.get?_push_size _ rfl⟩
end

/-! ### what a def promises -/
/-- a def's promise: the bound arguments in the parameters' order, the heap, the wanted end, the wanted exception -/
abbrev Sp := List V → Hp → VK → XK → Prop
/-- how an exception lies behind a call (file 08 gives it): the callers' frames, abstract heap and state ahead of the call, the wish, the exception, the state -/
abbrev CXT := List Env → Hp → Shared → XK → Value → Shared → Prop

/-- the state at a call -/
structure Env0 (P : Program) (w : World) (K : PySem.W.Frag) (mg : Str → Option Value) (base : Heap) (A : Around) (outer : List Env) (s : Shared) (H : Hp) : Prop where
  frames : A.frames = some outer
  mod : Mod K mg base
  bs : ∀ b o, base.get? b = some o → s.heap.get? b = some o ∧ H b = none
  bsz : base.objs.size ≤ s.heap.objs.size
  funs : s.heap.FunFrames base outer
  frf : ∀ b ∈ frs outer, H b = none
  hok : HOk P w H s.heap
  bare : AllBare s.gens
/-- a call's end -/
def CE (outer : List Env) (P : Program) (w : World) (H : Hp) (s : Shared) (Q : VK) (u : Value) (s' : Shared) : Prop :=
  ∃ v H', s'.os = s.os ∧ AllBare s'.gens ∧ Un (frs outer) [] H H' s.heap s'.heap ∧ HOk P w H' s'.heap ∧ RelV v u ∧ Q v H'
def CR (CX : CXT) (outer : List Env) (P : Program) (w : World) (H : Hp) (s : Shared) (Q : VK) (E : XK) (r : Result) (s' : Shared) : Prop :=
  match r with
  | .ok (.ret u) => CE outer P w H s Q u s'
  | .ok _ => False
  | .error e => CX outer H s E e s'
structure FnOk (P : Program) (w : World) (K : PySem.W.Frag) (mg : Str → Option Value) (base : Heap) (CX : CXT) (k : Nat) (f : Addr) (fd : FuncData) (ps : List Str) (sp : Sp) : Prop where
  len : ∀ vs H Q E, sp vs H Q E → vs.length = ps.length
  run : ∀ (A : Around) (outer : List Env) (s : Shared) (H : Hp) (args : Args) (us : List Value) (vs : List V) (Q : VK) (E : XK), Room k A → Env0 P w K mg base A outer s H → BindsTo s fd args (ps.zip us) → Vals vs us → sp vs H Q E →
    codeAny (model P w) A (.call (.ref f) args) (CR CX outer P w H s Q E) s
theorem FnOk.mono {P : Program} {w : World} {K : PySem.W.Frag} {mg : Str → Option Value} {base : Heap} {CX : CXT} {j k : Nat} {f : Addr} {fd : FuncData} {ps : List Str} {sp : Sp} (F : FnOk P w K mg base CX j f fd ps sp) (h : j ≤ k) :
    FnOk P w K mg base CX k f fd ps sp := ⟨F.len, fun A outer s H args us vs Q E hr => F.run A outer s H args us vs Q E (hr.mono h)⟩
/-- a weaker promise -/
theorem FnOk.imp {P : Program} {w : World} {K : PySem.W.Frag} {mg : Str → Option Value} {base : Heap} {CX : CXT} {k : Nat} {f : Addr} {fd : FuncData} {ps : List Str} {sp sp' : Sp} (F : FnOk P w K mg base CX k f fd ps sp)
    (h : ∀ vs H Q E, sp' vs H Q E → sp vs H Q E) : FnOk P w K mg base CX k f fd ps sp' :=
  ⟨fun vs H Q E q => F.len vs H Q E (h _ _ _ _ q), fun A outer s H args us vs Q E hr he hb hv hs => F.run A outer s H args us vs Q E hr he hb hv (h _ _ _ _ hs)⟩

theorem Env0.make {P : Program} {w : World} {K : PySem.W.Frag} {mg : Str → Option Value} {base : Heap} {A : Around} {outer : List Env} {s : Shared} {H : Hp} (e : Env0 P w K mg base A outer s H) (C : Addr) (us : List Value) (kw : List (Str × Value)) :
    Env0 P w K mg base (A.under (.builtin "type.__call__" ⟨.ref C :: us, kw⟩)) outer s H := ⟨by first | exact e.frames | (simpa [Around.under, Code.envs, Code.isFrame, pushEnvs] using e.frames), e.mod, e.bs, e.bsz, e.funs, e.frf, e.hok, e.bare⟩
theorem Env0.in1 {P : Program} {w : World} {K : PySem.W.Frag} {mg : Str → Option Value} {base : Heap} {A : Around} {outer : List Env} {s : Shared} {H : Hp} (e : Env0 P w K mg base A outer s H) :
    Env0 P w K mg base A.in1 outer s H := ⟨e.frames, e.mod, e.bs, e.bsz, e.funs, e.frf, e.hok, e.bare⟩

section
variable {X : Cx} {pins : List (Addr × Obj)} {σ : St} {H : Hp} {s s' : Shared}
/-- from a body: what a callee wants -/
theorem Inv.env0 (I : Inv X pins σ H s) : Env0 X.prog X.w X.K X.mg X.base X.A X.stack s H :=
  ⟨I.ok.frames, I.ok.mod, I.bs, Nat.le_trans I.ok.bsz I.sz, I.stack, I.stkFree, I.hok, I.bare⟩
/-- behind a call -/
theorem Inv.after {Q : VK} {u : Value} (I : Inv X pins σ H s) (h : CE X.stack X.prog X.w H s Q u s') : EP X pins σ Q u s' := by
  obtain ⟨v, H', os, bare, un, hok, r, q⟩ := h
  obtain ⟨hh, g, d, t, os'⟩ := s'
  obtain rfl : os' = s.os := os
  exact ⟨v, H', I.call (h' := hh) (g' := g) (d' := d) (t' := t) (ch := []) un hok bare (fun b z => absurd z (by simp)), r, q⟩
end

/-! ### calls -/
/-- f(..): the written arguments, then the defaults dvs; E: what is wanted of an exception -/
def tCall (sp : Sp) (dvs : List V) (E : XK) (t : TA) : TE := fun σ H Q => t σ H fun vs H1 => sp (vs ++ dvs) H1 Q E
/-- o.m(..) of an instance of the class at C -/
def tMeth (C : Addr) (m : Str) (sp : Sp) (dvs : List V) (E : XK) (ta : TE) (t : TA) : TE := fun σ H Q => ta σ H fun x H1 => ∃ a dx fs, x = .ref a ∧ H1 a = some (.ins C dx fs) ∧ fs.lookup m = none ∧
  t σ H1 fun vs H2 => sp (x :: (vs ++ dvs)) H2 Q E
/-- C(..): a new instance and its dict, then __init__ -/
def tMake (C : Addr) (sp : Sp) (dvs : List V) (E : XK) (t : TA) : TE := fun σ H Q => t σ H fun vs H1 => ∀ x dx, H1 x = none → H1 dx = none → dx ≠ x →
  sp (.ref x :: (vs ++ dvs)) (upd (upd H1 dx (.own x)) x (.ins C dx [])) (fun v H2 => v = .non ∧ Q (.ref x) H2) E

/-- how the parameters are bound: us the positional arguments, kw the keywords' values by name, ds the defaults that fill up -/
def Binds (K : PySem.W.Frag) (fd : FuncData) (ps : List Str) (ds : List Value) : Prop :=
  ∀ (s : Shared) (us : List Value), K.In s.heap → (us ++ ds).length = ps.length → BindsTo s fd ⟨us, []⟩ (ps.zip (us ++ ds))
/-- every parameter is given -/
theorem Binds.all {K : PySem.W.Frag} {fd : FuncData} {ps : List Str} (h : ∀ us : List Value, us.length = ps.length → bindArgs fd ⟨us, []⟩ = pure (ps.zip us)) : Binds K fd ps [] := fun s us _ hl => by
  rw [List.append_nil] at hl ⊢
  exact .of_eq (h us hl)

/-- an exception of a callee reaches what this body wants of exceptions -/
def Passes (CX : CXT) (X : Cx) (E : XK) : Prop := ∀ (pins : List (Addr × Obj)) (σ : St) (H : Hp) (s : Shared) (e : Value) (s' : Shared), Inv X pins σ H s → CX X.stack H s E e s' → X.xe e s'

section
variable {X : Cx} {CX : CXT} {k : Nat} {f C : Addr} {fd : FuncData} {ps : List Str} {sp : Sp} {dvs : List V} {ds : List Value} {E : XK} {x m : Str} {p pos apos : Pos} {e o : Expr} {es : List Expr} {ta : TE} {t : TA}

/-- the callee runs -/
theorem run_fn {pins : List (Addr × Obj)} {σ : St} {H : Hp} {s : Shared} {Q : VK} {us : List Value} {vs : List V} (F : FnOk X.prog X.w X.K X.mg X.base CX k f fd ps sp) (hr : Room k X.A) (hb : Binds X.K fd ps ds) (hd : Vals dvs ds) (hx : Passes CX X E)
    (I : Inv X pins σ H s) (r : Vals vs us) (h : sp (vs ++ dvs) H Q E) : wpAny (model X.prog X.w) X.A (call (.ref f) us) (EP X pins σ Q) X.xe s := by
  have r2 : Vals (vs ++ dvs) (us ++ ds) := r.append hd
  have hl : (us ++ ds).length = ps.length := by rw [← r2.length]; exact F.len _ _ _ _ h
  refine wpAny_call (codeAny_mono (F.run X.A X.stack s H ⟨us, []⟩ (us ++ ds) (vs ++ dvs) Q E hr I.env0 (hb s us I.kIn hl) r2 h) fun r s' hq => ?_)
  cases r with
  | error e => exact hx pins σ H s e s' I hq
  | ok fl =>
    cases fl with
    | ret u => exact I.after hq
    | next => exact False.elim hq
    | brk => exact False.elim hq
    | cont => exact False.elim hq

theorem pe_call (F : FnOk X.prog X.w X.K X.mg X.base CX k f fd ps sp) (hr : Room k X.A) (hg : Gl X x) (hm : X.mg x = some (.ref f)) (hk : PySem.W.keepIn X.K (.ref f) = true) (hb : Binds X.K fd ps ds) (hd : Vals dvs ds) (hx : Passes CX X E)
    (ha : PA X (e :: es) t) (hdb : (x == ("__debug__" : Str)) = false := by decide) (he : starEach (e :: es) X.env = (false, eval e X.env) :: starEach es X.env := by rfl) (hpl : (backTo pos (starEach es X.env)).any (·.1) = false := by rfl) :
    PE X (.Call (.Name x p) (e :: es) [] pos) (tCall sp dvs E t) := by
  intro pins s σ H Q I h
  refine wpAny_Call_Name_kw (ld_glob I hg hm ?_ hdb)
  refine PySem.W.callWith_K (h₀ := X.base) I.ok.mod.kin hk (thn (ha pos pins s σ H _ I h) fun us s1 ⟨vs, H1, I1, r, q⟩ => ⟨I1.kIn, ?_⟩) he hpl
  exact run_fn F hr hb hd hx I1 r q
theorem pe_call0 (F : FnOk X.prog X.w X.K X.mg X.base CX k f fd ps sp) (hr : Room k X.A) (hg : Gl X x) (hm : X.mg x = some (.ref f)) (hk : PySem.W.keepIn X.K (.ref f) = true) (hb : Binds X.K fd ps ds) (hd : Vals dvs ds) (hx : Passes CX X E)
    (hdb : (x == ("__debug__" : Str)) = false := by decide) : PE X (.Call (.Name x p) [] [] pos) (tCall sp dvs E tNil) := by
  intro pins s σ H Q I h
  refine wpAny_Call_Name_kw (ld_glob I hg hm ?_ hdb)
  exact PySem.W.callWith_K0 I.kIn hk (run_fn (us := []) F hr hb hd hx I .nil h)

/-- o.m(e, ..) -/
theorem pe_meth {pl : Sem Bool} (he : PE X o ta) (c : Cls X.K C) (hm : Meth X.K C m f) (F : FnOk X.prog X.w X.K X.mg X.base CX k f fd ps sp) (hr : Room k X.A) (hb : Binds X.K fd ps ds) (hd : Vals dvs ds) (hx : Passes CX X E) (ha : PA X (e :: es) t)
    (hst : starEach (e :: es) X.env = (false, eval e X.env) :: starEach es X.env := by rfl) (hpl : (backTo pos (starEach es X.env)).any (·.1) = false := by rfl)
    (ht : eval (.Call (.Attribute o m apos) (e :: es) [] pos) X.env = (do
      let ov ← eval o X.env
      standAt apos.atName
      let (f, first) ← holding [ov] (getMethod ov m pl)
      callWith pos f first (backTo pos (starEach (e :: es) X.env)) (backToKw pos (keywordEach [] X.env))) := by rfl) :
    PE X (.Call (.Attribute o m apos) (e :: es) [] pos) (tMeth C m sp dvs E ta t) := by
  intro pins s σ H Q I h
  refine PySem.W.methodCall_KW (pl := pl) (thn (he pins s σ H _ I h) fun u s1 ⟨x, H1, I1, rx, a, dx, fs, ex, ea, l, q⟩ => ?_) ht
  subst ex
  obtain rfl : u = Value.ref a := rx
  refine getmeth_ok I1 ea c hm l ?_
  refine PySem.W.callWith_K (first := [.ref a]) (h₀ := X.base) I.ok.mod.kin hm.kp (thn (ha pos pins s1 σ H1 _ I1 q) fun us s2 ⟨vs, H2, I2, r, q2⟩ => ⟨I2.kIn, ?_⟩) hst hpl
  exact run_fn (us := .ref a :: us) (vs := .ref a :: vs) F hr hb hd hx I2 (.cons rfl r) q2
/-- o.m() -/
theorem pe_meth0 {pl : Sem Bool} (he : PE X o ta) (c : Cls X.K C) (hm : Meth X.K C m f) (F : FnOk X.prog X.w X.K X.mg X.base CX k f fd ps sp) (hr : Room k X.A) (hb : Binds X.K fd ps ds) (hd : Vals dvs ds) (hx : Passes CX X E)
    (ht : eval (.Call (.Attribute o m apos) [] [] pos) X.env = (do
      let ov ← eval o X.env
      standAt apos.atName
      let (f, first) ← holding [ov] (getMethod ov m pl)
      callWith pos f first (backTo pos (starEach [] X.env)) (backToKw pos (keywordEach [] X.env))) := by rfl) :
    PE X (.Call (.Attribute o m apos) [] [] pos) (tMeth C m sp dvs E ta tNil) := by
  intro pins s σ H Q I h
  refine PySem.W.methodCall_KW (pl := pl) (thn (he pins s σ H _ I h) fun u s1 ⟨x, H1, I1, rx, a, dx, fs, ex, ea, l, q⟩ => ?_) ht
  subst ex
  obtain rfl : u = Value.ref a := rx
  refine getmeth_ok I1 ea c hm l ?_
  exact PySem.W.callWith_K0 (first := [.ref a]) I1.kIn hm.kp (run_fn (us := [.ref a]) (vs := [.ref a]) F hr hb hd hx I1 (.cons rfl .nil) q)

/-- what a class must have to be made -/
structure Mk (K : PySem.W.Frag) (C f : Addr) : Prop where
  makes : PySem.W.makesIn K C = true
  init : PySem.W.findIn K (.ref C) "__init__" = some (some (.ref f))
  fn : PySem.W.isFn K (.ref f) = true
  kp : PySem.W.keepIn K (.ref C) = true

theorem run_make {pins : List (Addr × Obj)} {σ : St} {H : Hp} {s : Shared} {Q : VK} {us : List Value} {vs : List V} (M : Mk X.K C f) (F : FnOk X.prog X.w X.K X.mg X.base CX k f fd ps sp) (hr : Room (k + 1) X.A) (hb : Binds X.K fd ps ds) (hd : Vals dvs ds)
    (hx : Passes CX X E) (I : Inv X pins σ H s) (r : Vals vs us)
    (h : ∀ x dx, H x = none → H dx = none → dx ≠ x → sp (.ref x :: (vs ++ dvs)) (upd (upd H dx (.own x)) x (.ins C dx [])) (fun v H2 => v = .non ∧ Q (.ref x) H2) E) :
    wpAny (model X.prog X.w) X.A (call (.ref C) us) (EP X pins σ Q) X.xe s := by
  have hq := h (s.heap.objs.size + 1) s.heap.objs.size (I.hok.fresh (Nat.le_succ _)) (I.hok.fresh (Nat.le_refl _)) (Nat.ne_of_lt (Nat.lt_succ_self _))
  have I2 := Inv.made (C := C) I
  have r2 : Vals (V.ref (s.heap.objs.size + 1) :: (vs ++ dvs)) (Value.ref (s.heap.objs.size + 1) :: (us ++ ds)) := .cons rfl (r.append hd)
  have hl : (Value.ref (s.heap.objs.size + 1) :: us ++ ds).length = ps.length := by
    have e := r2.length
    rw [F.len _ _ _ _ hq] at e
    exact e.symm
  refine wpAny_call (make_map (f := f) I.kIn M.makes M.init (beq_iff_eq.mp M.fn) (codeAny_mono (F.run _ X.stack _ _ ⟨Value.ref (s.heap.objs.size + 1) :: us, []⟩ (Value.ref (s.heap.objs.size + 1) :: (us ++ ds)) _ _ E (hr.make C us [])
    (I2.env0.make C us []) (hb _ (Value.ref (s.heap.objs.size + 1) :: us) I2.kIn hl) r2 hq) fun r s' hq' => ?_))
  cases r with
  | error e => exact hx pins σ _ _ e s' I2 hq'
  | ok fl =>
    cases fl with
    | ret u =>
      obtain ⟨v, H', I3, rv, ev, q3⟩ := I2.after hq'
      subst ev
      exact ⟨rv, ⟨V.ref (s.heap.objs.size + 1), H', I3, rfl, q3⟩⟩
    | next => exact False.elim hq'
    | brk => exact False.elim hq'
    | cont => exact False.elim hq'
theorem pe_make (M : Mk X.K C f) (F : FnOk X.prog X.w X.K X.mg X.base CX k f fd ps sp) (hr : Room (k + 1) X.A) (hg : Gl X x) (hm : X.mg x = some (.ref C)) (hb : Binds X.K fd ps ds) (hd : Vals dvs ds) (hx : Passes CX X E)
    (ha : PA X (e :: es) t) (hdb : (x == ("__debug__" : Str)) = false := by decide) (he : starEach (e :: es) X.env = (false, eval e X.env) :: starEach es X.env := by rfl) (hpl : (backTo pos (starEach es X.env)).any (·.1) = false := by rfl) :
    PE X (.Call (.Name x p) (e :: es) [] pos) (tMake C sp dvs E t) := by
  intro pins s σ H Q I h
  refine wpAny_Call_Name_kw (ld_glob I hg hm ?_ hdb)
  refine PySem.W.callWith_K (h₀ := X.base) I.ok.mod.kin M.kp (thn (ha pos pins s σ H _ I h) fun us s1 ⟨vs, H1, I1, r, q⟩ => ⟨I1.kIn, ?_⟩) he hpl
  exact run_make M F hr hb hd hx I1 r q
theorem pe_make0 (M : Mk X.K C f) (F : FnOk X.prog X.w X.K X.mg X.base CX k f fd ps sp) (hr : Room (k + 1) X.A) (hg : Gl X x) (hm : X.mg x = some (.ref C)) (hb : Binds X.K fd ps ds) (hd : Vals dvs ds) (hx : Passes CX X E)
    (hdb : (x == ("__debug__" : Str)) = false := by decide) : PE X (.Call (.Name x p) [] [] pos) (tMake C sp dvs E tNil) := by
  intro pins s σ H Q I h
  refine wpAny_Call_Name_kw (ld_glob I hg hm ?_ hdb)
  exact PySem.W.callWith_K0 I.kIn M.kp (run_make (us := []) M F hr hb hd hx I .nil h)
end

/-! ### keywords -/
/-- the values of the keywords, from the left -/
def PK (X : Cx) (kws : List Keyword) (t : TA) : Prop :=
  ∀ (pos : Pos) (pins : List (Addr × Obj)) (s : Shared) (σ : St) (H : Hp) (Q : List V → Hp → Prop), Inv X pins σ H s → t σ H Q → wpAny (model X.prog X.w) X.A (evalAll ((backToKw pos (keywordEach kws X.env)).map (·.2))) (AP X pins σ Q) X.xe s
section
variable {X : Cx} {CX : CXT} {k : Nat} {f C : Addr} {fd : FuncData} {ps ks : List Str} {sp : Sp} {E : XK} {x m : Str} {p pos apos kpos : Pos} {e o : Expr} {es : List Expr} {kws : List Keyword} {te ta : TE} {t tk : TA} {nm : Option Str}
theorem pk_nil : PK X [] tNil := fun _ _ _ _ H Q I h => wpAny_evalAll_nil ⟨[], H, I, .nil, h⟩
theorem pk_cons (ha : PE X e te) (hr : PK X kws t) : PK X (⟨nm, e, kpos⟩ :: kws) (tCons te t) := by
  intro pos pins s σ H Q I h
  show wpAny _ _ (evalAll ((do let v ← eval e X.env; standAt pos; pure v) :: (backToKw pos (keywordEach kws X.env)).map (·.2))) _ _ s
  refine wpAny_evalAll_cons (wpAny_bind (thn (ha pins s σ H _ I h) fun u s1 ⟨x, H1, I1, r1, q1⟩ => wpAny_bind (wpAny_standAt (wpAny_pure ?_))))
  exact thn (hr pos pins s1 σ H1 _ I1 q1) fun us s2 ⟨xs, H2, I2, r2, q2⟩ => ⟨x :: xs, H2, I2, .cons r1 r2, q2⟩

/-- how a call with keywords binds: g puts the positional values us and the keywords' values ws (names ks) in the parameters' order, defaults among them -/
structure KBinds (K : PySem.W.Frag) (fd : FuncData) (ps ks : List Str) (g : List Value → List Value → List Value) (gV : List V → List V → List V) : Prop where
  to : ∀ (s : Shared) (us ws : List Value), K.In s.heap → (g us ws).length = ps.length → BindsTo s fd ⟨us, ks.zip ws⟩ (ps.zip (g us ws))
  rel : ∀ {vs : List V} {us : List Value} {zs : List V} {ws : List Value}, Vals vs us → Vals zs ws → Vals (gV vs zs) (g us ws)
def tCallK (sp : Sp) (gV : List V → List V → List V) (E : XK) (t tk : TA) : TE := fun σ H Q => t σ H fun vs H1 => tk σ H1 fun zs H2 => sp (gV vs zs) H2 Q E
variable {g : List Value → List Value → List Value} {gV : List V → List V → List V}
theorem run_fnk {pins : List (Addr × Obj)} {σ : St} {H : Hp} {s : Shared} {Q : VK} {us ws : List Value} {vs zs : List V} (F : FnOk X.prog X.w X.K X.mg X.base CX k f fd ps sp) (hr : Room k X.A) (hb : KBinds X.K fd ps ks g gV) (hx : Passes CX X E)
    (I : Inv X pins σ H s) (r : Vals vs us) (rz : Vals zs ws) (h : sp (gV vs zs) H Q E) : wpAny (model X.prog X.w) X.A (call (.ref f) us (ks.zip ws)) (EP X pins σ Q) X.xe s := by
  have r2 := hb.rel r rz
  have hl : (g us ws).length = ps.length := by rw [← r2.length]; exact F.len _ _ _ _ h
  refine wpAny_call (codeAny_mono (F.run X.A X.stack s H ⟨us, ks.zip ws⟩ (g us ws) (gV vs zs) Q E hr I.env0 (hb.to s us ws I.kIn hl) r2 h) fun r s' hq => ?_)
  cases r with
  | error e => exact hx pins σ H s e s' I hq
  | ok fl =>
    cases fl with
    | ret u => exact I.after hq
    | next => exact False.elim hq
    | brk => exact False.elim hq
    | cont => exact False.elim hq
/-- f(e, .., k = v, ..) -/
theorem pe_callK (F : FnOk X.prog X.w X.K X.mg X.base CX k f fd ps sp) (hr : Room k X.A) (hg : Gl X x) (hm : X.mg x = some (.ref f)) (hk : PySem.W.keepIn X.K (.ref f) = true) (hb : KBinds X.K fd ps ks g gV) (hx : Passes CX X E)
    (ha : PA X (e :: es) t) (hkw : PK X kws tk) (hall : (backToKw pos (keywordEach kws X.env)).all (·.1.isSome) = true := by rfl) (hks : (backToKw pos (keywordEach kws X.env)).filterMap (·.1) = ks := by rfl)
    (hdb : (x == ("__debug__" : Str)) = false := by decide) (he : starEach (e :: es) X.env = (false, eval e X.env) :: starEach es X.env := by rfl)
    (hpl : ((backTo pos (starEach (e :: es) X.env)).any (·.1) || (backToKw pos (keywordEach kws X.env)).any (·.1.isNone)) = false := by rfl) :
    PE X (.Call (.Name x p) (e :: es) kws pos) (tCallK sp gV E t tk) := by
  intro pins s σ H Q I h
  refine wpAny_Call_Name_kw (ld_glob I hg hm ?_ hdb)
  refine PySem.W.callWith_KW (h₀ := X.base) I.ok.mod.kin hk hall (thn (ha pos pins s σ H _ I h) fun us s1 ⟨vs, H1, I1, r, q⟩ => ?_) hpl he
  refine thn (hkw pos pins s1 σ H1 _ I1 q) fun ws s2 ⟨zs, H2, I2, rz, q2⟩ => ⟨I2.kIn, ?_⟩
  rw [hks]
  exact run_fnk F hr hb hx I2 r rz q2
end

/-! ### a def's body keeps its promise -/
/-- names: the parameters first -/
structure FnScope (N P : List Str) (sc : Scope) : Prop where
  kind : sc.kind = .function
  co : sc.isCoroutine = false
  gen : sc.isGenerator = false
  nd : N.Nodup
  pre : N.take P.length = P
  par : ∀ x ∈ P, sc.names.lookup x = some .local ∨ sc.names.lookup x = some .cell
  nofree : ∀ y ∈ sc.names, y.2 ≠ .free

theorem bindL_out {kindOf : Str → Option NameKind} {x : Str} : ∀ {binds : List (Str × Value)} {m : Str → Option Value}, (∀ v, (x, v) ∉ binds) → bindL kindOf binds m x = m x
  | [], _, _ => rfl
  | (n, v) :: r, m, h => by
    unfold bindL
    rw [bindL_out fun w hw => h w (List.mem_cons_of_mem _ hw)]
    split
    · have : x ≠ n := by rintro rfl; exact h v List.mem_cons_self
      simp [this]
    · rfl
theorem bindC_out {kindOf : Str → Option NameKind} {x : Str} : ∀ {binds : List (Str × Value)} {m : Str → Option Value}, (∀ v, (x, v) ∉ binds) → bindC kindOf binds m x = m x
  | [], _, _ => rfl
  | (n, v) :: r, m, h => by
    unfold bindC
    rw [bindC_out fun w hw => h w (List.mem_cons_of_mem _ hw)]
    split
    · rfl
    · have : x ≠ n := by rintro rfl; exact h v List.mem_cons_self
      simp [this]
theorem bindL_get {kindOf : Str → Option NameKind} {x : Str} {v : Value} : ∀ {P : List Str} {vs : List Value} {i : Nat} {m : Str → Option Value}, P.Nodup → P[i]? = some x → vs[i]? = some v → kindOf x = some .local →
    bindL kindOf (P.zip vs) m x = some v
  | [], _, _, _, _, h, _, _ => by simp at h
  | _ :: _, [], _, _, _, _, h, _ => by simp at h
  | p :: P, w :: vs, 0, m, nd, h1, h2, hk => by
    simp at h1 h2; subst h1; subst h2
    show bindL kindOf ((p, w) :: P.zip vs) m p = _
    unfold bindL
    rw [bindL_out fun v hv => (List.nodup_cons.mp nd).1 (List.of_mem_zip hv).1, if_pos hk]
    simp
  | p :: P, w :: vs, i + 1, m, nd, h1, h2, hk => by
    show bindL kindOf ((p, w) :: P.zip vs) m x = _
    unfold bindL
    exact bindL_get (i := i) (List.nodup_cons.mp nd).2 (by simpa using h1) (by simpa using h2) hk
theorem bindC_get {kindOf : Str → Option NameKind} {x : Str} {v : Value} : ∀ {P : List Str} {vs : List Value} {i : Nat} {m : Str → Option Value}, P.Nodup → P[i]? = some x → vs[i]? = some v → kindOf x ≠ some .local →
    bindC kindOf (P.zip vs) m x = some v
  | [], _, _, _, _, h, _, _ => by simp at h
  | _ :: _, [], _, _, _, _, h, _ => by simp at h
  | p :: P, w :: vs, 0, m, nd, h1, h2, hk => by
    simp at h1 h2; subst h1; subst h2
    show bindC kindOf ((p, w) :: P.zip vs) m p = _
    unfold bindC
    rw [bindC_out fun v hv => (List.nodup_cons.mp nd).1 (List.of_mem_zip hv).1, if_neg hk]
    simp
  | p :: P, w :: vs, i + 1, m, nd, h1, h2, hk => by
    show bindC kindOf ((p, w) :: P.zip vs) m x = _
    unfold bindC
    exact bindC_get (i := i) (List.nodup_cons.mp nd).2 (by simpa using h1) (by simpa using h2) hk

/-- the names' values at the entry -/
def start (N : List Str) (vs : List V) : St := vs.map some ++ List.replicate (N.length - vs.length) none

/-- the context of a def's body, at its entry; an exception leaves the frame, then lies as CX says -/
def cxOf (CX : CXT) (P : Program) (w : World) (K : PySem.W.Frag) (mg : Str → Option Value) (base : Heap) (N : List Str) (qual : Str) (scope : Scope) (f : Addr) (cd : Value) (A : Around) (outer : List Env) (s : Shared) (H : Hp) (E : XK) : Cx where
  prog := P
  w := w
  K := K
  mg := mg
  base := base
  A := A.deeper (envOfC qual scope s.heap.objs.size f cd)
  N := N
  s₀ := s
  H₀ := H
  env := envOfC qual scope s.heap.objs.size f cd
  outer := outer
  stack := envOfC qual scope s.heap.objs.size f cd :: outer
  ex := []
  calm := true
  fn := fun _ => true
  pn := []
  xe := fun e s' => wpAny (model P w) (A.deeper (envOfC qual scope s.heap.objs.size f cd)) (leaving (envOfC qual scope s.heap.objs.size f cd) e) (fun _ s'' => CX outer H s E e s'') (fun e' s'' => CX outer H s E e' s'') s'

theorem cell_has {sc : Scope} {n : Nat} {x : Str} (h : sc.names.lookup x = some .cell) : ∃ c, (cellsFrom n sc.names []).lookup x = some c := by
  have q := PySem.W.cellsFrom_some sc.names n [] (.inl h)
  exact Option.isSome_iff_exists.mp q

theorem inv_start {CX : CXT} {P : Program} {w : World} {K : PySem.W.Frag} {mg : Str → Option Value} {base : Heap} {N ps : List Str} {qual : Str} {scope : Scope} {f : Addr} {cd : Value} {A : Around} {outer : List Env} {s s1 : Shared} {H : Hp} {E : XK} {us : List Value} {vs : List V}
    (S : FnScope N ps scope) (hd : A.handled = none) (e0 : Env0 P w K mg base A outer s H) (hl : vs.length = ps.length) (r : Vals vs us)
    (x : InCallC s s.heap.objs.size (bindL (envOfC qual scope s.heap.objs.size f cd).kindOf (ps.zip us) fun _ => none) (cellsFrom (s.heap.objs.size + 1) scope.names []) (bindC (envOfC qual scope s.heap.objs.size f cd).kindOf (ps.zip us) fun _ => none) s1) :
    Inv (cxOf CX P w K mg base N qual scope f cd A outer s H E) [] (start N vs) H s1 := by
  have hpl : ps.length ≤ N.length := by have := congrArg List.length S.pre; rw [List.length_take] at this; omega
  obtain ⟨h1, tk, rfl, hk⟩ := x.done
  have noA : ∀ b : Addr, b ∉ (cxOf CX P w K mg base N qual scope f cd A outer s H E).ex := fun b z => absurd (show b ∈ ([] : List Addr) from z) (by simp)
  refine ⟨⟨e0.mod, S.kind, rfl, rfl, Nat.le_refl _, fun y z c h1 h2 => ?_, fun y hy => ?_, fun y c _ h => ?_, fun _ => hd, Around.frames_deeper e0.frames, .inr ⟨rfl, rfl⟩, fun b z => absurd z (noA b), e0.bs, e0.bsz, fun b _ _ => noA b, fun b z => absurd z (noA b), e0.funs, e0.frf⟩,
    rfl, e0.bare, Un.kept hk, ⟨_, x.toInCall.ns, fun i y v h1 h2 h3 => ?_⟩, fun y c h => ⟨_, x.cell y c h⟩, e0.hok.fresh (Nat.le_refl _), fun y c h => ?_, fun p hp => absurd (show p ∈ ([] : List (Addr × Obj)) from hp) (by simp), e0.hok.kept hk, ?_⟩
  · exact name_of_addr x.apart (PySem.mem_of_lookup h1) (PySem.mem_of_lookup h2)
  · have hy : scope.names.lookup y = some .cell ∨ scope.names.lookup y = some .free := hy
    rcases hy with hy | hy
    · exact cell_has hy
    · exact absurd rfl (S.nofree _ (PySem.mem_of_lookup hy))
  · exact Nat.le_of_lt (x.above y c (PySem.mem_of_lookup h))
  · have hi : i < vs.length := by
      unfold start at h2
      by_cases hi : i < vs.length
      · exact hi
      · rw [List.getElem?_append_right (by simpa using hi)] at h2
        rw [List.getElem?_replicate] at h2
        split at h2 <;> cases h2
    have ha : vs[i]? = some v := by
      unfold start at h2
      rw [List.getElem?_append_left (by simpa using hi), List.getElem?_map] at h2
      cases e : vs[i]? with
      | none => rw [e] at h2; cases h2
      | some a => rw [e] at h2; cases h2; rfl
    obtain ⟨u, hu, rv⟩ := r.get ha
    have hp : ps[i]? = some y := by
      rw [← S.pre, List.getElem?_take_of_lt (by omega)]; exact h1
    have ndP : ps.Nodup := by rw [← S.pre]; exact S.nd.sublist (List.take_sublist _ _)
    refine ⟨u, rv, ?_⟩
    rcases S.par y (List.mem_of_getElem? hp) with k | k
    · exact .inl ⟨k, bindL_get ndP hp hu k⟩
    · obtain ⟨c, e⟩ := cell_has (n := s.heap.objs.size + 1) k
      refine .inr ⟨.inl k, c, e, ?_⟩
      have q := x.cell y c e
      rw [bindC_get ndP hp hu (by show scope.names.lookup y ≠ _; rw [k]; decide)] at q
      exact q
  · exact e0.hok.fresh (Nat.le_of_lt (x.above y c (PySem.mem_of_lookup h)))
  · unfold start
    show _ = N.length
    rw [List.length_append, List.length_map, List.length_replicate]
    omega

/-- THE RULE: a def (or a method) of the text, by its body. The body's reading t is chosen for each entry; it is run at the parameters' values -/
theorem fn_of {CX : CXT} {P : Program} {w : World} {K : PySem.W.Frag} {mg : Str → Option Value} {base : Heap} {k : Nat} {f : Addr} {name qual : Str} {params : Arguments} {body : List Stmt} {scope : Scope} {dV kV doc pm cdv ct oc : Value} {an od : Option Addr}
    {osl : Array (Option Value)} {N ps : List Str} {sp : Sp} (lk : K.lookup f = some ⟨oc, od, .func (PySem.W.fnOf name qual params body scope dV kV doc pm an cdv ct), osl⟩) (hcd : PySem.W.codeIn K cdv qual = true) (S : FnScope N ps scope)
    (len : ∀ vs H Q E, sp vs H Q E → vs.length = ps.length)
    (hbody : ∀ (A : Around) (outer : List Env) (s : Shared) (H : Hp) (vs : List V) (Q : VK) (E : XK), Room k (A.deeper (envOfC qual scope s.heap.objs.size f cdv)) → sp vs H Q E →
      ∃ t, PSs (cxOf CX P w K mg base N qual scope f cdv A outer s H E) body t ∧ t { nx := fun _ H' => Q .non H', rt := Q } (start N vs) H) :
    FnOk P w K mg base CX (k + 1) f (PySem.W.fnOf name qual params body scope dV kV doc pm an cdv ct) ps sp := by
  refine ⟨len, fun A outer s H args us vs Q E hr e0 hb r hsp => ?_⟩
  have hl := len _ _ _ _ hsp
  have KX : K.In s.heap := e0.mod.kin.keeps fun b o e => (e0.bs b o e).1
  have lim : s.heap.NoLimit := e0.mod.nolimit.keeps fun b o e => (e0.bs b o e).1
  have hkind : ∀ y ∈ ps.zip us, scope.names.lookup y.1 = some .local ∨ (scope.names.lookup y.1 = some .cell ∧ ((cellsFrom (s.heap.objs.size + 1) scope.names []).lookup y.1).isSome = true) := fun ⟨n, v⟩ hy => by
    rcases S.par n (List.of_mem_zip hy).1 with q | q
    · exact .inl q
    · exact .inr ⟨q, PySem.W.cellsFrom_some _ _ _ (.inl q)⟩
  refine codeAny_call_function hr.depth (KX _ _ lk) rfl S.co S.gen rfl (PySem.W.codeRec_of KX hcd) (hb _ _ _ _ ?_)
  refine wpAny_newFunctionEnv_cells S.kind hkind fun env he s1 x => ?_
  subst he
  refine ⟨lim.keeps x.toInCall.keep, codeAny_func ?_⟩
  obtain ⟨t, ht, hq⟩ := hbody A outer s H vs Q E (hr.deeper _) hsp
  have I : Inv (cxOf CX P w K mg base N qual scope f cdv A outer s H E) [] (start N vs) H s1 := inv_start S hr.hd e0 hl r x
  refine wpAny_mono (ht [] s1 (start N vs) H _ I hq) (fun fl s' hs => ?_) fun e s' hs => hs
  have fin : ∀ {σ' : St} {H' : Hp} {v : V} {u : Value}, Inv (cxOf CX P w K mg base N qual scope f cdv A outer s H E) [] σ' H' s' → RelV v u → Q v H' → CE outer P w H s Q u s' :=
    fun {σ' H' v u} J rv q => ⟨v, H', J.os, J.bare, J.base, J.hok, rv, q⟩
  cases fl with
  | ret u =>
    obtain ⟨v, σ', H', J, rv, q⟩ := hs
    exact fin J rv q
  | next =>
    obtain ⟨σ', H', J, q⟩ := hs
    exact fin (v := V.non) (u := Value.none) J rfl q
  | brk =>
    obtain ⟨_, _, _, q⟩ := hs
    exact False.elim q
  | cont =>
    obtain ⟨_, _, _, q⟩ := hs
    exact False.elim q
end L2

namespace L2
open PySem PySem.Spec PyProof.Rows
section
variable {X : Cx} {x : Str} {p pos : Pos} {e : Expr} {es : List Expr} {t : TA} {id T : String} {r : List V → Hp → VK → Prop}

def tCB (r : List V → Hp → VK → Prop) (t : TA) : TE := fun σ H Q => t σ H fun vs H1 => r vs H1 Q
/-- f(e, ..), f a built-in function -/
theorem pe_callB (hc : CallR X (.builtin id) r) (hg : Gl X x) (hm : X.mg x = none) (hv : bootBuiltins x = some (.builtin id)) (ha : PA X (e :: es) t) (hn : x ≠ "__name__" := by decide) (hdb : (x == ("__debug__" : Str)) = false := by decide)
    (he : starEach (e :: es) X.env = (false, eval e X.env) :: starEach es X.env := by rfl) (hpl : (backTo pos (starEach es X.env)).any (·.1) = false := by rfl) : PE X (.Call (.Name x p) (e :: es) [] pos) (tCB r t) := by
  intro pins s σ H Q I h
  refine wpAny_Call_Name_kw (ld_blt I hg hm hv ?_ hn hdb)
  exact PyProof.Rows.callWith_builtin1 (thn (ha pos pins s σ H _ I h) fun us s1 ⟨vs, H1, I1, r1, q1⟩ => hc pins s1 σ H1 vs us Q I1 r1 q1) he hpl
/-- T(e, ..), T a built-in type -/
theorem pe_callTy (hc : CallR X (.type T) r) (hg : Gl X x) (hm : X.mg x = none) (hv : bootBuiltins x = some (.type T)) (ha : PA X (e :: es) t) (hn : x ≠ "__name__" := by decide) (hdb : (x == ("__debug__" : Str)) = false := by decide)
    (he : starEach (e :: es) X.env = (false, eval e X.env) :: starEach es X.env := by rfl) (hpl : (backTo pos (starEach es X.env)).any (·.1) = false := by rfl) : PE X (.Call (.Name x p) (e :: es) [] pos) (tCB r t) := by
  intro pins s σ H Q I h
  refine wpAny_Call_Name_kw (ld_blt I hg hm hv ?_ hn hdb)
  exact PyProof.Rows.callWith_type1 (thn (ha pos pins s σ H _ I h) fun us s1 ⟨vs, H1, I1, r1, q1⟩ => hc pins s1 σ H1 vs us Q I1 r1 q1) he hpl
/-- T() -/
theorem pe_callTy0 (hc : CallR X (.type T) r) (hg : Gl X x) (hm : X.mg x = none) (hv : bootBuiltins x = some (.type T)) (hn : x ≠ "__name__" := by decide) (hdb : (x == ("__debug__" : Str)) = false := by decide) :
    PE X (.Call (.Name x p) [] [] pos) (tCB r tNil) := by
  intro pins s σ H Q I h
  refine wpAny_Call_Name_kw (ld_blt I hg hm hv ?_ hn hdb)
  exact PyProof.Rows.callWith_type0 (hc pins s σ H [] [] Q I .nil h)
end
end L2

namespace HT
open PySem PyProof.Rows

/-- t < u of tuples of ints -/
def lexLt : List Int → List Int → Bool
  | [], [] => false
  | [], _ :: _ => true
  | _ :: _, [] => false
  | x :: xs, y :: ys => if x = y then lexLt xs ys else decide (x < y)
theorem lexLt_cons (x y : Int) (xs ys : List Int) : lexLt (x :: xs) (y :: ys) = if x = y then lexLt xs ys else decide (x < y) := rfl
theorem lexLt_nil_nil : lexLt [] [] = false := rfl
theorem lexLt_nil_cons (y : Int) (ys : List Int) : lexLt [] (y :: ys) = true := rfl
theorem lexLt_cons_nil (x : Int) (xs : List Int) : lexLt (x :: xs) [] = false := rfl

theorem eqAt_int (A : Around) (s : Shared) (a : Int) (t : Tok) (c : Int) (u : Tok) : ∃ e, SeqAt.EqAt A s (.int a t) (.int c u) e ∧ (e = true ↔ a = c) :=
  ⟨(a == c), SeqAt.EqAt.int_int a t c u, by simp⟩
theorem rcLt_int (A : Around) (s : Shared) (a : Int) (t : Tok) (c : Int) (u : Tok) (prog : Program) (w : World) (E : Value → Shared → Prop) (Q : Value → Shared → Prop) (h : Q (.bool (decide (a < c))) s) :
    wpAny (model prog w) A (richCompare .Lt (.int a t) (.int c u)) Q E s :=
  (PyProof.Rows.lt_int h : wpAny (model prog w) A (compareOp .Lt (.int a t) (.int c u)) Q E s)

section
open PySem.SeqAt
open PySem.AutoSeq1 (wpAny_loadPart')
open PySem.MeetsSeq PySem.MeetsSeq2 PySem.MeetsSeq3

theorem tuple_lt_ints (l b : Addr) (items items2 : Array Value) (n n2 : Nat) (dd dd2 : Option Addr) (sl sl2 : Array (Option Value)) (ns ms : List Int) (hi : IntsAre items.toList ns) (hj : IntsAre items2.toList ms) :
    Meets (Builtin.«tuple.__lt__» ⟨[.ref l, .ref b], []⟩)
      (fun _ R s => s.heap.get? l = some { cls := .type "tuple", dict := dd, data := .seq items n, slots := sl } ∧ s.heap.get? b = some { cls := .type "tuple", dict := dd2, data := .seq items2 n2, slots := sl2 } ∧
        R (.ok (.ret (.bool (lexLt ns ms)))) s) :=
  .of_wp fun prog w A R s h => by
    obtain ⟨hp, g, d, tk, os⟩ := s; obtain ⟨hl, hb, h⟩ := h
    have f2 := AutoSeq1.sub_tuple_tuple
    have z1 : items.size = ns.length := by rw [← hi.length]; simp
    have z2 : items2.size = ms.length := by rw [← hj.length]; simp
    wp_walk using wpAny_loadPart' hl, wpAny_loadPart' hb, wpAny_forIn_list _ (fun rest b s' => b.1 = none ∧ s' = ⟨hp, g, d, tk, os⟩ ∧ ∃ (vs ws : List Value) (ns' ms' : List Int), rest = vs.zip ws ∧
      IntsAre vs ns' ∧ IntsAre ws ms' ∧ ns'.length + items2.size = ms'.length + items.size ∧ R (.ok (.ret (.bool (lexLt ns' ms')))) ⟨hp, g, d, tk, os⟩) _
    case turn =>
      rintro ⟨y, x⟩ rest b s' ⟨hb', rfl, vs, ws, ns', ms', hz, hvi, hwi, hlen, hR⟩
      cases hvi with
      | nil => rw [List.zip_nil_left] at hz; cases hz
      | cons a t hvi' =>
        cases hwi with
        | nil => rw [List.zip_nil_right] at hz; cases hz
        | cons c u hwi' =>
          rw [List.zip_cons_cons] at hz
          injection hz with hyx hrest
          injection hyx with hy hx
          subst hy hx
          rw [lexLt_cons] at hR
          simp only [List.length_cons] at hlen
          obtain ⟨e, he, hiff⟩ := eqAt_int A.in1 ⟨hp, g, d, tk, os⟩ a t c u
          refine wpAny_bind (he prog w _ _ ?_)
          cases e with
          | true =>
            rw [if_pos (hiff.mp rfl)] at hR
            wp_walk
            exact ⟨rfl, rfl, _, _, _, _, hrest, hvi', hwi', by omega, hR⟩
          | false =>
            rw [if_neg (fun q => absurd (hiff.mpr q) Bool.false_ne_true)] at hR
            have hri := rcLt_int A.in1 ⟨hp, g, d, tk, os⟩ a t c u prog w
            wp_walk using hri
            exact ⟨_, rfl, by simpa using hR⟩
    case fin =>
      rintro ⟨b1, b2⟩ s' ⟨hb', rfl, vs, ws, ns', ms', hz, hvi, hwi, hlen, hR⟩
      simp only at hb'
      subst hb'
      have hv : lexLt ns' ms' = decide (items.size < items2.size) := by
        cases hvi with
        | nil =>
          cases hwi with
          | nil =>
            simp only [List.length_nil] at hlen
            rw [lexLt_nil_nil]
            exact (decide_eq_false (by omega)).symm
          | cons c u hw =>
            simp only [List.length_nil, List.length_cons] at hlen
            rw [lexLt_nil_cons]
            exact (decide_eq_true (by omega)).symm
        | cons a t hv =>
          cases hwi with
          | nil =>
            simp only [List.length_nil, List.length_cons] at hlen
            rw [lexLt_cons_nil]
            exact (decide_eq_false (by omega)).symm
          | cons c u hw =>
            rw [List.zip_cons_cons] at hz
            cases hz
      rw [hv] at hR
      wp_walk
      exact ⟨_, rfl, by simpa [Builtin.Tuple.tupleCompareSizes] using hR⟩
    case h =>
      exact ⟨rfl, rfl, items.toList, items2.toList, ns, ms, rfl, hi, hj, by omega, h⟩
end

section
variable {prog : Program} {w : World} {A : Around} {E : Value → Shared → Prop} {s : Shared}

theorem lt_tupInts {l b : Addr} {items items2 : Array Value} {ns ms : List Int} {Q : Value → Shared → Prop} (hl : IsTup s.heap l items) (hb : IsTup s.heap b items2) (hi : IntsAre items.toList ns) (hj : IntsAre items2.toList ms)
    (hu : A.units < cLine) (h : Q (.bool (lexLt ns ms)) s) : wpAny (model prog w) A (compareOp .Lt (.ref l) (.ref b)) Q E s := by
  obtain ⟨⟨cls, dd, data, sl⟩, ho, hc, n, hd⟩ := id hl
  obtain ⟨⟨cls2, dd2, data2, sl2⟩, ho2, hc2, n2, hd2⟩ := id hb
  simp only at hc hd hc2 hd2
  subst hc hd hc2 hd2
  exact richCompare_meets_room (op := .Lt) ⟨_, ho, rfl⟩ ⟨_, ho2, rfl⟩ PySem.F.slot_tuple_lt PySem.F.entry_tuple_lt (PySem.F.args_tuple_lt_2 _ _) (tuple_lt_ints l b items items2 n n2 dd dd2 sl sl2 ns ms hi hj)
    ⟨ho, ho2, show Value.bool (lexLt ns ms) ≠ Value.notImplemented ∧ Q (.bool (lexLt ns ms)) s from ⟨(fun x => nomatch x), h⟩⟩ hu

/-- t + u, t not empty -/
theorem cat_tup {t b : Addr} {vs ws : List Value} {Q : Value → Shared → Prop} (ht : IsTup s.heap t vs.toArray) (hb : IsTup s.heap b ws.toArray) (hv : vs ≠ [])
    (h1 : ws = [] → Q (.ref t) s) (h2 : ws ≠ [] → Q (.ref s.heap.objs.size) { s with heap := s.heap.push { cls := .type "tuple", data := .seq (vs ++ ws).toArray } })
    (hsz : vs.length + ws.length ≤ sizeLine) : wpAny (model prog w) A (binaryOp .Add (.ref t) (.ref b)) Q E s := by
  obtain ⟨⟨cls, dd, data, sl⟩, ho, hc, n, hd⟩ := id ht
  obtain ⟨⟨cls2, dd2, data2, sl2⟩, ho2, hc2, n2, hd2⟩ := id hb
  simp only at hc hd hc2 hd2
  subst hc hd hc2 hd2
  have e : vs.toArray ++ ws.toArray = (vs ++ ws).toArray := by simp
  by_cases hw : ws = []
  · exact concat_meets ⟨_, ho, rfl⟩ ⟨_, ho2, rfl⟩ noFill_tuple_add seq_tuple_add PySem.F.slot_tuple_add PySem.F.entry_tuple_add (PySem.F.args_tuple_add_2 _ _)
      (tuple_addW1 t b vs.toArray ws.toArray n n2 dd dd2 sl sl2 (by simpa using hv) (by simp [hw])) ⟨ho, ho2, h1 hw⟩
  · refine concat_meets ⟨_, ho, rfl⟩ ⟨_, ho2, rfl⟩ noFill_tuple_add seq_tuple_add PySem.F.slot_tuple_add PySem.F.entry_tuple_add (PySem.F.args_tuple_add_2 _ _)
      (tuple_addW2 t b vs.toArray ws.toArray n n2 dd dd2 sl sl2 (by simpa using hv) (by simpa using hw) (by rw [List.size_toArray, List.size_toArray]; exact hsz)) ⟨ho, ho2, ?_⟩
    rw [e]
    exact h2 hw

/-! ### t[a:b], not the whole -/
/-- a slice's bound as a place among n (d where it is left out) -/
def sIx (n d : Nat) : Option Int → Nat
  | none => d
  | some v => if v < 0 then (v + (n : Int)).toNat else min v.toNat n
theorem sIx_none (n d : Nat) : sIx n d none = d := rfl
theorem sIx_nat (n d k : Nat) : sIx n d (some (k : Int)) = min k n := by
  show (if (k : Int) < 0 then ((k : Int) + (n : Int)).toNat else min (k : Int).toNat n) = min k n
  rw [if_neg (by omega), Int.toNat_natCast]
theorem sIx_le (n d : Nat) (hd : d ≤ n) (o : Option Int) : sIx n d o ≤ n := by
  cases o with
  | none => exact hd
  | some v =>
    show (if v < 0 then (v + (n : Int)).toNat else min v.toNat n) ≤ n
    by_cases hv : v < 0
    · rw [if_pos hv]; omega
    · rw [if_neg hv]; exact Nat.min_le_right _ _
theorem clip_eq (v : Int) (n d : Nat) : (if v < 0 then max (v + (n : Int)) 0 else min v (n : Int)) = ((sIx n d (some v) : Nat) : Int) := by
  show (if v < 0 then max (v + (n : Int)) 0 else min v (n : Int)) = (((if v < 0 then (v + (n : Int)).toNat else min v.toNat n) : Nat) : Int)
  by_cases hv : v < 0
  · simp only [if_pos hv]; omega
  · simp only [if_neg hv]; omega
theorem adjust_gen (lo hi : Option Int) (n : Nat) : Builtin.Slice.sliceAdjust lo hi 1 (n : Int) = (((sIx n 0 lo : Nat) : Int), ((sIx n n hi : Nat) : Int)) := by
  have h1 : ¬ ((1 : Int) < 0) := by omega
  unfold Builtin.Slice.sliceAdjust
  simp only [h1, if_false]
  refine Prod.ext ?_ ?_
  · cases lo with
    | none => rfl
    | some v => exact clip_eq v n 0
  · cases hi with
    | none => rfl
    | some v => exact clip_eq v n n
theorem places_gen (i j : Nat) : Builtin.Slice.slicePlaces (i : Int) (j : Int) 1 = j - i := by
  unfold Builtin.Slice.slicePlaces
  have h1 : (1 : Int) > 0 := by omega
  simp only [h1, if_true, Int.ediv_one]
  split <;> omega
theorem slicePart_ {v : Value} {o : Option Int} {Q : Option Int → Shared → Prop} (p : IsPart v o) (h : Q o s) : wpAny (model prog w) A (Builtin.Slice.slicePartIndex v) Q E s := by
  cases p with
  | none => exact slicePart_none h
  | int i t => exact slicePart_int h
theorem sliceApplied_gen {sl : Addr} {vl vu : Value} {lo hi : Option Int} {n : Nat} {Q : Int × Int × Nat → Shared → Prop} (hs : s.heap.IsSliceOf sl vl vu .none) (pl : IsPart vl lo) (pu : IsPart vu hi)
    (h : Q (((sIx n 0 lo : Nat) : Int), 1, sIx n n hi - sIx n 0 lo) s) : wpAny (model prog w) A (Builtin.Slice.sliceApplied (.ref sl) (pure (n : Int))) Q E s := by
  obtain ⟨os, hos, hcs, hds⟩ := id hs
  unfold Builtin.Slice.sliceApplied Builtin.Slice.sliceFields
  refine wpAny_bind (wpAny_bind (wpAny_field hos hds (x := vl) rfl (wpAny_bind (wpAny_field hos hds (x := vu) rfl (wpAny_bind (wpAny_field hos hds (x := .none) rfl (wpAny_pure ?_)))))))
  refine wpAny_bind (slicePart_none ?_)
  show wpAny _ _ (if ((1 : Int) == 0) = true then _ else _) _ _ s
  rw [if_neg (by decide)]
  refine wpAny_bind (slicePart_ pl (wpAny_bind (slicePart_ pu (wpAny_bind (wpAny_pure ?_)))))
  show wpAny _ _ (match Builtin.Slice.sliceAdjust lo hi 1 (n : Int) with | (lo, hi) => pure (lo, (1 : Int), Builtin.Slice.slicePlaces lo hi 1)) _ _ s
  rw [adjust_gen lo hi n]
  show wpAny _ _ (pure (((sIx n 0 lo : Nat) : Int), (1 : Int), Builtin.Slice.slicePlaces ((sIx n 0 lo : Nat) : Int) ((sIx n n hi : Nat) : Int) 1)) _ _ s
  rw [places_gen]
  exact wpAny_pure h
theorem pick_gen (xs : Array Value) (i k : Nat) : ((List.range k).filterMap fun (m : Nat) => xs[((i : Int) + (m : Int) * 1).toNat]?).toArray = ((xs.toList.drop i).take k).toArray := by
  have e : (fun (m : Nat) => xs[((i : Int) + (m : Int) * 1).toNat]?) = fun m => xs[i + m]? := by
    funext m
    have : ((i : Int) + (m : Int) * 1).toNat = i + m := by omega
    rw [this]
  rw [e]
  have := pick_run xs i k
  rw [List.filterMap_map] at this
  have e2 : ((fun x => xs[x]?) ∘ fun x => i + x) = fun m => xs[i + m]? := rfl
  rw [e2] at this
  rw [this]

theorem getItem_tuple_cut {t sl : Addr} {items : Array Value} {vl vu : Value} {lo hi : Option Int} {Q : Value → Shared → Prop} (ht : IsTup s.heap t items) (hs : s.heap.IsSliceOf sl vl vu .none) (pl : IsPart vl lo) (pu : IsPart vu hi)
    (hw : ¬ (sIx items.size 0 lo = 0 ∧ sIx items.size items.size hi = items.size))
    (h : Q (.ref s.heap.objs.size) { s with heap := s.heap.push { cls := .type "tuple", data := .seq ((items.toList.drop (sIx items.size 0 lo)).take (sIx items.size items.size hi - sIx items.size 0 lo)).toArray } })
    (hsz : items.size ≤ sizeLine) : wpAny (model prog w) A (getItem (.ref t) (.ref sl)) Q E s := by
  have htake : sizeOk (.seq ((items.toList.drop (sIx items.size 0 lo)).take (sIx items.size items.size hi - sIx items.size 0 lo)).toArray) := by
    show ((items.toList.drop (sIx items.size 0 lo)).take (sIx items.size items.size hi - sIx items.size 0 lo)).toArray.size ≤ sizeLine
    rw [List.size_toArray, List.length_take, List.length_drop, Array.length_toList]
    omega
  have hj : sIx items.size items.size hi ≤ items.size := sIx_le _ _ (Nat.le_refl _) hi
  obtain ⟨os, hos, hcs, hds⟩ := id hs
  have hTs : s.TypeIs (.ref sl) "slice" := ⟨os, hos, hcs⟩
  unfold getItem
  try with_reducible refine wpAny_holding ?_
  first | refine wpAny_bind (wpAny_pure ?_) | skip
  refine wpAny_bind (wpAny_sequenceKey ht.typeIs (by decide) ?_)
  refine wpAny_bind (wpAny_callSpecial?_slot (name := Str.ofString "__getitem__") ht.typeIs PyProof.Rows.slot_tuple_getitem
    (wpAny_call_entry PyProof.Rows.slot_tuple_getitem ht.typeIs entry_tuple_getitem ?_ (args_tuple_getitem _ _)))
  show wpAny _ _ (Builtin.Tuple.tupleItemsOf (.ref t) >>= _) _ _ s
  refine wpAny_bind (tupleItemsOf_ ht ?_)
  refine wpAny_bind (wpAny_typeOf hTs ?_)
  rw [if_pos (by decide)]
  refine wpAny_bind (sliceApplied_gen hs pl pu ?_)
  have hno : ¬ ((((sIx items.size 0 lo : Nat) : Int) == 0 && (1 : Int) == 1 && (sIx items.size items.size hi - sIx items.size 0 lo) == items.size) = true) := by
    intro q
    rw [Bool.and_eq_true, Bool.and_eq_true] at q
    have q1 : ((sIx items.size 0 lo : Nat) : Int) = 0 := eq_of_beq q.1.1
    have q2 : sIx items.size items.size hi - sIx items.size 0 lo = items.size := eq_of_beq q.2
    exact hw ⟨by omega, by omega⟩
  show wpAny _ _ (if (((sIx items.size 0 lo : Nat) : Int) == 0 && (1 : Int) == 1 && (sIx items.size items.size hi - sIx items.size 0 lo) == items.size) = true then _ else _) _ _ s
  rw [if_neg hno, pick_gen]
  first
    | exact wpAny_bind (m := Builtin.Tuple.tupleExact _) (wpAny_newObj_type (wpAny_pure ⟨_, rfl, wpAny_pure h⟩) htake)
    | exact wpAny_bind (m := Builtin.Tuple.tupleExact _) (wpAny_newObj_type (wpAny_bind (wpAny_pure (wpAny_pure ⟨_, rfl, wpAny_pure h⟩))) htake)
    | exact wpAny_bind (wpAny_bind (m := Builtin.Tuple.tupleExact _) (wpAny_newObj_type (wpAny_pure (wpAny_pure ⟨_, rfl, wpAny_pure h⟩)) htake))
    | exact wpAny_bind (wpAny_bind (m := Builtin.Tuple.tupleExact _) (wpAny_newObj_type (wpAny_pure ⟨_, rfl, wpAny_pure h⟩) htake))
end
end HT

namespace L2
open PySem PySem.Spec PyProof.Rows

/-! ### the parts of a slice -/
abbrev TO := St → Hp → (Option Int → Hp → Prop) → Prop
/-- a slice's part (left out, or an int) -/
def PO (X : Cx) (e : Option Expr) (t : TO) : Prop :=
  ∀ (pins : List (Addr × Obj)) (s : Shared) (σ : St) (H : Hp) (Q : Option Int → Hp → Prop), Inv X pins σ H s → t σ H Q →
    wpAny (model X.prog X.w) X.A (evalPart e X.env) (fun u s' => ∃ o H', Inv X pins σ H' s' ∧ IsPart u o ∧ Q o H') X.xe s
def tNoPart : TO := fun _ H Q => Q none H
def tPart (t : TE) : TO := fun σ H Q => t σ H fun x H1 => ∃ i, x = .int i ∧ Q (some i) H1

theorem intsAre_of {ns : List Int} : ∀ {us : List Value}, Vals (ns.map V.int) us → IntsAre us ns := by
  induction ns with
  | nil => intro us r; rw [List.map_nil] at r; cases r; exact .nil
  | cons n ns ih =>
    intro us r
    rw [List.map_cons] at r
    cases r with
    | cons r1 r2 =>
      obtain ⟨t, e⟩ := r1
      subst e
      exact .cons n t (ih r2)

section
variable {X : Cx} {e : Expr} {te : TE} {lo hi : Option Expr} {tl th : TO} {pos p2 : Pos}

theorem po_none : PO X none tNoPart := by
  intro pins s σ H Q I h
  rw [evalPart_none]
  exact wpAny_pure ⟨none, H, I, .none, h⟩
theorem po_some (h : PE X e te) : PO X (some e) (tPart te) := by
  intro pins s σ H Q I hw
  rw [evalPart_some]
  refine thn (h pins s σ H _ I hw) fun u s1 ⟨x, H1, I1, r1, q1⟩ => ?_
  obtain ⟨i, rfl, q⟩ := q1
  obtain ⟨t, rfl⟩ := r1
  exact ⟨some i, H1, I1, .int i t, q⟩

/-- what a slice of a value is, by values: the slice object stands at sl -/
def SlR (X : Cx) (r : V → Option Int → Option Int → Hp → VK → Prop) : Prop :=
  ∀ (pins : List (Addr × Obj)) (s : Shared) (σ : St) (H : Hp) (x : V) (v vl vu : Value) (lo hi : Option Int) (sl : Addr) (Q : VK), Inv X pins σ H s → RelV x v → s.heap.IsSliceOf sl vl vu .none → IsPart vl lo → IsPart vu hi → r x lo hi H Q →
    ∃ T id, typeLookup (.type T) "__getitem__" = pure (some (.builtin id)) ∧ s.TypeIs v T ∧ wpAny (model X.prog X.w) X.A (getItem v (.ref sl)) (EP X pins σ Q) X.xe s
theorem SlR.or {r r' : V → Option Int → Option Int → Hp → VK → Prop} (h : SlR X r) (h' : SlR X r') : SlR X (fun x lo hi H Q => r x lo hi H Q ∨ r' x lo hi H Q) := by
  intro pins s σ H x v vl vu lo hi sl Q I rx hs pl pu q
  rcases q with q | q
  · exact h pins s σ H x v vl vu lo hi sl Q I rx hs pl pu q
  · exact h' pins s σ H x v vl vu lo hi sl Q I rx hs pl pu q
def tSl (r : V → Option Int → Option Int → Hp → VK → Prop) (te : TE) (tl th : TO) : TE := fun σ H Q => te σ H fun x H1 => tl σ H1 fun l H2 => th σ H2 fun u H3 => r x l u H3 Q
/-- a[lo:hi], any a -/
theorem pe_slice {r : V → Option Int → Option Int → Hp → VK → Prop} (hr : SlR X r) (he : PE X e te) (hl : PO X lo tl) (hu : PO X hi th) : PE X (.Subscript e (.Slice lo hi none p2) pos) (tSl r te tl th) := by
  intro pins s σ H Q I h
  refine Subscript_ (thn (he pins s σ H _ I h) fun v s1 ⟨x, H1, I1, r1, q1⟩ => ?_)
  refine wpAny_Slice (thn (hl pins s1 σ H1 _ I1 q1) fun vl s2 ⟨l, H2, I2, pl, q2⟩ => thn (hu pins s2 σ H2 _ I2 q2) fun vu s3 ⟨u, H3, I3, pu, q3⟩ => ?_)
  rw [evalPart_none]
  refine wpAny_pure ?_
  have I4 : Inv X pins σ H3 { s3 with heap := s3.heap.push { cls := .type "slice", data := .fields #[vl, vu, .none] } } := I3.kept (t' := s3.toks) fun b ob q => Heap.get?_push_of_some _ q
  obtain ⟨T, id, hT, ht, hg⟩ := hr pins { s3 with heap := s3.heap.push { cls := .type "slice", data := .fields #[vl, vu, .none] } } σ H3 x v vl vu l u s3.heap.objs.size Q I4 r1 (Heap.IsSliceOf.new ..) pl pu q3
  show wpAny (model X.prog X.w) X.A (subscriptTail e (.Slice lo hi none p2) v (.ref s3.heap.objs.size)) (EP X pins σ Q) X.xe { s3 with heap := s3.heap.push { cls := .type "slice", data := .fields #[vl, vu, .none] } }
  exact tail_any (ops := [.ref s3.heap.objs.size, v]) ht hT hg (by with_unfolding_all rfl)

/-- the items of xs[lo:hi] -/
def cutV (xs : List V) (lo hi : Option Int) : List V := (xs.drop (HT.sIx xs.length 0 lo)).take (HT.sIx xs.length xs.length hi - HT.sIx xs.length 0 lo)
theorem cutV_length (xs : List V) (lo hi : Option Int) : (cutV xs lo hi).length ≤ xs.length := by
  unfold cutV
  rw [List.length_take, List.length_drop]
  omega
/-- t[lo:hi], not the whole of it (the whole would be t itself) -/
def rSlT (K : PySem.W.Frag) : V → Option Int → Option Int → Hp → VK → Prop := fun x lo hi H Q => ∃ a xs, x = .ref a ∧ SqT K H a xs ∧
  ¬ (HT.sIx xs.length 0 lo = 0 ∧ HT.sIx xs.length xs.length hi = xs.length) ∧ ∀ p, H p = none → Q (.ref p) (upd H p (.tup (cutV xs lo hi)))
theorem sl_tup : SlR X (rSlT X.K) := by
  intro pins s σ H x v vl vu lo hi sl Q I rx hs pl pu h
  obtain ⟨a, xs, rfl, hx, hw, q⟩ := h
  cases rx
  obtain ⟨its, r, ht, hz⟩ := I.tuple hx
  have hlen : its.toArray.size = xs.length := by rw [List.size_toArray]; exact r.length.symm
  refine ⟨"tuple", _, PyProof.Rows.slot_tuple_getitem.lookup, ht.typeIs, ?_⟩
  refine HT.getItem_tuple_cut ht hs pl pu (by rw [hlen]; exact hw) ?_ (by rw [hlen]; exact hz)
  rw [hlen]
  refine ⟨.ref s.heap.objs.size, _, I.laid (t' := s.toks) (o := .tup (cutV xs lo hi)) (fun b ob q => Heap.get?_push_of_some _ q) (Nat.le_refl _) ?_, rfl, q _ (I.hok.fresh (Nat.le_refl _))⟩
  exact ⟨Nat.le_trans (cutV_length xs lo hi) hz, _, (r.drop (HT.sIx xs.length 0 lo)).take (HT.sIx xs.length xs.length hi - HT.sIx xs.length 0 lo), IsTup.new _ _⟩

/-! ### t < u, t + u -/
def rLtT (K : PySem.W.Frag) : R2 := fun x y H Q => ∃ a b ns ms, x = .ref a ∧ y = .ref b ∧ SqT K H a (ns.map V.int) ∧ SqT K H b (ms.map V.int) ∧ Q (.bl (HT.lexLt ns ms)) H
theorem op_ltT (hu : X.A.units < cLine) : OpR X (compareOp .Lt) (rLtT X.K) := by
  intro pins s σ H x y v u Q I rx ry h
  obtain ⟨a, b, ns, ms, rfl, rfl, ha, hb, q⟩ := h
  cases rx
  cases ry
  obtain ⟨its, r1, p1, _⟩ := I.tuple ha
  obtain ⟨its2, r2, p2, _⟩ := I.tuple hb
  have i1 : IntsAre its.toArray.toList ns := intsAre_of r1
  have i2 : IntsAre its2.toArray.toList ms := intsAre_of r2
  exact HT.lt_tupInts p1 p2 i1 i2 hu ⟨.bl (HT.lexLt ns ms), H, I, rfl, q⟩
/-- t + u, t not empty: u empty gives t itself -/
def rCatT (K : PySem.W.Frag) : R2 := fun x y H Q => ∃ a b xs ys, x = .ref a ∧ y = .ref b ∧ SqT K H a xs ∧ SqT K H b ys ∧ xs ≠ [] ∧ xs.length + ys.length ≤ sizeLine ∧
  (ys = [] → Q (.ref a) H) ∧ (ys ≠ [] → ∀ p, H p = none → Q (.ref p) (upd H p (.tup (xs ++ ys))))
theorem Vals.nil_iff {xs : List V} {us : List Value} (r : Vals xs us) : us = [] ↔ xs = [] := by
  cases r with
  | nil => simp
  | cons _ _ => simp
theorem op_catT : OpR X (binaryOp .Add) (rCatT X.K) := by
  intro pins s σ H x y v u Q I rx ry h
  obtain ⟨a, b, xs, ys, rfl, rfl, ha, hb, hx, hz, q1, q2⟩ := h
  cases rx
  cases ry
  obtain ⟨its, r1, p1, _⟩ := I.tuple ha
  obtain ⟨its2, r2, p2, _⟩ := I.tuple hb
  refine HT.cat_tup p1 p2 (fun z => hx (r1.nil_iff.mp z)) (fun z => ⟨.ref a, H, I, rfl, q1 (r2.nil_iff.mp z)⟩) (fun z => ?_) (by rw [← r1.length, ← r2.length]; exact hz)
  refine ⟨.ref s.heap.objs.size, _, I.laid (t' := s.toks) (o := .tup (xs ++ ys)) (fun b ob q => Heap.get?_push_of_some _ q) (Nat.le_refl _) ?_, rfl, q2 (fun w => z (r2.nil_iff.mpr w)) _ (I.hok.fresh (Nat.le_refl _))⟩
  exact ⟨by rw [List.length_append]; exact hz, _, r1.append r2, IsTup.new _ _⟩
/-- tuple(t) -/
theorem call_tupleT : CallR X (.type "tuple") (fun xs H Q => ∃ a ys, xs = [.ref a] ∧ SqT X.K H a ys ∧ Q (.ref a) H) := by
  intro pins s σ H xs us Q I r h
  obtain ⟨a, ys, rfl, ha, q⟩ := h
  obtain ⟨u, rfl, ru⟩ := vals1 r
  cases ru
  obtain ⟨its, _, p1, _⟩ := I.tuple ha
  exact call_tuple_same (items := its.toArray) p1 ⟨.ref a, H, I, rfl, q⟩
end
end L2

namespace L2
open PySem PySem.Spec PyProof.Rows

/-! ### places -/
/-- the place that an index of any sign means -/
def ixN (n : Nat) (i : Int) : Option Nat := if 0 ≤ i then (if i < n then some i.toNat else none) else if -(n : Int) ≤ i then some (i + n).toNat else none
def atI {α : Type} (xs : List α) (i : Int) : Option α := (ixN xs.length i).bind fun j => xs[j]?
theorem ixN_seq {n : Nat} {i : Int} {j : Nat} (h : ixN n i = some j) : seqIndex? i n = some j ∧ j < n ∧ -(n : Int) ≤ i ∧ i < n := by
  unfold ixN at h
  by_cases h0 : 0 ≤ i
  · rw [if_pos h0] at h
    by_cases h1 : i < n
    · rw [if_pos h1] at h
      have e : i.toNat = j := Option.some.inj h
      exact ⟨by rw [seqIndex_of h0 h1, e], by omega, by omega, h1⟩
    · rw [if_neg h1] at h; cases h
  · rw [if_neg h0] at h
    by_cases h1 : -(n : Int) ≤ i
    · rw [if_pos h1] at h
      have e : (i + n).toNat = j := Option.some.inj h
      exact ⟨by rw [seqIndex_neg (by omega) h1, e], by omega, h1, by omega⟩
    · rw [if_neg h1] at h; cases h
theorem atI_get {α : Type} {xs : List α} {i : Int} {v : α} (h : atI xs i = some v) : ∃ j, seqIndex? i xs.length = some j ∧ xs[j]? = some v ∧ j < xs.length ∧ -(xs.length : Int) ≤ i ∧ i < xs.length := by
  unfold atI at h
  cases e : ixN xs.length i with
  | none => rw [e] at h; cases h
  | some j =>
    rw [e] at h
    obtain ⟨h1, h2, h3, h4⟩ := ixN_seq e
    exact ⟨j, h1, h, h2, h3, h4⟩
theorem atI_nat {α : Type} {xs : List α} {j : Nat} {v : α} (h : xs[j]? = some v) : atI xs (j : Int) = some v := by
  have hj : j < xs.length := (List.getElem?_eq_some_iff.mp h).1
  have e : ixN xs.length (j : Int) = some j := by
    unfold ixN
    rw [if_pos (by omega), if_pos (by omega)]; simp
  unfold atI; rw [e]; exact h
theorem atI_last {α : Type} (xs : List α) (v : α) : atI (xs ++ [v]) (-1) = some v := by
  have hl : (xs ++ [v]).length = xs.length + 1 := by simp
  have e : ixN (xs ++ [v]).length (-1) = some xs.length := by
    unfold ixN
    rw [hl, if_neg (by decide), if_pos (by omega)]
    congr 1
    omega
  unfold atI
  rw [e]
  show (xs ++ [v])[xs.length]? = some v
  simp

/-! ### what may be subscripted -/
/-- what stands as an index of a plain subscript -/
def PlainIx (b : Expr) : Prop := ∀ o i, subscripted b false o i = operate [o, i] (getItem o i)
/-- a subscript by values -/
def IxR (X : Cx) (r : R2) : Prop :=
  ∀ (value slice : Expr) (pins : List (Addr × Obj)) (s : Shared) (σ : St) (H : Hp) (x y : V) (v u : Value) (Q : VK), Inv X pins σ H s → RelV x v → RelV y u → r x y H Q →
    subscripted slice false v u = operate [v, u] (getItem v u) → wpAny (model X.prog X.w) X.A (subscriptTail value slice v u) (EP X pins σ Q) X.xe s
/-- a call of a builtin's method by values: the receiver, the arguments -/
def MtR (X : Cx) (id : String) (r : V → List V → Hp → VK → Prop) : Prop :=
  ∀ (pins : List (Addr × Obj)) (s : Shared) (σ : St) (H : Hp) (x : V) (xs : List V) (v : Value) (us : List Value) (Q : VK), Inv X pins σ H s → RelV x v → Vals xs us → r x xs H Q →
    wpAny (model X.prog X.w) X.A (call (.builtin id) (v :: us)) (EP X pins σ Q) X.xe s
section
variable {X : Cx} {a b : Expr} {ta tb : TE} {pos : Pos}
theorem IxR.or {r r' : R2} (h : IxR X r) (h' : IxR X r') : IxR X (fun x y H Q => r x y H Q ∨ r' x y H Q) := by
  intro value slice pins s σ H x y v u Q I rx ry q hs
  rcases q with q | q
  · exact h value slice pins s σ H x y v u Q I rx ry q hs
  · exact h' value slice pins s σ H x y v u Q I rx ry q hs
theorem MtR.or {id : String} {r r' : V → List V → Hp → VK → Prop} (h : MtR X id r) (h' : MtR X id r') : MtR X id (fun x xs H Q => r x xs H Q ∨ r' x xs H Q) := by
  intro pins s σ H x xs v us Q I rx rs q
  rcases q with q | q
  · exact h pins s σ H x xs v us Q I rx rs q
  · exact h' pins s σ H x xs v us Q I rx rs q
/-- a[b] -/
theorem pe_ix {r : R2} (hr : IxR X r) (ha : PE X a ta) (hb : PE X b tb) (hs : PlainIx b) : PE X (.Subscript a b pos) (tOp r ta tb) := by
  intro pins s σ H Q I h
  exact Subscript_ (binT ha hb I h fun v u s2 x y H2 I2 rx ry q => hr a b pins s2 σ H2 x y v u Q I2 rx ry q (hs _ _))

def rIxL (K : PySem.W.Frag) : R2 := fun x y H Q => ∃ p xs i v, x = .ref p ∧ y = .int i ∧ SqL K H p xs ∧ atI xs i = some v ∧ Q v H
def rIxT (K : PySem.W.Frag) : R2 := fun x y H Q => ∃ p xs i v, x = .ref p ∧ y = .int i ∧ SqT K H p xs ∧ atI xs i = some v ∧ Q v H
def rIxS : R2 := fun x y H Q => ∃ z i c, x = .str z ∧ y = .int i ∧ z.length ≤ sizeLine ∧ atI z.cps.toList i = some c ∧ Q (.str ⟨#[c]⟩) H
theorem ix_list : IxR X (rIxL X.K) := by
  intro value slice pins s σ H x y v u Q I rx ry h hs
  obtain ⟨p, xs, i, z, rfl, rfl, hq, he, q⟩ := h
  cases rx
  obtain ⟨t, rfl⟩ := ry
  obtain ⟨its, r, pl, hz⟩ := I.list hq
  obtain ⟨j, h1, h2, h3, h4, h5⟩ := atI_get he
  obtain ⟨w, ew, rw'⟩ := r.get h2
  have hl := r.length
  have hn := line63
  have fin : EP X pins σ Q w s := ⟨z, H, I, rw', q⟩
  by_cases h0 : 0 ≤ i
  · have hj : i.toNat = j := by
      rw [seqIndex_of h0 h5] at h1
      exact Option.some.inj h1
    exact item_listR pl.isList h0 (by omega) (by rw [hj]; simpa using ew) fin hs
  · have hj : (i + (its.toArray.size : Int)).toNat = j := by
      rw [seqIndex_neg (by omega) h4] at h1
      rw [List.size_toArray, ← hl]
      exact Option.some.inj h1
    exact subscriptTail_builtinR (x := w) pl.isList.typeIs slot_list_getitem.lookup
      (wpAny_getItem_list_neg (Q := fun r s' => r = w ∧ EP X pins σ Q r s') pl.isList (by omega) (by rw [List.size_toArray] <;> omega) (by omega) (by rw [hj]; simpa using ew) ⟨rfl, fin⟩) hs
theorem ix_tup : IxR X (rIxT X.K) := by
  intro value slice pins s σ H x y v u Q I rx ry h hs
  obtain ⟨p, xs, i, z, rfl, rfl, hq, he, q⟩ := h
  cases rx
  obtain ⟨t, rfl⟩ := ry
  obtain ⟨its, r, pl, hz⟩ := I.tuple hq
  obtain ⟨j, h1, h2, h3, h4, h5⟩ := atI_get he
  obtain ⟨w, ew, rw'⟩ := r.get h2
  have hl := r.length
  have hn := line63
  have fin : EP X pins σ Q w s := ⟨z, H, I, rw', q⟩
  exact subscriptTail_builtinR (x := w) pl.typeIs slot_tuple_getitem.lookup
    (getItem_tuple (j := j) (Q := fun r s' => r = w ∧ EP X pins σ Q r s') pl (by omega) (by omega) (by rw [List.size_toArray, ← hl]; exact h1) (by simpa using ew) ⟨rfl, fin⟩) hs
theorem ix_str : IxR X rIxS := by
  intro value slice pins s σ H x y v u Q I rx ry h hs
  obtain ⟨z, i, c, rfl, rfl, hz, he, q⟩ := h
  obtain ⟨t, rfl⟩ := rx
  obtain ⟨t', rfl⟩ := ry
  obtain ⟨j, h1, h2, h3, h4, h5⟩ := atI_get he
  have hl : z.cps.toList.length = z.length := by simp [Str.length]
  rw [hl] at h1 h4 h5
  have hn := line63
  exact tail_any (typeIs_str s z t) slot_str_getitem.lookup (getItem_str (c := c) (by
    have e1 : decide (i < -(2 ^ 63 : Int)) = false := decide_eq_false (by omega)
    have e2 : decide (i ≥ 2 ^ 63) = false := decide_eq_false (by omega)
    rw [e1, e2, Bool.or_false]) (by rw [h1]; simpa using h2) ⟨.str ⟨#[c]⟩, H, I.tok _, ⟨_, rfl⟩, q⟩) hs
/-- list, tuple or str -/
def rIx (K : PySem.W.Frag) : R2 := fun x y H Q => rIxL K x y H Q ∨ rIxT K x y H Q ∨ rIxS x y H Q
theorem ix_seq : IxR X (rIx X.K) := ix_list.or (ix_tup.or ix_str)

/-! ### xs[i] = v, any sign -/
/-- the list's object behind a store -/
theorem mapSeq_set (its : List Value) (n j : Nat) (u : Value) : Obj.mapSeq (·.setIfInBounds j u) { cls := .type "list", data := .seq its.toArray n } = { cls := .type "list", data := .seq (its.set j u).toArray n } := by
  simp [Obj.mapSeq]
theorem Inv.lst {pins : List (Addr × Obj)} {σ : St} {H : Hp} {s : Shared} {p : Addr} {xs : List V} (I : Inv X pins σ H s) (h : H p = some (.lst xs)) :
    ∃ (its : List Value) (n : Nat), Vals xs its ∧ s.heap.get? p = some { cls := .type "list", data := .seq its.toArray n } ∧ xs.length ≤ sizeLine := by
  obtain ⟨z, its, n, r, e⟩ := I.hok p _ h
  exact ⟨its, n, r, e, z⟩
/-- the list at p is written by an update of its object -/
theorem Inv.lstUpd {pins : List (Addr × Obj)} {σ : St} {H : Hp} {s : Shared} {p : Addr} {xs ys : List V} {its its' : List Value} {n n' : Nat} {f : Obj → Obj} (I : Inv X pins σ H s) (h : H p = some (.lst xs))
    (ho : s.heap.get? p = some { cls := .type "list", data := .seq its.toArray n }) (hf : f { cls := .type "list", data := .seq its.toArray n } = { cls := .type "list", data := .seq its'.toArray n' }) (r : Vals ys its') (hz : ys.length ≤ sizeLine) (t : Nat) :
    Inv X pins σ (upd H p (.lst ys)) { s with heap := s.heap.update p f, toks := t } := by
  have e : (s.heap.update p f).get? p = some { cls := .type "list", data := .seq its'.toArray n' } := by
    rw [Heap.get?_update_self f ho (by rw [hf] <;> rfl), hf]
  refine I.write (x := p) (e := p) (by rw [h]; trivial) (.inl rfl) (fun b u hb q => (Heap.get?_update_other _ _ (Ne.symm hb)).trans q) ⟨_, e⟩ ?_
  exact ⟨hz, its', n', r, e⟩
def rSetL : V → V → V → Hp → (Hp → Prop) → Prop := fun o i v H Q => ∃ p xs k j, o = .ref p ∧ i = .int k ∧ H p = some (.lst xs) ∧ ixN xs.length k = some j ∧ Q (upd H p (.lst (xs.set j v)))
theorem set_list : PSet X rSetL := by
  intro pins s σ H o i v ov iv u Q I ro ri rv h
  obtain ⟨p, xs, k, j, rfl, rfl, hp, hj, q⟩ := h
  cases ro
  obtain ⟨t, rfl⟩ := ri
  obtain ⟨its, n, r, ho, hz⟩ := I.lst hp
  obtain ⟨h1, h2, h3, h4⟩ := ixN_seq hj
  have hl := r.length
  have hn := line63
  have I' : Inv X pins σ (upd H p (.lst (xs.set j v))) { s with heap := s.heap.update p (Obj.mapSeq (·.setIfInBounds j u)) } :=
    I.lstUpd hp ho (mapSeq_set its n j u) (r.set rv j) (by rw [List.length_set]; exact hz) s.toks
  by_cases h0 : 0 ≤ k
  · have hk : k.toNat = j := by
      rw [seqIndex_of h0 h4] at h1
      exact Option.some.inj h1
    exact PySem.W.ki_setAt ho h0 (by omega) (by rw [List.size_toArray, ← hl]; exact h4) (by rw [hk]; exact ⟨_, I', q⟩)
  · have hk : (k + (its.toArray.size : Int)).toNat = j := by
      rw [seqIndex_neg (by omega) h3] at h1
      rw [List.size_toArray, ← hl]
      exact Option.some.inj h1
    exact PySem.W.ki_setBack ho (by omega) (by rw [List.size_toArray, ← hl]; exact h3) (by omega) (by rw [hk]; exact ⟨_, I', q⟩)

/-! ### slices -/
theorem slice_bounds (lo hi : Option Int) (n : Nat) : (sliceBounds lo hi none n).1 = ((HT.sIx n 0 lo : Nat) : Int) ∧ (sliceBounds lo hi none n).2.1 = ((HT.sIx n n hi : Nat) : Int) ∧ (sliceBounds lo hi none n).2.2 = 1 := by
  refine ⟨?_, ?_, rfl⟩
  · cases lo with
    | none => simp [sliceBounds, HT.sIx]
    | some i =>
      simp only [sliceBounds, HT.sIx, Option.getD_none, show (1 : Int) > 0 by decide, if_true]
      by_cases h : i < 0
      · simp only [h, if_true] <;> omega
      · simp only [h, if_false] <;> omega
  · cases hi with
    | none => simp [sliceBounds, HT.sIx]
    | some i =>
      simp only [sliceBounds, HT.sIx, Option.getD_none, show (1 : Int) > 0 by decide, if_true]
      by_cases h : i < 0
      · simp only [h, if_true] <;> omega
      · simp only [h, if_false] <;> omega
theorem slicePick_cut (its : List Value) (lo hi : Option Int) : slicePick its.toArray lo hi none = ((its.drop (HT.sIx its.length 0 lo)).take (HT.sIx its.length its.length hi - HT.sIx its.length 0 lo)).toArray := by
  obtain ⟨h1, h2, h3⟩ := slice_bounds lo hi its.toArray.size
  unfold slicePick
  rw [h1, h2, h3]
  simp only [sliceRange_one, pick_run, List.size_toArray] <;> rfl
/-- xs[lo:hi] of a list: a new list -/
def rSlL (K : PySem.W.Frag) : V → Option Int → Option Int → Hp → VK → Prop := fun x lo hi H Q => ∃ a xs, x = .ref a ∧ SqL K H a xs ∧ ∀ p, H p = none → Q (.ref p) (upd H p (.lst (cutV xs lo hi)))
theorem sl_list : SlR X (rSlL X.K) := by
  intro pins s σ H x v vl vu lo hi sl Q I rx hs pl pu h
  obtain ⟨a, xs, rfl, hx, q⟩ := h
  cases rx
  obtain ⟨its, r, ht, hz⟩ := I.list hx
  have hlen := r.length
  refine ⟨"list", _, slot_list_getitem.lookup, ht.isList.typeIs, ?_⟩
  refine wpAny_getItem_list_slice ht.isList hs pl pu .none (by simp) ?_ (by rw [List.size_toArray] <;> omega)
  rw [slicePick_cut, ← hlen]
  refine ⟨.ref s.heap.objs.size, _, I.laid (t' := s.toks) (o := .lst (cutV xs lo hi)) (fun b ob q => Heap.get?_push_of_some _ q) (Nat.le_refl _) ?_, rfl, q _ (I.hok.fresh (Nat.le_refl _))⟩
  exact ⟨Nat.le_trans (cutV_length xs lo hi) hz, _, 0, (r.drop (HT.sIx xs.length 0 lo)).take (HT.sIx xs.length xs.length hi - HT.sIx xs.length 0 lo), Heap.get?_push_size _ rfl⟩

/-! ### in, not in: flat items -/
def flatV : V → Bool
  | .non => true
  | .bl _ => true
  | .int _ => true
  | .str _ => true
  | _ => false
/-- == of flat values -/
def eqV : V → V → Bool
  | .non, .non => true
  | .bl a, .bl b => a == b
  | .bl a, .int b => (if a then 1 else 0) == b
  | .int a, .bl b => a == (if b then 1 else 0)
  | .int a, .int b => a == b
  | .str a, .str b => a == b
  | _, _ => false
theorem eqAt_V {A : Around} {s : Shared} {y x : V} {u v : Value} (ry : RelV y u) (rx : RelV x v) (fy : flatV y = true) (fx : flatV x = true) : SeqAt.EqAt A s u v (eqV y x) := by
  cases y with
  | non =>
    cases ry
    cases x with
    | non => cases rx; exact SeqAt.EqAt.same _
    | bl b => cases rx; exact SeqAt.EqAt.none_bool b
    | int b => obtain ⟨t, rfl⟩ := rx; exact SeqAt.EqAt.none_int b t
    | str b => obtain ⟨t, rfl⟩ := rx; exact SeqAt.EqAt.none_str b t
    | _ => exact absurd (show false = true from fx) Bool.false_ne_true
  | bl a =>
    cases ry
    cases x with
    | non => cases rx; exact SeqAt.EqAt.bool_none a
    | bl b => cases rx; exact SeqAt.EqAt.bool_bool a b
    | int b => obtain ⟨t, rfl⟩ := rx; exact SeqAt.EqAt.bool_int a b t
    | str b => obtain ⟨t, rfl⟩ := rx; exact SeqAt.EqAt.bool_str a b t
    | _ => exact absurd (show false = true from fx) Bool.false_ne_true
  | int a =>
    obtain ⟨t', rfl⟩ := ry
    cases x with
    | non => cases rx; exact SeqAt.EqAt.int_none a t'
    | bl b => cases rx; exact SeqAt.EqAt.int_bool a t' b
    | int b => obtain ⟨t, rfl⟩ := rx; exact SeqAt.EqAt.int_int a t' b t
    | str b => obtain ⟨t, rfl⟩ := rx; exact SeqAt.EqAt.int_str a t' b t
    | _ => exact absurd (show false = true from fx) Bool.false_ne_true
  | str a =>
    obtain ⟨t', rfl⟩ := ry
    cases x with
    | non => cases rx; exact SeqAt.EqAt.str_none a t'
    | bl b => cases rx; exact SeqAt.EqAt.str_bool a t' b
    | int b => obtain ⟨t, rfl⟩ := rx; exact SeqAt.EqAt.str_int a t' b t
    | str b => obtain ⟨t, rfl⟩ := rx; exact SeqAt.EqAt.str_str a t' b t
    | _ => exact absurd (show false = true from fx) Bool.false_ne_true
  | _ => exact absurd (show false = true from fy) Bool.false_ne_true
/-- the items' answers, read off the values (a value's own answer does not lean on its token) -/
def eqU (x : V) (u : Value) : Bool := match u with
  | .none => eqV .non x
  | .bool b => eqV (.bl b) x
  | .int i _ => eqV (.int i) x
  | .str z _ => eqV (.str z) x
  | _ => false
theorem eqU_of {x y : V} {u : Value} (r : RelV y u) (f : flatV y = true) : eqU x u = eqV y x := by
  cases y with
  | non => cases r; rfl
  | bl b => cases r; rfl
  | int i => obtain ⟨t, rfl⟩ := r; rfl
  | str z => obtain ⟨t, rfl⟩ := r; rfl
  | _ => exact absurd (show false = true from f) Bool.false_ne_true
theorem any_eqU {x : V} : ∀ {xs : List V} {us : List Value}, Vals xs us → xs.all flatV = true → us.any (eqU x) = xs.any fun y => eqV y x
  | _, _, .nil, _ => rfl
  | y :: xs, u :: us, .cons r t, f => by
    rw [List.all_cons, Bool.and_eq_true] at f
    rw [List.any_cons, List.any_cons, eqU_of r f.1, any_eqU t f.2]
theorem mem_eqAt {A : Around} {s : Shared} {x : V} {v : Value} (rx : RelV x v) (fx : flatV x = true) : ∀ {xs : List V} {us : List Value}, Vals xs us → xs.all flatV = true → ∀ u ∈ us, SeqAt.EqAt A s u v (eqU x u)
  | _, _, .nil, _ => fun u hu => by cases hu
  | y :: xs, u :: us, .cons r t, f => fun u' hu => by
    rw [List.all_cons, Bool.and_eq_true] at f
    rcases List.mem_cons.mp hu with rfl | hu
    · rw [eqU_of r f.1]; exact eqAt_V r rx f.1 fx
    · exact mem_eqAt rx fx t f.2 u' hu
def inV (x : V) (xs : List V) : Bool := xs.any fun y => eqV y x
/-- x in a list or tuple of flat items -/
def rIn (K : PySem.W.Frag) (neg : Bool) : R2 := fun x y H Q => ∃ p xs, y = .ref p ∧ (SqL K H p xs ∨ SqT K H p xs) ∧ flatV x = true ∧ xs.all flatV = true ∧ Q (.bl (if neg then !inV x xs else inV x xs)) H
theorem op_in_seq : OpR X (compareOp .In) (rIn X.K false) := by
  intro pins s σ H x y v u Q I rx ry h
  obtain ⟨p, xs, rfl, hq, fx, fs, q⟩ := h
  cases ry
  rcases hq with hq | hq
  · obtain ⟨its, r, pl, hz⟩ := I.list hq
    refine SeqAt.in_listAt (eqU x) pl.isList (fun w hw => mem_eqAt rx fx r fs w (by simpa using hw)) ⟨.bl _, H, I, rfl, ?_⟩
    rw [show its.toArray.any (eqU x) = its.any (eqU x) by simp, any_eqU r fs]
    exact q
  · obtain ⟨its, r, pl, hz⟩ := I.tuple hq
    refine SeqAt.in_tupleAt (eqU x) pl (fun w hw => mem_eqAt rx fx r fs w (by simpa using hw)) ⟨.bl _, H, I, rfl, ?_⟩
    rw [show its.toArray.any (eqU x) = its.any (eqU x) by simp, any_eqU r fs]
    exact q
theorem op_notIn_seq : OpR X (compareOp .NotIn) (rIn X.K true) := by
  intro pins s σ H x y v u Q I rx ry h
  obtain ⟨p, xs, rfl, hq, fx, fs, q⟩ := h
  cases ry
  rcases hq with hq | hq
  · obtain ⟨its, r, pl, hz⟩ := I.list hq
    refine SeqAt.notIn_listAt (eqU x) pl.isList (fun w hw => mem_eqAt rx fx r fs w (by simpa using hw)) ⟨.bl _, H, I, rfl, ?_⟩
    rw [show its.toArray.any (eqU x) = its.any (eqU x) by simp, any_eqU r fs]
    exact q
  · obtain ⟨its, r, pl, hz⟩ := I.tuple hq
    refine SeqAt.notIn_tupleAt (eqU x) pl (fun w hw => mem_eqAt rx fx r fs w (by simpa using hw)) ⟨.bl _, H, I, rfl, ?_⟩
    rw [show its.toArray.any (eqU x) = its.any (eqU x) by simp, any_eqU r fs]
    exact q
theorem op_notIn_str : OpR X (compareOp .NotIn) (fun x y H Q => ∃ i j, x = .str i ∧ y = .str j ∧ Q (.bl (!(!(Builtin.Str.occurrences j i 0 j.length 1).isEmpty))) H) := by
  intro pins s σ H x y v u Q I rx ry h
  obtain ⟨i, j, rfl, rfl, q⟩ := h
  obtain ⟨t, rfl⟩ := rx
  obtain ⟨t', rfl⟩ := ry
  exact notIn_str ⟨.bl _, H, I, rfl, q⟩

/-! ### len, list(x), tuple(x) of any list or tuple that is read -/
theorem call_len_seq : CallR X (.builtin "len") (fun xs H Q => ∃ p ys, xs = [.ref p] ∧ (SqL X.K H p ys ∨ SqT X.K H p ys) ∧ Q (.int ys.length) H) := by
  intro pins s σ H xs us Q I r h
  obtain ⟨p, ys, rfl, hq, q⟩ := h
  obtain ⟨u, rfl, rx⟩ := vals1 r
  cases rx
  have hn := line63
  rcases hq with hq | hq
  · obtain ⟨its, r', pl, hz⟩ := I.list hq
    have hlen := r'.length
    exact Calls.call_len_list pl.isList (by simp only [List.size_toArray] <;> omega) ⟨.int ys.length, H, I.tok _, ⟨s.toks + 1, by rw [List.size_toArray, hlen]⟩, q⟩
  · obtain ⟨its, r', pl, hz⟩ := I.tuple hq
    have hlen := r'.length
    exact len_tuple pl (by simp only [List.size_toArray] <;> omega) ⟨.int ys.length, H, I.tok _, ⟨s.toks + 1, by rw [List.size_toArray, hlen]⟩, q⟩
theorem call_len_str : CallR X (.builtin "len") (fun xs H Q => ∃ z, xs = [.str z] ∧ z.length ≤ sizeLine ∧ Q (.int z.length) H) := by
  intro pins s σ H xs us Q I r h
  obtain ⟨z, rfl, hz, q⟩ := h
  obtain ⟨u, rfl, t, rfl⟩ := vals1 r
  have hn := line63
  exact len_str (by omega) ⟨.int z.length, H, I.tok _, ⟨_, rfl⟩, q⟩
theorem CallR.or {f : Value} {r r' : List V → Hp → VK → Prop} (h : CallR X f r) (h' : CallR X f r') : CallR X f (fun xs H Q => r xs H Q ∨ r' xs H Q) := by
  intro pins s σ H xs us Q I rs q
  rcases q with q | q
  · exact h pins s σ H xs us Q I rs q
  · exact h' pins s σ H xs us Q I rs q
theorem call_list_of : CallR X (.type "list") (fun xs H Q => ∃ p ys, xs = [.ref p] ∧ (SqL X.K H p ys ∨ SqT X.K H p ys) ∧ ∀ l, H l = none → Q (.ref l) (upd H l (.lst ys))) := by
  intro pins s σ H xs us Q I r h
  obtain ⟨p, ys, rfl, hq, q⟩ := h
  obtain ⟨u, rfl, rx⟩ := vals1 r
  cases rx
  have fin : ∀ (its : List Value), Vals ys its → ys.length ≤ sizeLine → ∀ (h' : Heap) (c' : Nat), (∀ b o', s.heap.get? b = some o' → h'.get? b = some o') →
      h'.get? s.heap.objs.size = some { cls := .type "list", dict := none, data := .seq its.toArray c', slots := #[] } → EP X pins σ Q (.ref s.heap.objs.size) { s with heap := h' } := fun its r' hz h' c' kp e =>
    ⟨.ref s.heap.objs.size, _, I.laid (t' := s.toks) kp (Nat.le_refl _) (show ObjOk X.prog X.w _ h' _ (.lst ys) from ⟨hz, its, c', r', e⟩), rfl, q _ (I.hok.fresh (Nat.le_refl _))⟩
  rcases hq with hq | hq
  · obtain ⟨its, r', pl, hz⟩ := I.list hq
    have hlen := r'.length
    obtain ⟨o, ho, hc, n, hd⟩ := pl.isList
    exact call_list_seq p (.inl rfl) ho hc hd (fun h' c' kp e => fin its r' hz h' c' kp e) (by simp only [List.size_toArray] <;> omega)
  · obtain ⟨its, r', pl, hz⟩ := I.tuple hq
    have hlen := r'.length
    obtain ⟨o, ho, hc, n, hd⟩ := pl
    exact call_list_seq p (.inr rfl) ho hc hd (fun h' c' kp e => fin its r' hz h' c' kp e) (by simp only [List.size_toArray] <;> omega)
theorem call_tuple_of : CallR X (.type "tuple") (fun xs H Q => ∃ p ys, xs = [.ref p] ∧ ((SqL X.K H p ys ∧ ∀ l, H l = none → Q (.ref l) (upd H l (.tup ys))) ∨ (SqT X.K H p ys ∧ Q (.ref p) H))) := by
  intro pins s σ H xs us Q I r h
  obtain ⟨p, ys, rfl, h⟩ := h
  obtain ⟨u, rfl, rx⟩ := vals1 r
  cases rx
  rcases h with ⟨hq, q⟩ | ⟨hq, q⟩
  · obtain ⟨its, r', pl, hz⟩ := I.list hq
    have hlen := r'.length
    refine call_tuple_list pl.isList (fun h' kp => ?_) (by simp only [List.size_toArray] <;> omega)
    have I1 : Inv X pins σ H { s with heap := h' } := I.kept (t' := s.toks) kp
    have I2 : Inv X pins σ (upd H h'.objs.size (.tup ys)) { s with heap := h'.push { cls := .type "tuple", data := .seq its.toArray } } :=
      I1.laid (t' := s.toks) (fun b o e => Heap.get?_push_of_some _ e) (Nat.le_refl _) (show ObjOk X.prog X.w _ _ _ (.tup ys) from ⟨hz, its, r', IsTup.new _ _⟩)
    exact ⟨.ref h'.objs.size, _, I2, rfl, q _ (I1.hok.fresh (Nat.le_refl _))⟩
  · obtain ⟨its, r', pl, hz⟩ := I.tuple hq
    exact call_tuple_same pl ⟨.ref p, H, I, rfl, q⟩

/-! ### the call of a builtin's method: o.m(..) -/
/-- the value is of that builtin type -/
def tyV (K : PySem.W.Frag) (T : String) (x : V) (H : Hp) : Prop := match x with
  | .str _ => T = "str"
  | .int _ => T = "int"
  | .ref p => (T = "list" ∧ ∃ xs, SqL K H p xs) ∨ (T = "tuple" ∧ ∃ o, K.lookup p = some o ∧ o.cls = .type "tuple" ∧ o.dict = none) ∨
      (T = "dict" ∧ ((∃ kvs, H p = some (.dK kvs)) ∨ ∃ kvs, H p = some (.dT kvs))) ∨ (T = "set" ∧ ∃ S n, H p = some (.set S n))
  | _ => False
theorem tyV_is {pins : List (Addr × Obj)} {σ : St} {H : Hp} {s : Shared} {T : String} {x : V} {v : Value} (I : Inv X pins σ H s) (r : RelV x v) (ty : tyV X.K T x H) :
    s.TypeIs v T ∧ ∀ a, v = .ref a → ∃ ob, s.heap.get? a = some ob ∧ ob.dict = none := by
  cases x with
  | str z =>
    obtain ⟨t, rfl⟩ := r
    cases (show T = "str" from ty)
    exact ⟨typeIs_str s z t, fun _ e => nomatch e⟩
  | int i =>
    obtain ⟨t, rfl⟩ := r
    cases (show T = "int" from ty)
    exact ⟨typeIs_int s i t, fun _ e => nomatch e⟩
  | ref p =>
    cases r
    rcases ty with ⟨rfl, xs, hq⟩ | ⟨rfl, o, hk, hc, hd⟩ | ⟨rfl, hk⟩ | ⟨rfl, S, n, hk⟩
    · obtain ⟨its, _, pl, _⟩ := I.list hq
      refine ⟨pl.isList.typeIs, fun a e => ?_⟩
      cases e
      obtain ⟨o, n, e, c, hd, _⟩ := pl
      exact ⟨o, e, hd⟩
    · refine ⟨⟨o, I.kIn p o hk, hc⟩, fun a e => ?_⟩
      cases e
      exact ⟨o, I.kIn _ o hk, hd⟩
    · have z : ∃ o, s.heap.get? p = some o ∧ o.ExactDict := by
        rcases hk with ⟨kvs, hk⟩ | ⟨kvs, hk⟩
        · obtain ⟨_, _, _, _, o, _, _, e, ex, _⟩ := I.hok p _ hk
          exact ⟨o, e, ex⟩
        · obtain ⟨_, _, _, _, o, _, _, e, ex, _⟩ := I.hok p _ hk
          exact ⟨o, e, ex⟩
      obtain ⟨o, e, ex⟩ := z
      refine ⟨⟨o, e, ex.1⟩, fun a e2 => ?_⟩
      cases e2
      exact ⟨o, e, ex.2.1⟩
    · obtain ⟨o, _, _, _, e, ex, _⟩ := I.hok p _ hk
      refine ⟨⟨o, e, ex.1⟩, fun a e2 => ?_⟩
      cases e2
      exact ⟨o, e, ex.2.1⟩
  | _ => exact False.elim ty
def tBM0 (K : PySem.W.Frag) (T : String) (r : V → List V → Hp → VK → Prop) (to : TE) : TE := fun σ H Q => to σ H fun x H1 => tyV K T x H1 ∧ r x [] H1 Q
def tBM (K : PySem.W.Frag) (T : String) (r : V → List V → Hp → VK → Prop) (to : TE) (t : TA) : TE := fun σ H Q => to σ H fun x H1 => tyV K T x H1 ∧ t σ H1 fun xs H2 => r x xs H2 Q
variable {o e : Expr} {es : List Expr} {to : TE} {t : TA} {name : Str} {apos cpos : Pos} {T id : String} {r : V → List V → Hp → VK → Prop}
theorem pe_bm0 (pa : PlainAttrs T) (slot : Slot T name id) (hty : typeOf (.builtin id) = pure (.type "method_descriptor")) (hm : MtR X id r) (ho : PE X o to)
    (hbase : attributeBase o name X.env (eval o X.env) = eval o X.env := by rfl) (hline : (apos.endLine == cpos.line) = true := by rfl) : PE X (.Call (.Attribute o name apos) [] [] cpos) (tBM0 X.K T r to) := by
  intro pins s σ H Q I h
  refine wpAny_Call_method0_late hbase hline (thn (ho pins s σ H _ I h) fun v s1 ⟨x, H1, I1, r1, ty, q1⟩ => ?_)
  obtain ⟨h1, h2⟩ := tyV_is I1 r1 ty
  exact ⟨T, id, pa, slot, hty, h1, h2, Calls.callWith_builtin rfl (PySem.evalArgs_none (hm pins s1 σ H1 x [] v [] Q I1 r1 .nil q1))⟩
theorem pe_bm (pa : PlainAttrs T) (slot : Slot T name id) (hty : typeOf (.builtin id) = pure (.type "method_descriptor")) (hm : MtR X id r) (ho : PE X o to) (ha : PA X (e :: es) t)
    (hbase : attributeBase o name X.env (eval o X.env) = eval o X.env := by rfl)
    (hfew : ((backTo cpos (starEach (e :: es) X.env)).all (fun x => !x.1) && (backToKw cpos (keywordEach [] X.env)).all (fun x => x.1.isSome)
      && decide ((e :: es).length + ([] : List Keyword).length + (if ([] : List Keyword).isEmpty then 0 else 1) < 30)) = true := by rfl)
    (hline : (apos.endLine == cpos.line) = true := by rfl) (hs : starEach (e :: es) X.env = (false, eval e X.env) :: starEach es X.env := by rfl) (hplain : (backTo cpos (starEach es X.env)).any (·.1) = false := by rfl) :
    PE X (.Call (.Attribute o name apos) (e :: es) [] cpos) (tBM X.K T r to t) := by
  intro pins s σ H Q I h
  refine wpAny_Call_method_late hbase hfew hline rfl (thn (ho pins s σ H _ I h) fun v s1 ⟨x, H1, I1, r1, ty, q1⟩ => ?_)
  obtain ⟨h1, h2⟩ := tyV_is I1 r1 ty
  refine ⟨T, id, pa, slot, hty, h1, h2, ?_⟩
  have hA := ha cpos pins s1 σ H1 _ I1 q1
  rw [hs] at hA ⊢
  refine Calls.callWith_builtin (by show (false || (backTo cpos (starEach es X.env)).any (·.1)) = false; rw [hplain] <;> rfl) (Calls.evalArgs_plain ?_)
  exact thn hA fun us s2 ⟨vs, H2, I2, r2, q2⟩ => hm pins s2 σ H2 x vs v us Q I2 r1 r2 q2
/- xs.append(e), list.index on a module's tuple .. are MtR facts of 06m -/
end
end L2

namespace L2
open PySem PySem.Spec PyProof.Rows

def MtM (X : Cx) (id : String) (r : V → List V → Hp → VK → Prop) : Prop :=
  ∀ (pins : List (Addr × Obj)) (s : Shared) (σ : St) (H : Hp) (x : V) (xs : List V) (v : Value) (us : List Value) (Q : VK), Inv X pins σ H s → RelV x v → Vals xs us → r x xs H Q →
    wpAny (model X.prog X.w) X.A (call (.builtin id) (v :: us)) (EP X pins σ Q) X.xe s

/-! ### lists of values -/
theorem Vals.one : ∀ {x : V} {us : List Value}, Vals [x] us → ∃ u, us = [u] ∧ RelV x u
  | _, _, .cons r .nil => ⟨_, rfl, r⟩
theorem Vals.two : ∀ {x y : V} {us : List Value}, Vals [x, y] us → ∃ u v, us = [u, v] ∧ RelV x u ∧ RelV y v
  | _, _, _, .cons r (.cons q .nil) => ⟨_, _, rfl, r, q⟩
theorem Vals.zero : ∀ {us : List Value}, Vals [] us → us = []
  | _, .nil => rfl
theorem Vals.dropLast {xs : List V} {us : List Value} (h : Vals xs us) : Vals xs.dropLast us.dropLast := by
  induction h with
  | nil => exact .nil
  | cons r t ih =>
    cases t with
    | nil => exact .nil
    | cons q t' => exact .cons r ih
theorem Vals.eraseIdx : ∀ {xs : List V} {us : List Value} (i : Nat), Vals xs us → Vals (xs.eraseIdx i) (us.eraseIdx i)
  | _, _, _, .nil => .nil
  | _, _, 0, .cons _ t => t
  | _, _, i + 1, .cons r t => .cons r (Vals.eraseIdx i t)
theorem Vals.reverse {xs : List V} {us : List Value} (h : Vals xs us) : Vals xs.reverse us.reverse := by
  induction h with
  | nil => exact .nil
  | cons r t ih => rw [List.reverse_cons, List.reverse_cons]; exact Vals.append ih (.cons r .nil)
theorem Vals.rep {xs : List V} {us : List Value} (h : Vals xs us) : ∀ k : Nat, Vals (List.replicate k xs).flatten (List.replicate k us).flatten
  | 0 => .nil
  | k + 1 => by
    rw [List.replicate_succ, List.replicate_succ, List.flatten_cons, List.flatten_cons]
    exact Vals.append h (Vals.rep h k)
theorem erase_last {α : Type} (l : List α) : l.eraseIdx (l.length - 1) = l.dropLast := by
  induction l with
  | nil => rfl
  | cons a r ih =>
    cases r with
    | nil => rfl
    | cons b r =>
      have e : (a :: b :: r).length - 1 = ((b :: r).length - 1) + 1 := by
        have h1 : (a :: b :: r).length = r.length + 2 := rfl
        have h2 : (b :: r).length = r.length + 1 := rfl
        omega
      rw [e, List.eraseIdx_cons_succ, ih]
      all_goals rfl
theorem len_erase {α : Type} : ∀ (l : List α) (i : Nat), (l.eraseIdx i).length ≤ l.length
  | [], _ => Nat.le_refl _
  | _ :: _, 0 => Nat.le_succ _
  | _ :: r, i + 1 => Nat.succ_le_succ (len_erase r i)
theorem foldl_rep (its : List Value) : ∀ (k : Nat) (acc : List Value),
    List.foldl (fun x1 x2 => x1 ++ x2) acc.toArray (List.replicate k its.toArray) = (acc ++ (List.replicate k its).flatten).toArray
  | 0, acc => by simp
  | k + 1, acc => by
    have e : acc.toArray ++ its.toArray = (acc ++ its).toArray := by simp
    have e2 : (acc ++ its) ++ (List.replicate k its).flatten = acc ++ (List.replicate (k + 1) its).flatten := by
      rw [List.replicate_succ, List.flatten_cons, List.append_assoc]
    rw [← e2, ← foldl_rep its k (acc ++ its), ← e, List.replicate_succ, List.foldl_cons]

section
variable {X : Cx} {pins : List (Addr × Obj)} {σ : St} {H : Hp} {s : Shared} {l b : Addr} {xs ys zs : List V}

/-! ### the two steps: a tracked list is rewritten, a new list is laid -/
theorem Inv.lset {its its' : List Value} {n : Nat} {f : Array Value → Array Value} {t' : Nat} (I : Inv X pins σ H s) (hH : H l = some (.lst xs))
    (e : s.heap.get? l = some { cls := .type "list", data := .seq its.toArray n }) (hf : f its.toArray = its'.toArray) (hv : Vals ys its') (hz : ys.length ≤ sizeLine) :
    Inv X pins σ (upd H l (.lst ys)) { s with heap := s.heap.update l (Obj.mapSeq f), toks := t' } := by
  have q := PySem.IsL.update e f
  rw [hf] at q
  refine I.write (x := l) (e := l) (by rw [hH]; exact trivial) (.inl rfl) (fun b' u hb hu => (Heap.get?_update_other s.heap (Obj.mapSeq f) (Ne.symm hb)).trans hu) ⟨_, q⟩ ?_
  exact ⟨hz, its', _, hv, q⟩
theorem Inv.lnew {its : List Value} {t' : Nat} (I : Inv X pins σ H s) (hv : Vals ys its) (hz : ys.length ≤ sizeLine) :
    Inv X pins σ (upd H s.heap.objs.size (.lst ys)) { s with heap := s.heap.push { cls := .type "list", data := .seq its.toArray }, toks := t' } :=
  I.laid (fun _ _ q => Heap.get?_push_of_some _ q) (Nat.le_refl _) ⟨hz, its, 0, hv, Heap.get?_push_size _ rfl⟩
theorem Inv.fresh (I : Inv X pins σ H s) : H s.heap.objs.size = none := I.hok.fresh (Nat.le_refl _)
theorem Inv.lstM (I : Inv X pins σ H s) (hH : H l = some (.lst xs)) : xs.length ≤ sizeLine ∧ ∃ (its : List Value) (n : Nat), Vals xs its ∧ xs.length = its.length ∧ s.heap.get? l = some { cls := .type "list", data := .seq its.toArray n } := by
  obtain ⟨z, its, n, r, e⟩ := I.hok l _ hH
  exact ⟨z, its, n, r, r.length, e⟩

theorem notLongL {n : Nat} (h : n ≤ sizeLine) : Builtin.List.listTooLong n = false := by
  unfold Builtin.List.listTooLong
  exact decide_eq_false (by omega)
end

section
variable {X : Cx}

/-! ### methods -/
def rAppend : V → List V → Hp → VK → Prop := fun x vs H Q => ∃ l xs y, x = .ref l ∧ vs = [y] ∧ H l = some (.lst xs) ∧ xs.length < sizeLine ∧ Q .non (upd H l (.lst (xs ++ [y])))
theorem mt_append : MtM X "list.append" rAppend := by
  intro pins s σ H x vs v us Q I rx rv h
  obtain ⟨l, xs, y, rfl, rfl, hH, hz, q⟩ := h
  cases rx
  obtain ⟨u, rfl, ru⟩ := rv.one
  obtain ⟨z, its, n, r, hl, e⟩ := I.lstM hH
  refine call_meets F.slot_list_append ⟨_, e, rfl⟩ F.entry_list_append (F.args_list_append_2 _ _) (PySem.list_append l its.toArray n u (by rw [List.size_toArray]; omega)) ⟨e, ?_⟩
  refine ⟨.non, _, I.lset (its' := its ++ [u]) hH e (by simp) (r.append (.cons ru .nil)) ?_, rfl, q⟩
  rw [List.length_append, List.length_singleton]
  omega

def rExtend : V → List V → Hp → VK → Prop := fun x vs H Q => ∃ l b xs zs, x = .ref l ∧ vs = [.ref b] ∧ H l = some (.lst xs) ∧ H b = some (.lst zs) ∧ xs.length + zs.length ≤ sizeLine ∧ Q .non (upd H l (.lst (xs ++ zs)))
theorem mt_extend : MtM X "list.extend" rExtend := by
  intro pins s σ H x vs v us Q I rx rv h
  obtain ⟨l, b, xs, zs, rfl, rfl, hH, hB, hz, q⟩ := h
  cases rx
  obtain ⟨u, rfl, ru⟩ := rv.one
  cases ru
  obtain ⟨z, its, n, r, hl, e⟩ := I.lstM hH
  obtain ⟨z2, its2, n2, r2, hl2, e2⟩ := I.lstM hB
  have hsz : its.toArray.size + its2.toArray.size ≤ sizeLine := by rw [List.size_toArray, List.size_toArray]; omega
  have hlong : ¬ (!its.toArray.isEmpty && Builtin.List.listTooLong (its.toArray.size + its2.toArray.size)) = true := by
    rw [notLongL hsz, Bool.and_false]
    exact Bool.false_ne_true
  refine call_meets F.slot_list_extend ⟨_, e, rfl⟩ F.entry_list_extend (F.args_list_extend_2 _ _)
    (AutoSeq1.list_extend_list_list_0 l its.toArray n b its2.toArray n2 hlong (by rw [List.size_toArray]; omega) (by omega)) ⟨e, e2, ?_⟩
  refine ⟨.non, _, I.lset (its' := its ++ its2) hH e (by simp) (r.append r2) ?_, rfl, q⟩
  rw [List.length_append]
  omega

def rPop : V → List V → Hp → VK → Prop := fun x vs H Q => ∃ l xs y, x = .ref l ∧ vs = [] ∧ H l = some (.lst xs) ∧ xs[xs.length - 1]? = some y ∧ Q y (upd H l (.lst xs.dropLast))
theorem mt_pop : MtM X "list.pop" rPop := by
  intro pins s σ H x vs v us Q I rx rv h
  obtain ⟨l, xs, y, rfl, rfl, hH, hy, q⟩ := h
  cases rx
  have hus := rv.zero
  subst hus
  obtain ⟨z, its, n, r, hl, e⟩ := I.lstM hH
  obtain ⟨u, hu, ru⟩ := r.get hy
  have hy' : its.toArray[its.toArray.size - 1]? = some u := by
    show its.toArray[its.length - 1]? = some u
    rw [← Array.getElem?_toList, ← hl]
    exact hu
  refine call_meets F.slot_list_pop ⟨_, e, rfl⟩ F.entry_list_pop (F.args_list_pop_1 _) (MeetsSeq.list_pop_last l its.toArray n u hy' (by rw [List.size_toArray]; omega)) ⟨e, ?_⟩
  refine ⟨y, _, I.lset (its' := its.dropLast) hH e ?_ r.dropLast ?_, ru, q⟩
  · show its.toArray.eraseIdxIfInBounds (its.toArray.size - 1) = its.dropLast.toArray
    rw [List.size_toArray, List.eraseIdxIfInBounds_toArray, erase_last]
  · rw [List.length_dropLast]
    omega

def rPopAt : V → List V → Hp → VK → Prop := fun x vs H Q => ∃ l xs i k y, x = .ref l ∧ vs = [.int i] ∧ H l = some (.lst xs) ∧ -(2 ^ 63) ≤ i ∧ i < 2 ^ 63 ∧ seqIndex? i xs.length = some k ∧ xs[k]? = some y ∧ Q y (upd H l (.lst (xs.eraseIdx k)))
theorem mt_popAt : MtM X "list.pop" rPopAt := by
  intro pins s σ H x vs v us Q I rx rv h
  obtain ⟨l, xs, i, k, y, rfl, rfl, hH, h1, h2, hk, hy, q⟩ := h
  cases rx
  obtain ⟨u, rfl, ru⟩ := rv.one
  obtain ⟨t, rfl⟩ := ru
  obtain ⟨z, its, n, r, hl, e⟩ := I.lstM hH
  obtain ⟨w, hw, rw'⟩ := r.get hy
  refine call_meets F.slot_list_pop ⟨_, e, rfl⟩ F.entry_list_pop (F.args_list_pop_2 _ _)
    (MeetsSeq.list_pop_at l its.toArray n i t k w (fitsIndex_both h1 h2) (by rw [List.size_toArray, ← hl]; exact hk) (by rw [← Array.getElem?_toList]; exact hw) (by rw [List.size_toArray]; omega)) ⟨e, ?_⟩
  refine ⟨y, _, I.lset (its' := its.eraseIdx k) hH e ?_ (r.eraseIdx k) ?_, rw', q⟩
  · show its.toArray.eraseIdxIfInBounds k = (its.eraseIdx k).toArray
    rw [List.eraseIdxIfInBounds_toArray]
  · have := len_erase xs k
    omega

def rReverse : V → List V → Hp → VK → Prop := fun x vs H Q => ∃ l xs, x = .ref l ∧ vs = [] ∧ H l = some (.lst xs) ∧ Q .non (upd H l (.lst xs.reverse))
theorem mt_reverse : MtM X "list.reverse" rReverse := by
  intro pins s σ H x vs v us Q I rx rv h
  obtain ⟨l, xs, rfl, rfl, hH, q⟩ := h
  cases rx
  have hus := rv.zero
  subst hus
  obtain ⟨z, its, n, r, hl, e⟩ := I.lstM hH
  refine call_meets F.slot_list_reverse ⟨_, e, rfl⟩ F.entry_list_reverse (F.args_list_reverse_1 _) (AutoSeq1.list_reverse_list_0 l its.toArray n (by rw [List.size_toArray]; omega)) ⟨e, ?_⟩
  refine ⟨.non, _, I.lset (its' := its.reverse) hH e (by simp) r.reverse ?_, rfl, q⟩
  rw [List.length_reverse]
  omega

def rClear : V → List V → Hp → VK → Prop := fun x vs H Q => ∃ l xs, x = .ref l ∧ vs = [] ∧ H l = some (.lst xs) ∧ Q .non (upd H l (.lst []))
theorem mt_clear : MtM X "list.clear" rClear := by
  intro pins s σ H x vs v us Q I rx rv h
  obtain ⟨l, xs, rfl, rfl, hH, q⟩ := h
  cases rx
  have hus := rv.zero
  subst hus
  obtain ⟨z, its, n, r, hl, e⟩ := I.lstM hH
  refine call_meets F.slot_list_clear ⟨_, e, rfl⟩ F.entry_list_clear (F.args_list_clear_1 _) (AutoSeq1.list_clear_list_0 l its.toArray n (by rw [List.size_toArray]; omega)) ⟨e, ?_⟩
  exact ⟨.non, _, I.lset (its' := []) (ys := []) hH e rfl .nil (Nat.zero_le _), rfl, q⟩

/-! ### list + list, list += list, list * int -/
def rCat : R2 := fun x y H Q => ∃ l b xs zs, x = .ref l ∧ y = .ref b ∧ H l = some (.lst xs) ∧ H b = some (.lst zs) ∧ xs.length + zs.length ≤ sizeLine ∧ ∀ p, H p = none → Q (.ref p) (upd H p (.lst (xs ++ zs)))
theorem op_cat : OpR X (binaryOp .Add) rCat := by
  intro pins s σ H x y v u Q I rx ry h
  obtain ⟨l, b, xs, zs, rfl, rfl, hH, hB, hz, q⟩ := h
  cases rx
  cases ry
  obtain ⟨z, its, n, r, hl, e⟩ := I.lstM hH
  obtain ⟨z2, its2, n2, r2, hl2, e2⟩ := I.lstM hB
  refine PySem.P.add_list e e2 ?_ (by rw [List.size_toArray, List.size_toArray]; omega)
  have ea : its.toArray ++ its2.toArray = (its ++ its2).toArray := by simp
  rw [ea]
  exact ⟨.ref _, _, I.lnew (t' := s.toks) (r.append r2) (by rw [List.length_append]; omega), rfl, q _ I.fresh⟩
/-- a list times an int (a negative one is nothing) -/
def rRep : R2 := fun x y H Q => ∃ l k xs, x = .ref l ∧ y = .int k ∧ H l = some (.lst xs) ∧ -(2 ^ 63) ≤ k ∧ k < 2 ^ 63 ∧ xs.length * k.toNat ≤ sizeLine ∧
  ∀ p, H p = none → Q (.ref p) (upd H p (.lst (List.replicate k.toNat xs).flatten))
theorem len_rep {α : Type} (xs : List α) (k : Nat) : (List.replicate k xs).flatten.length = k * xs.length := by
  induction k with
  | zero => simp
  | succ k ih => rw [List.replicate_succ, List.flatten_cons, List.length_append, ih, Nat.succ_mul, Nat.add_comm]
theorem op_rep : OpR X (binaryOp .Mult) rRep := by
  intro pins s σ H x y v u Q I rx ry h
  obtain ⟨l, k, xs, rfl, rfl, hH, h1, h2, hz, q⟩ := h
  cases rx
  obtain ⟨t, rfl⟩ := ry
  obtain ⟨z, its, n, r, hl, e⟩ := I.lstM hH
  have hlen : its.toArray.size * k.toNat ≤ sizeLine := by rw [List.size_toArray, ← hl]; exact hz
  have hcap : ¬ its.toArray.size * k.toNat > (2 ^ 63 - 1) / 8 := by
    have : (sizeLine : Nat) ≤ (2 ^ 63 - 1) / 8 := by decide
    omega
  have hfit : ¬ (!Builtin.List.listFitsIndex k) = true := by
    rw [fitsIndex_both h1 h2]
    exact Bool.false_ne_true
  have hlong : ¬ Builtin.List.listTooLong (its.toArray.size * k.toNat) = true := by
    rw [notLongL hlen]
    exact Bool.false_ne_true
  have hnew : List.foldl (fun x1 x2 => x1 ++ x2) #[] (List.replicate (if its.toArray.isEmpty = true then 0 else k.toNat) its.toArray) = (List.replicate k.toNat its).flatten.toArray := by
    have f0 : ∀ m : Nat, List.foldl (fun x1 x2 => x1 ++ x2) #[] (List.replicate m its.toArray) = (List.replicate m its).flatten.toArray := fun m => by
      have := foldl_rep its m []
      rw [List.nil_append] at this
      exact this
    rw [f0]
    cases its with
    | nil => simp
    | cons a r' => rw [if_neg (by simp)]
  refine wpAny_binaryOp_repeat_ref (T := "list") (U := "int") (by decide) ⟨_, e, rfl⟩ (fun s' => typeIs_int s' k t) noFill_list_mul F.fills_int_mul F.slot_int_rmul repeat_list F.slot_int_index.lookup
    (call_meets F.slot_int_rmul (typeIs_int s k t) F.entry_int_rmul (F.args_int_rmul_2 _ _) (int___rmul___int_list k t l its.toArray n)
      ⟨e, rfl, ⟨_, e, rfl⟩, call_meets F.slot_list_mul ⟨_, e, rfl⟩ F.entry_list_mul (F.args_list_mul_2 _ _) (AutoListH.list___mul___list_int_3 l its.toArray n k t hfit hcap hlong) ⟨e, ?_⟩⟩)
  rw [hnew]
  exact ⟨.ref _, _, I.lnew (t' := s.toks) (r.rep k.toNat) (by rw [len_rep, Nat.mul_comm]; exact hz), rfl, q _ I.fresh⟩

/-! ### del xs[i] -/
theorem del_list {pins : List (Addr × Obj)} {s : Shared} {σ : St} {H : Hp} {l : Addr} {xs : List V} {i : Int} {t : Tok} {k : Nat} {Q : Unit → Shared → Prop} (I : Inv X pins σ H s) (hH : H l = some (.lst xs))
    (h1 : -(2 ^ 63) ≤ i) (h2 : i < 2 ^ 63) (hk : seqIndex? i xs.length = some k) (h : ∀ s', Inv X pins σ (upd H l (.lst (xs.eraseIdx k))) s' → Q () s') :
    wpAny (model X.prog X.w) X.A (delItem (.ref l) (.int i t)) Q X.xe s := by
  obtain ⟨z, its, n, r, hl, e⟩ := I.lstM hH
  refine PySem.P.delItem_list (k := k) e (fitsIndex_both h1 h2) (by rw [List.size_toArray, ← hl]; exact hk) (h _ ?_) (by rw [List.size_toArray]; omega)
  refine I.lset (its' := its.eraseIdx k) (t' := s.toks) hH e ?_ (r.eraseIdx k) ?_
  · show its.toArray.eraseIdxIfInBounds k = (its.eraseIdx k).toArray
    rw [List.eraseIdxIfInBounds_toArray]
  · have := len_erase xs k
    omega
end

/-! ### xs[a:b] = ys -/
section
variable {prog : Program} {w : World} {A : Around} {E : Value → Shared → Prop} {s : Shared}
theorem splice_eq (its its2 : List Value) (a c : Nat) : its.toArray.extract 0 a ++ its2.toArray ++ its.toArray.extract c its.toArray.size = (its.take a ++ its2 ++ its.drop c).toArray := by
  apply Array.toList_inj.mp
  first
    | (simp
       exact List.take_of_length_le (by simp))
    | simp [List.take_of_length_le]
    | simp
theorem bounds_run {a c n : Nat} (hac : a ≤ c) (hc : c ≤ n) : sliceBounds (some (a : Int)) (some (c : Int)) none n = ((a : Int), (c : Int), 1) := by
  simp only [sliceBounds, Option.getD_none]
  have h1 : ¬ ((a : Int) < 0) := by omega
  have h2 : ¬ ((c : Int) < 0) := by omega
  simp only [h1, h2, if_false, show (1 : Int) > 0 by decide, if_true]
  congr 1
  · omega
  · congr 1; omega
set_option maxRecDepth 100000 in
/-- list.__setitem__ with a slice of step one and another list -/
theorem setItem_slice {l b sl : Addr} {items new : Array Value} {n n2 : Nat} {vl vu : Value} {a c : Nat} {Q : Unit → Shared → Prop}
    (e : s.heap.get? l = some { cls := .type "list", data := .seq items n }) (e2 : s.heap.get? b = some { cls := .type "list", data := .seq new n2 }) (hne : l ≠ b)
    (hs : s.heap.IsSliceOf sl vl vu .none) (pl : IsPart vl (some (a : Int))) (pu : IsPart vu (some (c : Int))) (hac : a ≤ c) (hc : c ≤ items.size)
    (hsz : items.size + new.size ≤ sizeLine) (h : Q () { s with heap := s.heap.update l (Obj.mapSeq fun xs => xs.extract 0 a ++ new ++ xs.extract c xs.size) }) :
    wpAny (model prog w) A (setItem (.ref l) (.ref sl) (.ref b)) Q E s := by
  have hl : s.heap.IsList l items := PySem.IsL.isList e
  have hb : s.heap.IsList b new := PySem.IsL.isList e2
  obtain ⟨os, hos, hcs, hds⟩ := id hs
  have hTs : s.TypeIs (.ref sl) "slice" := ⟨os, hos, hcs⟩
  have hstep : ¬ ((rawPart none == rawInt 0) = true) := Bool.false_ne_true
  have hsame : Builtin.List.listSameRef (.ref l) (.ref b) = false := by
    unfold Builtin.List.listSameRef
    exact beq_eq_false_iff_ne.mpr hne
  have hmax : (max (a : Int) (c : Int)).toNat = c := by omega
  have hz' : ((fun xs : Array Value => xs.extract 0 a ++ new ++ xs.extract c xs.size) items).size ≤ sizeLine + 1 := by
    simp only [Array.size_append, Array.size_extract]
    omega
  unfold setItem
  try with_reducible refine wpAny_holding ?_
  first | refine wpAny_bind (wpAny_pure ?_) | skip
  refine wpAny_bind (wpAny_sequenceKey hl.typeIs (by decide) ?_)
  refine wpAny_bind (wpAny_callSpecial?_slot (name := Str.ofString "__setitem__") hl.typeIs slot_list_setitem
    (wpAny_call_entry slot_list_setitem hl.typeIs entry_list_setitem ?_ (args_list_setitem _ _ _)))
  show wpAny _ _ (Builtin.List.listSubscript? (.ref sl) >>= _) _ _ s
  refine wpAny_bind ?_
  unfold Builtin.List.listSubscript?
  refine wpAny_bind (wpAny_specialOf hTs slice_no_index ?_)
  simp only [Option.isNone_none, if_true]
  refine wpAny_pure ?_
  show wpAny _ _ (typeOf (.ref sl) >>= _) _ _ s
  refine wpAny_bind (wpAny_typeOf hTs ?_)
  first
    | rw [if_neg (by decide)]
    | refine PySem.W.KFB.if_not (by decide) ?_
  rw [listSliceParts_eq]
  refine wpAny_bind (wpAny_bind (wpAny_field hos hds (x := .none) rfl (wpAny_bind (wpAny_listPart .none ?_))))
  rw [if_neg hstep]
  refine wpAny_bind (wpAny_field hos hds (x := vl) rfl (wpAny_bind (wpAny_listPart pl ?_)))
  refine wpAny_bind (wpAny_field hos hds (x := vu) rfl (wpAny_bind (wpAny_listPart pu (wpAny_pure ?_))))
  first
    | simp only [hsame, Bool.false_eq_true, if_false]
    | refine PySem.W.KFB.if_not hsame ?_
    | (dsimp only
       rw [if_neg (by rw [hsame]; exact Bool.false_ne_true)])
  refine wpAny_bind (m := Builtin.List.listAllItems (.ref b) "must assign iterable to extended slice") ?_
  unfold Builtin.List.listAllItems
  refine wpAny_bind (wpAny_typeOf hb.typeIs ?_)
  first
    | refine PySem.W.KFB.if_so (by decide) ?_
    | rw [if_pos (by decide)]
    | simp only [beq_self_eq_true, Bool.true_or, if_true]
  unfold Builtin.List.listItems
  refine wpAny_bind (wpAny_seqItems e2 rfl (wpAny_pure ?_))
  refine wpAny_bind (wpAny_bind (wpAny_seqItems e rfl (wpAny_pure ?_)))
  refine wpAny_bind (wpAny_of_eq ((sliceIndices_raw (some (a : Int)) (some (c : Int)) none items.size (by simp)).trans (congrArg (pure : Int × Int × Int → Sem (Int × Int × Int)) (bounds_run hac hc))) ?_)
  show wpAny _ _ (if ((1 : Int) == 1) = true then _ else _) _ _ s
  rw [if_pos (by decide)]
  refine wpAny_bind (wpAny_rule ?_)
  first
    | simp only [notLongL hsz, Bool.false_eq_true, if_false]
    | refine PySem.W.KFB.if_not (notLongL hsz) ?_
  first | refine wpAny_bind (wpAny_pure ?_) | skip
  show wpAny _ _ (updateSeq l (fun xs => xs.extract 0 ((a : Int)).toNat ++ new ++ xs.extract (max (a : Int) (c : Int)).toNat xs.size) >>= _) _ _ s
  rw [hmax, Int.toNat_natCast]
  refine wpAny_bind (wpAny_updateSeq (hz := Nat.le_trans (Nat.le_add_right _ _) hsz) (_hz' := hz') e rfl ?_)
  refine wpAny_bind (wpAny_letGo ?_)
  first
    | exact wpAny_bind (wpAny_pure (wpAny_pure ⟨.none, rfl, wpAny_pure h⟩))
    | exact wpAny_pure ⟨.none, rfl, wpAny_pure h⟩
end

section
variable {X : Cx}
/-- xs[a:c] = ys of another list, at the value level: sl is the slice object that was just made -/
theorem set_slice {pins : List (Addr × Obj)} {s : Shared} {σ : St} {H : Hp} {l b sl : Addr} {xs ys : List V} {a c : Int} {vl vu : Value} {Q : Unit → Shared → Prop} (I : Inv X pins σ H s)
    (hH : H l = some (.lst xs)) (hB : H b = some (.lst ys)) (hne : l ≠ b) (hs : s.heap.IsSliceOf sl vl vu .none) (ra : RelV (.int a) vl) (rc : RelV (.int c) vu) (h0 : 0 ≤ a) (hac : a ≤ c) (hc : c ≤ xs.length)
    (hz : xs.length + ys.length ≤ sizeLine) (h : ∀ s', Inv X pins σ (upd H l (.lst (xs.take a.toNat ++ ys ++ xs.drop c.toNat))) s' → Q () s') :
    wpAny (model X.prog X.w) X.A (setItem (.ref l) (.ref sl) (.ref b)) Q X.xe s := by
  obtain ⟨ta, rfl⟩ := ra
  obtain ⟨tc, rfl⟩ := rc
  obtain ⟨z, its, n, r, hl, e⟩ := I.lstM hH
  obtain ⟨z2, its2, n2, r2, hl2, e2⟩ := I.lstM hB
  obtain ⟨a', rfl⟩ := Int.eq_ofNat_of_zero_le h0
  obtain ⟨c', rfl⟩ := Int.eq_ofNat_of_zero_le (Int.le_trans h0 hac)
  simp only [Int.toNat_natCast] at h
  refine setItem_slice (a := a') (c := c') e e2 hne hs (.int _ _) (.int _ _) (by omega) (by rw [List.size_toArray]; omega) (by rw [List.size_toArray, List.size_toArray]; omega) (h _ ?_)
  refine I.lset (its' := its.take a' ++ its2 ++ its.drop c') (t' := s.toks) hH e ?_ (Vals.append (Vals.append (r.take _) r2) (r.drop _)) ?_
  · exact splice_eq its its2 a' c'
  · rw [List.length_append, List.length_append, List.length_take, List.length_drop]
    omega
end
end L2

namespace Att
open PySem PySem.W PySem.Calls PyProof.Rows

/-! ### the script -/
theorem ints_of_wellAll {P : Params} {h : Heap} : ∀ (ns : List Int) (vs : List Value), WellAll P h vs (ns.map WData.int) → IntsAre vs ns := by
  intro ns
  induction ns with
  | nil =>
    intro vs w
    rw [List.map_nil] at w
    cases w
    exact .nil
  | cons n ns ih =>
    intro vs w
    rw [List.map_cons] at w
    cases w with
    | cons a b =>
      cases a
      exact .cons _ _ (ih _ b)

theorem script_of {l : OpenLaw} {n : Nat} (hn : l.most = some n) {P : Params} {h : Heap} {args : List WData} {vals : List Value}
    (hpre : l.row.toRowW.claim.pre args = true) (hwl : WellAll P h vals args) :
    ∃ a vs ns, vals = [Value.ref a] ∧ args = [WData.list (ns.map WData.int)] ∧ h.get? a = some { cls := .type "list", data := .seq vs.toArray } ∧ IntsAre vs ns ∧ ns.length ≤ n := by
  have hsh : WShape.hasAll [] args [.list .int] = true := (pre_splitW hpre).1
  have hc : l.pre.holds [] { args := args } = true := (pre_splitW hpre).2
  obtain ⟨d, r, rfl, h1, h2⟩ := hasAllW_cons hsh
  obtain rfl := hasAllW_nil h2
  obtain ⟨xs, rfl, h3⟩ := hasW_list h1
  obtain ⟨ns, rfl⟩ := items_int h3
  have hlen : ns.length ≤ n := by
    unfold OpenLaw.pre at hc
    have h4 : (WTm.not (.lt (.lit (.int (n : Int))) (.len (.arg 0)))).holds [] { args := [.list (ns.map .int)] } = true := by
      have h4 := (holds_andW hc).1
      rw [hn] at h4
      exact h4
    have h5 := condW_of h4 (w_not (w_lt w_lit (w_len_list (w_arg rfl))))
    rw [List.length_map] at h5
    refine Nat.le_of_not_lt fun q => ?_
    have q' : (n : Int) < ((ns.length : Nat) : Int) := by omega
    first
      | (rw [decide_eq_true q'] at h5; exact absurd h5 (by decide))
      | (simp at h5; omega)
  cases hwl with
  | cons w1 w2 =>
    cases w2
    cases w1 with
    | list ho hall => exact ⟨_, _, ns, rfl, rfl, ho, ints_of_wellAll ns _ hall, hlen⟩

theorem post_true (l : OpenLaw) (args : List WData) : l.row.toRowW.claim.post args (.bool true) args = true :=
  postW_of (r := l.row.toRowW) (X := (true == true))
    (show WShape.has [] (.bool true) .bool = true by first | rfl | decide | simp [WShape.has, WShape.arms, WShape.armsAll])
    (show (WTm.eq .res (.lit (.bool true))).value [] { args := args, res := some (.bool true), after := args } = some (.bool (true == true)) from w_eq_bool (w_res rfl) w_lit) rfl

/-! ### the attachment: holds_open's last premise (the goal 'hc' behind k_head) from a wpAny of the law's body -/
theorem attach {l : OpenLaw} {n : Nat} {q : Program} {loose : List Str} {XP : (Str → Option Value) → Heap → Prop} {YP : World → Heap → Prop} {d : DefRec} {x : Str}
    (hn : l.most = some n) (hdf : d.params.defaults = [])
    (hbind : ∀ pm cd doc v : Value, bindArgs (docDef d.name d.params d.body d.scope pm cd doc) ⟨[v], []⟩ = pure [(x, v)])
    (hx : d.scope.names.lookup x = some .local ∨ d.scope.names.lookup x = some .cell)
    (hk : d.scope.kind = .function) (hco : d.scope.isCoroutine = false) (hgen : d.scope.isGenerator = false)
    (body : ∀ (w : World) (s₀ s₁ s : Shared) (mg mb : Str → Option Value) (fa : Addr) (o : Obj) (pm cd doc : Value) (a : Addr) (vs : List Value) (ns : List Int),
      Ground q loose [] XP w s₀ mg mb s₁.heap → YP w s₁.heap →
      s₁.heap.get? fa = some o → o.data = .func (docDef d.name d.params d.body d.scope pm cd doc) → s₁.heap.CodeRec cd d.name → mg d.name = some (.ref fa) →
      s₁.heap.get? a = some { cls := .type "list", data := .seq vs.toArray } → IntsAre vs ns → ns.length ≤ n →
      s.gens = #[] → s.os = s₁.os →
      Fr s₁.heap s₁.heap.objs.size s.heap (bindL (envOfC d.name d.scope s₁.heap.objs.size fa cd).kindOf [(x, .ref a)] fun _ => none) →
      Cl s₁.heap.objs.size (cellsFrom (s₁.heap.objs.size + 1) d.scope.names []) s.heap (bindC (envOfC d.name d.scope s₁.heap.objs.size fa cd).kindOf [(x, .ref a)] fun _ => none) →
      wpAny (model l.prog w) (callerA.deeper (envOfC d.name d.scope s₁.heap.objs.size fa cd)) (execs d.body (envOfC d.name d.scope s₁.heap.objs.size fa cd))
        (fun f s' => f = .ret (.bool true) ∧ OldK s₁.heap s'.heap ∧ s'.os = s₁.os ∧ AllBare s'.gens) (fun _ _ => False) s) :
    WalkO q loose XP YP l.row.toRowW d [] (fun f vs => PySem.call f vs) := by
  intro w s₀ s₁ mg mb G Y fa o pm cd doc dV kV ho hd hcd hD hmg hg args vals as hpre hlay hrd hwl hlo
  obtain rfl : dV = .none := Dflts.none hD hdf
  obtain rfl : kV = .none := Dflts.noKw hD
  obtain ⟨a, vs, ns, rfl, rfl, hobj, hints, hlen⟩ := script_of hn hpre hwl
  refine enter_call ?_
  refine call_cells_ret (o := o) (by rw [depth_caller]; decide) ho (fd_plain hd) G.T.nolimit hcd (hbind pm cd doc (.ref a)) (fun y hy => ?_) (fun h₁ tk F X => ?_) hco hgen hk
  · obtain rfl : y = (x, Value.ref a) := List.mem_singleton.mp hy
    rcases hx with e | e
    · exact .inl e
    · exact .inr ⟨e, cellsFrom_some _ _ _ (.inl e)⟩
  · refine wpAny_mono (body w s₀ s₁ { s₁ with heap := h₁, toks := tk } mg mb fa o pm cd doc a vs ns G Y ho (fd_plain hd) hcd hmg hobj hints hlen hg rfl F X) (fun f s' hq => ?_) (fun _ _ hq => hq)
    obtain ⟨rfl, h2, h3, h4⟩ := hq
    exact ⟨.inl ⟨.bool true, .bool true, [], rfl, fun _ => rfl, .bool true, post_true l _, fun _ => ⟨List.Pairwise.nil, fun _ hm => (nomatch hm)⟩⟩, h2, h3, h4⟩

/-- the same from a codeAny of the CALL (for a layer whose function contracts speak of calls) -/
theorem attach_call {l : OpenLaw} {n : Nat} {q : Program} {loose : List Str} {XP : (Str → Option Value) → Heap → Prop} {YP : World → Heap → Prop} {d : DefRec}
    (hn : l.most = some n) (hdf : d.params.defaults = [])
    (call : ∀ (w : World) (s₀ s₁ : Shared) (mg mb : Str → Option Value) (fa : Addr) (o : Obj) (pm cd doc : Value) (a : Addr) (vs : List Value) (ns : List Int),
      Ground q loose [] XP w s₀ mg mb s₁.heap → YP w s₁.heap →
      s₁.heap.get? fa = some o → o.data = .func (docDef d.name d.params d.body d.scope pm cd doc) → s₁.heap.CodeRec cd d.name → mg d.name = some (.ref fa) →
      s₁.heap.get? a = some { cls := .type "list", data := .seq vs.toArray } → IntsAre vs ns → ns.length ≤ n → s₁.gens = #[] →
      codeAny (model l.prog w) callerA (.call (.ref fa) ⟨[.ref a], []⟩) (fun r s' => r = .ok (.ret (.bool true)) ∧ OldK s₁.heap s'.heap ∧ s'.os = s₁.os ∧ AllBare s'.gens) s₁) :
    WalkO q loose XP YP l.row.toRowW d [] (fun f vs => PySem.call f vs) := by
  intro w s₀ s₁ mg mb G Y fa o pm cd doc dV kV ho hd hcd hD hmg hg args vals as hpre hlay hrd hwl hlo
  obtain rfl : dV = .none := Dflts.none hD hdf
  obtain rfl : kV = .none := Dflts.noKw hD
  obtain ⟨a, vs, ns, rfl, rfl, hobj, hints, hlen⟩ := script_of hn hpre hwl
  refine enter_call (codeAny_mono (call w s₀ s₁ mg mb fa o pm cd doc a vs ns G Y ho (fd_plain hd) hcd hmg hobj hints hlen hg) fun r s' hq => ?_)
  obtain ⟨rfl, h2, h3, h4⟩ := hq
  exact ⟨.inl ⟨.bool true, .bool true, [], rfl, fun _ => rfl, .bool true, post_true l _, fun _ => ⟨List.Pairwise.nil, fun _ hm => (nomatch hm)⟩⟩, h2, h3, h4⟩

/-- the same where the top left finished generators (o_head chose holds_openN): nothing may have changed at all and no generator may be left -/
theorem attachN {l : OpenLaw} {n : Nat} {q : Program} {loose : List Str} {XP : (Str → Option Value) → Heap → Prop} {YP : World → Heap → Prop} {d : DefRec} {x : Str}
    (hn : l.most = some n) (hdf : d.params.defaults = [])
    (hbind : ∀ pm cd doc v : Value, bindArgs (docDef d.name d.params d.body d.scope pm cd doc) ⟨[v], []⟩ = pure [(x, v)])
    (hx : d.scope.names.lookup x = some .local ∨ d.scope.names.lookup x = some .cell)
    (hk : d.scope.kind = .function) (hco : d.scope.isCoroutine = false) (hgen : d.scope.isGenerator = false)
    (body : ∀ (w : World) (s₀ s₁ s : Shared) (mg mb : Str → Option Value) (fa : Addr) (o : Obj) (pm cd doc : Value) (a : Addr) (vs : List Value) (ns : List Int),
      Ground q loose [] XP w s₀ mg mb s₁.heap → YP w s₁.heap →
      s₁.heap.get? fa = some o → o.data = .func (docDef d.name d.params d.body d.scope pm cd doc) → s₁.heap.CodeRec cd d.name → mg d.name = some (.ref fa) →
      s₁.heap.get? a = some { cls := .type "list", data := .seq vs.toArray } → IntsAre vs ns → ns.length ≤ n →
      s.gens = #[] → s.os = s₁.os →
      Fr s₁.heap s₁.heap.objs.size s.heap (bindL (envOfC d.name d.scope s₁.heap.objs.size fa cd).kindOf [(x, .ref a)] fun _ => none) →
      Cl s₁.heap.objs.size (cellsFrom (s₁.heap.objs.size + 1) d.scope.names []) s.heap (bindC (envOfC d.name d.scope s₁.heap.objs.size fa cd).kindOf [(x, .ref a)] fun _ => none) →
      wpAny (model l.prog w) (callerA.deeper (envOfC d.name d.scope s₁.heap.objs.size fa cd)) (execs d.body (envOfC d.name d.scope s₁.heap.objs.size fa cd))
        (fun f s' => f = .ret (.bool true) ∧ (∀ b o, s₁.heap.get? b = some o → s'.heap.get? b = some o) ∧ s'.os = s₁.os ∧ s'.gens = #[]) (fun _ _ => False) s) :
    WalkN q loose XP YP l.row.toRowW d [] (fun f vs => PySem.call f vs) := by
  intro w s₀ s₁ mg mb G Y fa o pm cd doc dV kV ho hd hcd hD hmg hg args vals as hpre hlay hrd hwl hlo
  obtain rfl : dV = .none := Dflts.none hD hdf
  obtain rfl : kV = .none := Dflts.noKw hD
  obtain ⟨a, vs, ns, rfl, rfl, hobj, hints, hlen⟩ := script_of hn hpre hwl
  refine enter_callW ?_
  refine call_cells_ret (o := o) (by rw [depth_caller]; decide) ho (fd_plain hd) G.T.nolimit hcd (hbind pm cd doc (.ref a)) (fun y hy => ?_) (fun h₁ tk F X => ?_) hco hgen hk
  · obtain rfl : y = (x, Value.ref a) := List.mem_singleton.mp hy
    rcases hx with e | e
    · exact .inl e
    · exact .inr ⟨e, cellsFrom_some _ _ _ (.inl e)⟩
  · refine wpAny_mono (body w s₀ s₁ { s₁ with heap := h₁, toks := tk } mg mb fa o pm cd doc a vs ns G Y ho (fd_plain hd) hcd hmg hobj hints hlen hg rfl F X) (fun f s' hq => ?_) (fun _ _ hq => hq)
    obtain ⟨rfl, h2, h3, h4⟩ := hq
    exact ⟨.inl ⟨.bool true, .bool true, [], rfl, fun _ => rfl, .bool true, post_true l _, fun _ => ⟨List.Pairwise.nil, fun _ hm => (nomatch hm)⟩⟩, h2, h3, h4⟩

/-! ### rules over ANY heap (no ledger) from facts about the written part K: the library's own take a ledger (News) for what they write -/
section
variable {prog : Program} {w : World} {A : Around} {E : Value → Shared → Prop} {s : Shared} {K : Frag}

/-- a def of the module, or a method (qual 'C.m'), entered: the frame is the next address; cells behind it -/
theorem call_fn {R : Result → Shared → Prop} {name qual : Str} {params : Arguments} {body : List Stmt} {scope : Scope} {dV kV doc pm cdv ct oc : Value} {an od : Option Addr} {osl : Array (Option Value)} {f : Addr} {args : Args} {binds : List (Str × Value)}
    (X : K.In s.heap) (hlim : s.heap.NoLimit) (ho : K.lookup f = some ⟨oc, od, .func (fnOf name qual params body scope dV kV doc pm an cdv ct), osl⟩) (hcd : codeIn K cdv qual = true) (hroom : A.depth < recursionLimit)
    (hbind : BindsTo s (fnOf name qual params body scope dV kV doc pm an cdv ct) args binds)
    (hkind : (binds.all fun y => scope.names.lookup y.1 == some .local || scope.names.lookup y.1 == some .cell) = true)
    (h : ∀ s₁, InCallC s s.heap.objs.size (bindL (envOfC qual scope s.heap.objs.size f cdv).kindOf binds fun _ => none) (cellsFrom (s.heap.objs.size + 1) scope.names [])
        (bindC (envOfC qual scope s.heap.objs.size f cdv).kindOf binds fun _ => none) s₁ →
      wpAny (model prog w) (A.deeper (envOfC qual scope s.heap.objs.size f cdv)) (execs body (envOfC qual scope s.heap.objs.size f cdv))
        (fun fl s' => R (.ok (.ret (match fl with | .ret v => v | _ => .none))) s')
        (fun e s' => wpAny (model prog w) (A.deeper (envOfC qual scope s.heap.objs.size f cdv)) (leaving (envOfC qual scope s.heap.objs.size f cdv) e) (fun _ s'' => R (.error e) s'') (fun e' s'' => R (.error e') s'') s') s₁)
    (hco : scope.isCoroutine = false) (hgen : scope.isGenerator = false) (hk : scope.kind = .function) : codeAny (model prog w) A (.call (.ref f) args) R s := by
  refine codeAny_call_function hroom (X _ _ ho) rfl hco hgen rfl (codeRec_of X hcd) (hbind _ _ _ _ ?_)
  refine wpAny_newFunctionEnv_cells hk (kindsX hkind _) fun env he s₁ x => ?_
  subst he
  exact ⟨hlim.keeps x.toInCall.keep, codeAny_func (h s₁ x)⟩

/-- C(..): dict at size, instance at size + 1, then __init__ -/
theorem make_obj {R : Result → Shared → Prop} {C fI : Addr} {rest : List Value} {kw : List (Str × Value)}
    (X : K.In s.heap) (hm : makesIn K C = true) (hi : findIn K (.ref C) "__init__" = some (some (.ref fI))) (hf : isFn K (.ref fI) = true)
    (h : codeAny (model prog w) (A.under (.builtin "type.__call__" ⟨.ref C :: rest, kw⟩)) (.call (.ref fI) ⟨.ref (s.heap.objs.size + 1) :: rest, kw⟩) (InitBack (s.heap.objs.size + 1) R)
      { s with heap := (s.heap.push emptyDict).push (instObj C s.heap.objs.size) }) : codeAny (model prog w) A (.call (.ref C) ⟨rest, kw⟩) R s := by
  obtain ⟨hh, g, d, t, os⟩ := s
  exact make_core (makes_of X hm) (looks_findIn X hi) (fun self => bind_fn X self (beq_iff_eq.mp hf)) (.inl rfl) h

/-- x.name where the instance's dict holds the name and the class does not -/
theorem get_field {x C : Addr} {ox : Obj} {es : List DictEntry} {n : Nat} {name : Str} {expr : Bool} {v : Value} {Q : Value → Shared → Prop}
    (X : K.In s.heap) (I : PySem.W.InstAt s.heap x ox C (some (dictOf es n))) (hg : plainGet K C name = true) (hh : hasDictIn K C = true) (ha : findIn K (.ref C) name = some none)
    (hl : getL name es = some (some v)) (hv : handedIn v = true) (h : Q v { s with toks := s.toks + 1 }) : wpAny (model prog w) A (getAttr (.ref x) name expr) Q E s :=
  get_value X I (plainGet_of hg).1 (findObj_own hh ha rfl hl) hv h

/-- x.m(..): the method found in the class -/
theorem get_method {x C f : Addr} {ox : Obj} {es : List DictEntry} {n : Nat} {name : Str} {pl : Sem Bool} {Q : Value × List Value → Shared → Prop}
    (X : K.In s.heap) (I : PySem.W.InstAt s.heap x ox C (some (dictOf es n))) (hg : plainGet K C name = true) (hf : findIn K (.ref C) name = some (some (.ref f))) (ht : isFn K (.ref f) = true)
    (hl : getL name es = some none) (h : Q (.ref f, [.ref x]) s) : wpAny (model prog w) A (getMethod (.ref x) name pl) Q E s :=
  method_fn X I (plainGet_of hg).1 (plainGet_of hg).2 hf (beq_iff_eq.mp ht) (by show (lookIn name (dictOf es n)).map _ = _; rw [lookIn_dict, hl]; rfl) h

/-! the whole heap as the ledger: makes every rule that writes through a ledger a rule over any heap -/
def noObjs (h : Heap) : Heap := { h with objs := #[] }
theorem noObjs_get (h : Heap) (b : Addr) : (noObjs h).get? b = none := by
  cases e : (noObjs h).get? b with
  | none => rfl
  | some o => exact absurd (Heap.lt_size e) (Nat.not_lt_zero _)
def ledger (h : Heap) (L d : Addr) : List (Addr × Obj) := (List.range h.objs.size).filterMap fun a => if a = L ∨ a = d then none else (h.get? a).map fun o => (a, o)
theorem mem_ledger {h : Heap} {L d a : Addr} {o : Obj} : (a, o) ∈ ledger h L d ↔ a ≠ L ∧ a ≠ d ∧ h.get? a = some o := by
  unfold ledger
  rw [List.mem_filterMap]
  constructor
  · rintro ⟨b, _, e⟩
    split at e
    · cases e
    · rename_i hb
      obtain ⟨o', ho, e'⟩ := Option.map_eq_some_iff.mp e
      cases e'
      exact ⟨fun q => hb (.inl q), fun q => hb (.inr q), ho⟩
  · rintro ⟨n1, n2, ho⟩
    refine ⟨a, List.mem_range.mpr (Heap.lt_size ho), ?_⟩
    rw [if_neg (show ¬ (a = L ∨ a = d) from fun q => q.elim n1 n2), ho] <;> rfl
theorem news_ledger {h : Heap} {L d : Addr} {od : Obj} (hne : d ≠ L) (ho : h.get? d = some od) : News (noObjs h) L h ([] ++ (d, od) :: ledger h L d) := by
  rintro ⟨a, o⟩ hp
  rcases List.mem_cons.mp hp with e | hp
  · cases e
    exact ⟨ho, hne, noObjs_get _ _⟩
  · obtain ⟨n1, n2, e⟩ := mem_ledger.mp hp
    exact ⟨e, n1, noObjs_get _ _⟩
theorem fr_all {h : Heap} {L : Addr} {m : Str → Option Value} (n : h.Ns L m) : Fr (noObjs h) L h m :=
  ⟨n, fun b o e => (by rw [noObjs_get] at e; cases e), Nat.zero_le _⟩
/-- Upd of the head entry (for append_K, setItem_K ..) -/
theorem upd_ledger {h : Heap} {L d : Addr} {o o' : Obj} : Upd d o o' ((d, o) :: ledger h L d) ((d, o') :: ledger h L d) :=
  .head fun ⟨_, _⟩ hp => (mem_ledger.mp hp).2.1

/-- x.name = v over any heap: L is any namespace of the heap (the frame's, say): its map stays, its object is not told; all else but the dict stays -/
theorem set_field {x C dx L : Addr} {ox : Obj} {m : Str → Option Value} {es es' : List DictEntry} {n n' : Nat} {name : Str} {v : Value} {Q : Unit → Shared → Prop}
    (X : K.In s.heap) (I : PySem.W.InstAt s.heap x ox C (some (dictOf es n))) (hd : ox.dict = some dx) (hL : s.heap.Ns L m) (hne : dx ≠ L)
    (hs : findIn K (.ref C) "__setattr__" = some (some (.builtin "object.__setattr__"))) (hp : plainOver K C = true) (ht : takerIn K C name = some none) (hh : hasDictIn K C = true) (hl : (getL name es).isSome = true)
    (e : (putL name (PyData.keyHash w.params name) (.str name (s.toks + 1)) v es, putN name es n) = (es', n')) (hz : es'.length ≤ 1000)
    (h : ∀ h' : Heap, h'.Ns L m → h'.get? dx = some (dictOf es' n') → (∀ b o, b ≠ dx → b ≠ L → s.heap.get? b = some o → h'.get? b = some o) → Q () { s with heap := h', toks := s.toks + 2 }) :
    wpAny (model prog w) A (setAttr (.ref x) name v) Q E s := by
  obtain ⟨e1, e2⟩ := Prod.mk.inj e
  have hdx : s.heap.get? dx = some (dictOf es n) := by
    have := I.dict
    rw [hd] at this
    exact this
  refine set_plain X I hs (osa_dict (s := { s with toks := s.toks + 1 }) (h₀ := noObjs s.heap) (L := L) (m := m) (od := dictOf es n) (od' := dictOf es' n') (es := es') (n := n') (pre := []) (post := ledger s.heap L dx)
    (fr_all hL) (news_ledger hne hdx) X I hd hp ht hh hl (fun _ q => nomatch q) (fun ⟨_, _⟩ q => (mem_ledger.mp q).2.1) (by rw [putName_dict, e1, e2]) rfl hz fun h' F' N' => ?_)
  exact h h' F'.ns (N'.get (List.Mem.head _)) fun b o n1 n2 ho => N'.get (List.Mem.tail _ (mem_ledger.mpr ⟨n2, n1, ho⟩))
end
end Att

namespace L2
open PySem PySem.Spec PyProof.Rows

theorem vals_ints : ∀ {vs : List Value} {ns : List Int}, IntsAre vs ns → Vals (ns.map V.int) vs
  | _, _, .nil => .nil
  | _, _, .cons n t h => .cons ⟨t, rfl⟩ (vals_ints h)

/-- nothing is tracked but the script, known to the object (or it is an object of the module) -/
def Only (H : Hp) : Prop := ∀ b, H b = none ∨ ∃ o xs, H b = some (.frz o (.lst xs))

/-- THE HEAD: the law's promise, at the heap behind the top. F, the promise of the law's def, may use that base is part of the heap (so K.In base, base.Ns mainGlobals mg stand in Mod) -/
theorem law_call {P : Program} {w : World} {K : PySem.W.Frag} {mg mb : Str → Option Value} {CX : CXT} {k : Nat} {fa a : Addr} {fd : FuncData} {x : Str} {sp : Sp} {s₁ : Shared} {vs : List Value} {ns : List Int}
    (KX : K.In s₁.heap) (hns : s₁.heap.Ns mainGlobals mg) (hb : s₁.heap.Ns builtinsNs mb) (hbb : ∀ x : Str, x ≠ "__name__" → mb x = bootBuiltins x) (hlim : s₁.heap.NoLimit) (hg : s₁.gens = #[])
    (ha : s₁.heap.get? a = some { cls := .type "list", data := .seq vs.toArray }) (hi : IntsAre vs ns) (hl : ns.length ≤ sizeLine) (hr : Room k callerA)
    (F : ∀ base : Heap, K.In base → base.Ns mainGlobals mg → FnOk P w K mg base CX k fa fd [x] sp) (hbind : ∀ (s : Shared) (u : Value), BindsTo s fd ⟨[u], []⟩ [(x, u)])
    (hsp : ∀ H : Hp, Only H → SqL K H a (ns.map V.int) → sp [.ref a] H (fun v _ => v = .bl true) fun _ _ _ => False)
    (hCX : ∀ H e s', CX [] H s₁ (fun _ _ _ => False) e s' → False) :
    codeAny (model P w) callerA (.call (.ref fa) ⟨[.ref a], []⟩) (fun r s' => r = .ok (.ret (.bool true)) ∧ OldK s₁.heap s'.heap ∧ s'.os = s₁.os ∧ AllBare s'.gens) s₁ := by
  have rv := vals_ints hi
  have lenV := hi.length
  -- from an abstract heap in which nothing but the script may be tracked
  have core : ∀ H : Hp, Only H → SqL K H a (ns.map V.int) → HOk P w H s₁.heap → (∀ b, H b ≠ none → b = a) → (H a ≠ none → K.lookup a = none) →
      codeAny (model P w) callerA (.call (.ref fa) ⟨[.ref a], []⟩) (fun r s' => r = .ok (.ret (.bool true)) ∧ OldK s₁.heap s'.heap ∧ s'.os = s₁.os ∧ AllBare s'.gens) s₁ := by
    intro H hO hS hok hA hK
    have base_of : ∀ {b : Addr} {o : Obj}, s₁.heap.get? b = some o → H b = none → (hidT s₁.heap H).get? b = some o := fun e n => hidT_get e n
    have noA : ∀ {b : Addr} {o : Obj} {es : Array DictEntry} {ep : Nat}, s₁.heap.get? b = some o → o.data = .dict es ep → H b = none := fun {b o es ep} e d => by
      cases q : H b with
      | none => rfl
      | some u =>
        have e' : b = a := hA b (by rw [q]; simp)
        subst e'
        rw [ha] at e; cases e
        have d' : Data.seq vs.toArray _ = Data.dict es ep := d
        cases d'
    have nsK : ∀ {b : Addr} {m : Str → Option Value}, s₁.heap.Ns b m → (hidT s₁.heap H).Ns b m := fun {b m} ⟨o, es, ep, e, d, r⟩ => ⟨o, es, ep, base_of e (noA e d), d, r⟩
    have hKb : K.In (hidT s₁.heap H) := fun b o e => base_of (KX b o e) (by
      cases q : H b with
      | none => rfl
      | some u =>
        have e' : b = a := hA b (by rw [q]; simp)
        subst e'
        rw [hK (by rw [q]; simp)] at e; cases e)
    have hM : Mod K mg (hidT s₁.heap H) := ⟨hKb, nsK hns, ⟨mb, nsK hb, hbb⟩, let ⟨mc, h1, h2⟩ := hlim; ⟨mc, nsK h1, h2⟩⟩
    have e0 : Env0 P w K mg (hidT s₁.heap H) callerA [] s₁ H := ⟨rfl, hM, fun b o e => of_hidT e, Nat.le_of_eq (hidT_size _ _), trivial, fun b hb => absurd (show b ∈ ([] : List Addr) from hb) (by simp), hok, .of_eq hg⟩
    refine codeAny_mono ((F _ hKb (nsK hns)).run callerA [] s₁ H ⟨[.ref a], []⟩ [.ref a] [.ref a] _ _ hr e0 (hbind s₁ (.ref a)) (.cons rfl .nil) (hsp H hO hS)) fun r s' h => ?_
    cases r with
    | error e => exact (hCX H e s' h).elim
    | ok fl =>
      cases fl with
      | next => exact False.elim h
      | brk => exact False.elim h
      | cont => exact False.elim h
      | ret u =>
        obtain ⟨v, H', os, bare, un, hok', r', q⟩ := h
        have q' : v = .bl true := q
        subst q'
        obtain rfl : u = Value.bool true := r'
        refine ⟨rfl, OldK.of_keep fun b o e => ?_, os, bare⟩
        cases q : H b with
        | none => exact un.keep b o e q (by intro z; exact absurd (show b ∈ ([] : List Addr) from z) (by simp)) (by simp)
        | some u =>
          rcases hO b with z | ⟨ob, xs, z⟩
          · rw [q] at z; cases z
          · have z2 := un.frzs b ob _ z
            obtain ⟨e1, _⟩ := hok b _ z
            obtain ⟨e2, _⟩ := hok' b _ z2
            rw [e] at e1; cases e1
            exact e2
  cases hk : K.lookup a with
  | some o =>
    -- the script is one of the module's own objects
    have e := KX a o hk
    rw [ha] at e
    cases e
    refine core (fun _ => none) (fun _ => .inl rfl) (.inr ⟨_, vs.toArray, _, hk, rfl, rfl, rfl, by rw [List.size_toArray, lenV]; exact hl, by simpa using rv⟩) (fun b u z => by have z' : (none : Option HO) = some u := z; cases z') (fun b z => absurd rfl z) fun z => absurd rfl z
  | none =>
    refine core (fun b => if b = a then some (.frz { cls := .type "list", data := .seq vs.toArray } (.lst (ns.map V.int))) else none) (fun b => ?_) (.inl (.inr ⟨{ cls := .type "list", data := .seq vs.toArray }, if_pos rfl⟩)) (fun b u z => ?_) (fun b z => ?_) fun _ => hk
    · by_cases hb : b = a
      · exact .inr ⟨_, _, if_pos hb⟩
      · exact .inl (if_neg hb)
    · by_cases hb : b = a
      · have z' := (if_pos hb).symm.trans z
        cases z'
        subst hb
        exact ⟨ha, by rw [List.length_map]; exact hl, vs, _, rv, ha⟩
      · have z' := (if_neg hb).symm.trans z
        cases z'
    · by_cases hb : b = a
      · exact hb
      · exact absurd (if_neg hb) z
end L2

namespace L2
open PySem PySem.Spec PyProof.Rows

abbrev KOf {K : PySem.W.Frag} {h : Heap} (_ : K.In h) : PySem.W.Frag := K

/-- the goal that k_head leaves (case hc), from the law's promise. F gives the function object fd (K's own) once, then the promise over every base -/
theorem walk_of {l : PySem.W.OpenLaw} {n k : Nat} {q : Program} {loose : List Str} {XP : (Str → Option Value) → Heap → Prop} {YP : World → Heap → Prop} {d : DefRec} {K : Params → PySem.W.Frag} {CX : World → CXT} {sp : World → Sp} {x : Str}
    (hn : l.most = some n) (hn2 : n ≤ sizeLine) (hdf : d.params.defaults = []) (hr : Room k callerA)
    (hY : ∀ (w : World) (h : Heap), YP w h → (K w.params).In h)
    (F : ∀ (w : World) (mg : Str → Option Value) (fa : Addr) (h : Heap), (K w.params).In h → h.Ns mainGlobals mg → mg d.name = some (.ref fa) →
      ∃ fd : FuncData, (∀ (s : Shared) (u : Value), BindsTo s fd ⟨[u], []⟩ [(x, u)]) ∧
        ∀ base : Heap, (K w.params).In base → base.Ns mainGlobals mg → FnOk l.prog w (K w.params) mg base (CX w) k fa fd [x] (sp w))
    (hsp : ∀ (w : World) (H : Hp) (a : Addr) (ns : List Int), ns.length ≤ n → Only H → SqL (K w.params) H a (ns.map V.int) → sp w [.ref a] H (fun v _ => v = .bl true) fun _ _ _ => False)
    (hCX : ∀ (w : World) (H : Hp) (s : Shared) (e : Value) (s' : Shared), CX w [] H s (fun _ _ _ => False) e s' → False) :
    PySem.W.WalkO q loose XP YP l.row.toRowW d [] (fun f vs => PySem.call f vs) := by
  refine Att.attach_call hn hdf fun w s₀ s₁ mg mb fa o pm cd doc a vs ns G Y ho hd hcd hmg hobj hints hlen hg => ?_
  have KX := hY w _ Y
  obtain ⟨fd, hb, hF⟩ := F w mg fa _ KX G.T.g hmg
  exact law_call KX G.T.g G.T.b G.T.builtins G.T.nolimit hg hobj hints (Nat.le_trans hlen hn2) hr hF hb (fun H hO hS => hsp w H a ns hlen hO hS) fun H e s' => hCX w H s₁ e s'
/-- the same where the promise hangs on the written part alone: (sp := My.sp_law), no hole under a binder -/
theorem walk_ofK {l : PySem.W.OpenLaw} {n k : Nat} {q : Program} {loose : List Str} {XP : (Str → Option Value) → Heap → Prop} {YP : World → Heap → Prop} {d : DefRec} {K : Params → PySem.W.Frag} {CX : CXT} {sp : PySem.W.Frag → Sp} {x : Str}
    (hn : l.most = some n) (hn2 : n ≤ sizeLine) (hdf : d.params.defaults = []) (hr : Room k callerA)
    (hY : ∀ (w : World) (h : Heap), YP w h → (K w.params).In h)
    (F : ∀ (w : World) (mg : Str → Option Value) (fa : Addr) (h : Heap), (K w.params).In h → h.Ns mainGlobals mg → mg d.name = some (.ref fa) →
      ∃ fd : FuncData, (∀ (s : Shared) (u : Value), BindsTo s fd ⟨[u], []⟩ [(x, u)]) ∧
        ∀ base : Heap, (K w.params).In base → base.Ns mainGlobals mg → FnOk l.prog w (K w.params) mg base CX k fa fd [x] (sp (K w.params)))
    (hsp : ∀ (K : PySem.W.Frag) (H : Hp) (a : Addr) (ns : List Int), ns.length ≤ n → Only H → SqL K H a (ns.map V.int) → sp K [.ref a] H (fun v _ => v = .bl true) fun _ _ _ => False)
    (hCX : ∀ (H : Hp) (s : Shared) (e : Value) (s' : Shared), CX [] H s (fun _ _ _ => False) e s' → False) :
    PySem.W.WalkO q loose XP YP l.row.toRowW d [] (fun f vs => PySem.call f vs) :=
  walk_of (K := K) (CX := fun _ => CX) (sp := fun w => sp (K w.params)) hn hn2 hdf hr hY F (fun w H a ns h1 h2 h3 => hsp (K w.params) H a ns h1 h2 h3) fun _ H s e s' => hCX H s e s'
end L2

/- THE LAST THEOREM (shape; LID, My.* are yours):
   My.Adr: a structure of the addresses that your layer names (classes, functions); My.Txt K t: a structure (Prop) of the equations over K;
   My.txt_mk : {K} {implicit addresses ..} (e1 : nsIn K mainGlobals "law" = some (some (.ref f))) (e2 : K.lookup f = some ⟨oc, od, .func (fnOf "law" "law" params body scope dV kV doc pm an cdv ct), sl⟩) (e3 : codeIn K cdv "law" = true) .. : ∃ t, My.Txt K t

set_option maxRecDepth 100000 in
set_option maxHeartbeats 0 in
theorem PySem.Challenge.cw_LID_holds : PySem.Challenge.rw_LID.Holds := by
  w_on; o_law; k_head; (case hw => w_witness2)
  k_fill
  refine L2.walk_of (l := PySem.Challenge.rw_LID) (n := 63) (k := 40) (x := "script") (CX := fun w => ..) (sp := fun _ => My.sp_law) rfl (by decide) rfl ⟨rfl, by decide, by decide⟩ (fun w h Y => PySem.W.kIn_of Y) ?F ?S ?C
  case F =>
    intro w mg fa h KX G hmg
    have T : ∃ t, My.Txt (L2.KOf KX) t := by
      dsimp only [L2.KOf]                          -- K must stand as «<heap const> w.params» for k_is
      refine' My.txt_mk ?e1 ?e2 ?e3 ..
      (case e1 => PySem.W.k_is)                    -- in the order: a name -> its address -> its object -> its parts
      (case e2 => PySem.W.k_is)
      ..
    obtain ⟨t, T⟩ := T
    have e0 := hmg.symm.trans (PySem.W.mg_of KX G T.law)
    cases e0                                       -- fa is the law's own address
    exact ⟨_, fun s u => .of_eq rfl, fun base kb nb => My.law_fn T kb nb⟩     -- if «.of_eq rfl» comes too early: refine' ⟨_, ?b, fun base kb nb => My.law_fn T kb nb⟩; exact fun s u => .of_eq rfl
  case S => exact fun w H a ns hl hO hS => ..
  case C => exact ..
(the tactic k_is has no namespace: write k_is) -/

/-! SHORT WORDS over the layer: a def of the text, its body, what a loop and a test want. -/
namespace L2
open PySem PySem.Spec PyProof.Rows

/-! ### the text by places -/
/-- the j-th statement of a class's body -/
def inClass (s : Stmt) (j : Nat) : Stmt := match s with
  | .ClassDef _ _ _ body _ _ _ _ _ _ _ => body.getD j (.Pass ⟨0, 0, 0, 0⟩)
  | _ => .Pass ⟨0, 0, 0, 0⟩
def defArgs (s : Stmt) : Arguments := match s with
  | .FunctionDef _ a _ _ _ _ _ _ _ _ => a
  | _ => { posonlyargs := [], args := [], vararg := none, kwonlyargs := [], kw_defaults := [], kwarg := none, defaults := [] }
def defBody (s : Stmt) : List Stmt := match s with
  | .FunctionDef _ _ b _ _ _ _ _ _ _ => b
  | _ => []
def defScope (s : Stmt) : Scope := match s with
  | .FunctionDef _ _ _ _ _ _ sc _ _ _ => sc
  | _ => { kind := .function, names := [], isGenerator := false, isCoroutine := false }

/-! ### no exception leaves a def -/
abbrev CX0 : CXT := fun _ _ _ _ _ _ => False
abbrev E0 : XK := fun _ _ _ => False
theorem pass0 {X : Cx} : Passes CX0 X E0 := fun _ _ _ _ _ _ _ h => h.elim

/-! ### a def (or method) of the text as it stands behind the top -/
structure Fun (K : PySem.W.Frag) (x qual : Str) (st : Stmt) (f : Addr) (fd : FuncData) : Prop where
  ex : ∃ (oc : Value) (od : Option Addr) (kV doc pm : Value) (an : Option Addr) (cdv ct : Value) (osl : Array (Option Value)),
    fd = PySem.W.fnOf x qual (defArgs st) (defBody st) (defScope st) .none kV doc pm an cdv ct ∧ K.lookup f = some ⟨oc, od, .func fd, osl⟩ ∧ PySem.W.codeIn K cdv qual = true
  kp : PySem.W.keepIn K (.ref f) = true
section
variable {P : Program} {w : World} {K : PySem.W.Frag} {mg : Str → Option Value} {base : Heap}
/-- THE RULE for a def: its body as a term of rules, and the reading of that term -/
theorem Fun.ok {x qual : Str} {st : Stmt} {f : Addr} {fd : FuncData} {N ps : List Str} {k : Nat} {sp : Sp} (F : Fun K x qual st f fd) (S : FnScope N ps (defScope st)) (len : ∀ vs H Q E, sp vs H Q E → vs.length = ps.length)
    (hbody : ∀ (cdv : Value) (A : Around) (outer : List Env) (s : Shared) (H : Hp) (vs : List V) (Q : VK) (E : XK), Room k (A.deeper (envOfC qual (defScope st) s.heap.objs.size f cdv)) → sp vs H Q E →
      ∃ t, PSs (cxOf CX0 P w K mg base N qual (defScope st) f cdv A outer s H E).nox (defBody st) t ∧ t { nx := fun _ H' => Q .non H', rt := Q } (start N vs) H) : FnOk P w K mg base CX0 (k + 1) f fd ps sp := by
  obtain ⟨oc, od, kV, doc, pm, an, cdv, ct, osl, rfl, lk, hcd⟩ := F.ex
  refine fn_of lk hcd S len fun A outer s H vs Q E hr hsp => ?_
  obtain ⟨t, h, q⟩ := hbody cdv A outer s H vs Q E hr hsp
  exact ⟨t, h.nox, q⟩
/-- how its arguments bind (no defaults): h is «fun _ _ _ _ _ _ us hl => match us, hl with | [_, _], _ => rfl», one _ a parameter -/
theorem Fun.binds {x qual : Str} {st : Stmt} {f : Addr} {fd : FuncData} {ps : List Str} (F : Fun K x qual st f fd)
    (h : ∀ (kV doc pm : Value) (an : Option Addr) (cdv ct : Value) (us : List Value), us.length = ps.length → bindArgs (PySem.W.fnOf x qual (defArgs st) (defBody st) (defScope st) .none kV doc pm an cdv ct) ⟨us, []⟩ = pure (ps.zip us)) : Binds K fd ps [] := by
  obtain ⟨oc, od, kV, doc, pm, an, cdv, ct, osl, rfl, lk, hcd⟩ := F.ex
  exact .all (h kV doc pm an cdv ct)
theorem fun_mk {x qual : Str} {st : Stmt} {f : Addr} {oc : Value} {od an : Option Addr} {osl : Array (Option Value)} {kV doc pm cdv ct : Value} (l : K.lookup f = some ⟨oc, od, .func (PySem.W.fnOf x qual (defArgs st) (defBody st) (defScope st) .none kV doc pm an cdv ct), osl⟩)
    (c : PySem.W.codeIn K cdv qual = true) (k : PySem.W.keepIn K (.ref f) = true) : Fun K x qual st f (PySem.W.fnOf x qual (defArgs st) (defBody st) (defScope st) .none kV doc pm an cdv ct) := ⟨⟨oc, od, kV, doc, pm, an, cdv, ct, osl, rfl, l, c⟩, k⟩
end
theorem hu_of {A : Around} {k : Nat} (hr : Room k A) : A.units + 1 < cLine := Nat.lt_of_le_of_lt (Nat.add_le_add_left (by decide : 1 ≤ 64) _) hr.units
theorem small1000 {n : Nat} (h : n ≤ 1000) : n < sizeLine := Nat.lt_of_le_of_lt h (by decide)

/-! ### expressions in short: the name that stands in the i-th slot -/
section
variable {X : Cx}
theorem pv (i : Nat) {x : Str} {pos : Pos} (hN : X.N[i]? = some x := by rfl) (hv : Vis X.env.scope x := by first | exact Or.inl rfl | exact Or.inr (Or.inl rfl) | exact Or.inr (Or.inr rfl)) (hd : (x == ("__debug__" : Str)) = false := by decide)
    (hcd : (x == ("__classdict__" : Str)) = false := by decide) : PE X (.Name x pos) (tVar i) := pe_var hN hv hd hcd
end

/-! ### tests -/
theorem iteF {A B : Prop} (h : B) : if false = true then A else B := by
  rw [if_neg Bool.false_ne_true]
  exact h
theorem iteT {A B : Prop} (h : A) : if true = true then A else B := by
  rw [if_pos rfl]
  exact h
theorem ite2 {c A B : Prop} [Decidable c] (h1 : c → A) (h2 : ¬ c → B) : if c then A else B := by
  by_cases h : c
  · rw [if_pos h]
    exact h1 h
  · rw [if_neg h]
    exact h2 h
theorem iteNS {c A B : Prop} [Decidable c] (hc : c) (h : B) : if (!decide c) = true then A else B := by
  rw [decide_eq_true hc]
  exact iteF h

/-! ### heaps -/
/-- all that was tracked is as it was -/
def Same (H H' : Hp) : Prop := ∀ b o, H b = some o → H' b = some o
theorem Same.refl (H : Hp) : Same H H := fun _ _ h => h
theorem Same.trans {H H1 H2 : Hp} (a : Same H H1) (b : Same H1 H2) : Same H H2 := fun c o h => b c o (a c o h)
theorem Same.free {H H' : Hp} (e : Same H H') {l : Addr} (h : H' l = Option.none) : H l = Option.none := by
  cases q : H l with
  | none => rfl
  | some o =>
    rw [e l o q] at h
    cases h
theorem Same.seq {K : PySem.W.Frag} {H H' : Hp} {a : Addr} {xs : List V} (e : Same H H') (h : SqL K H a xs) : SqL K H' a xs := by
  rcases h with (h | ⟨o, h⟩) | h
  · exact .inl (.inl (e _ _ h))
  · exact .inl (.inr ⟨o, e _ _ h⟩)
  · exact .inr h

end L2

namespace P4
/-- a pattern -/
inductive Pat where
  | non | emp | sg (l h : Nat) | thn (a b : Pat) | alt (a b : Pat) | agn (a : Pat)
  deriving DecidableEq

def nest (f : Pat → Pat → Pat) : List Pat → Pat
  | [] => .emp
  | [p] => p
  | p :: q :: r => f p (nest f (q :: r))
def rowPat (l : List Pat) : Pat := if l = [] then .emp else nest .thn l
def rowsPat (rows : List (List Pat)) : Pat := nest .alt (rows.map rowPat)

theorem nest_snoc (f : Pat → Pat → Pat) : ∀ (l : List Pat) (q : Pat), nest f (l ++ [q]) = l.foldr f q
  | [], q => rfl
  | [p], q => rfl
  | p :: p' :: r, q => by
    have := nest_snoc f (p' :: r) q
    show f p (nest f ((p' :: r) ++ [q])) = f p _
    rw [this]

def depth : Pat → Nat
  | .non => 1 | .emp => 1 | .sg _ _ => 1
  | .thn a b => 1 + max (depth a) (depth b)
  | .alt a b => 1 + max (depth a) (depth b)
  | .agn a => 1 + depth a

/-! ### levels: the last one first, in each the last row first; a row's pieces in their order -/
abbrev Row := List Pat
abbrev Lvl := List Row
abbrev Lvls := List Lvl

/-! ### reading -/
def isg (t : List Nat) (i : Nat) : Option (Nat × Nat) :=
  match t[i]? with
  | none => none
  | some c =>
    if c = 93 ∨ c = 45 then none
    else if c ≠ 126 then some (c, i + 1)
    else match t[i + 1]? with
      | none => none
      | some d => if d = 93 ∨ d = 45 ∨ d = 126 then some (d, i + 2) else none
def itm (t : List Nat) (i : Nat) : Option (Pat × Nat) :=
  match isg t i with
  | none => none
  | some (l, j) =>
    if t[j]? ≠ some 45 then some (.sg l l, j)
    else match isg t (j + 1) with
      | none => none
      | some (h, k) => if h < l then none else some (.sg l h, k)
inductive Items (t : List Nat) : Nat → List Pat → Nat → Prop
  | one {i j p} : itm t i = some (p, j) → t[j]? = some 93 → Items t i [p] j
  | more {i k j p ps} : itm t i = some (p, k) → t[k]? ≠ some 93 → Items t k ps j → Items t i (p :: ps) j
def special (c : Nat) : Prop := c = 40 ∨ c = 41 ∨ c = 91 ∨ c = 93 ∨ c = 124 ∨ c = 42 ∨ c = 43 ∨ c = 63 ∨ c = 126
instance (c : Nat) : Decidable (special c) := by unfold special; infer_instance
def isMark (c : Nat) : Prop := c = 42 ∨ c = 43 ∨ c = 63
instance (c : Nat) : Decidable (isMark c) := by unfold isMark; infer_instance
inductive RP (t : List Nat) : Nat → Lvls → Pat → Nat → Lvls → Prop
  | close {i lv m r} : t[i]? = some 41 → RP t i (lv :: m :: r) (rowsPat lv.reverse) (i + 1) (m :: r)
  | items {i j ps L} : t[i]? = some 91 → Items t (i + 1) ps j → RP t i L (nest .alt ps) (j + 1) L
  | esc {i c L} : t[i]? = some 126 → t[i + 1]? = some c → RP t i L (.sg c c) (i + 2) L
  | plain {i c L} : t[i]? = some c → ¬ special c → RP t i L (.sg c c) (i + 1) L
def marked (p : Pat) (m : Nat) : Pat := if m = 42 then .agn p else if m = 43 then .thn p (.agn p) else .alt p .emp
inductive RS (t : List Nat) : Nat → Lvls → Nat → Lvls → Prop
  | opn {i L} : t[i]? = some 40 → RS t i L (i + 1) ([[]] :: L)
  | bar {i lv r} : t[i]? = some 124 → RS t i (lv :: r) (i + 1) (([] :: lv) :: r)
  | pce {i L p e row rows r} : RP t i L p e ((row :: rows) :: r) → (∀ m, t[e]? = some m → ¬ isMark m) → RS t i L e (((row ++ [p]) :: rows) :: r)
  | mrk {i L p e m row rows r} : RP t i L p e ((row :: rows) :: r) → t[e]? = some m → isMark m → RS t i L (e + 1) (((row ++ [marked p m]) :: rows) :: r)
inductive RR (t : List Nat) : Nat → Lvls → Nat → Lvls → Prop
  | nil {i L} : RR t i L i L
  | step {i L j L' k L''} : RS t i L j L' → RR t j L' k L'' → RR t i L k L''
theorem RR.snoc {t i L j L' k L''} (h : RR t i L j L') (s : RS t j L' k L'') : RR t i L k L'' := by
  induction h with
  | nil => exact .step s .nil
  | step a _ ih => exact .step a (ih s)

theorem isg_lt {t i c j} (h : isg t i = some (c, j)) : i < j ∧ j ≤ t.length := by
  unfold isg at h
  split at h
  · cases h
  · rename_i c' e
    have hi : i < t.length := (List.getElem?_eq_some_iff.mp e).1
    split at h
    · cases h
    · split at h
      · cases h; omega
      · split at h
        · cases h
        · rename_i d e2
          have hi2 : i + 1 < t.length := (List.getElem?_eq_some_iff.mp e2).1
          split at h
          · cases h; omega
          · cases h
theorem itm_lt {t i p j} (h : itm t i = some (p, j)) : i < j ∧ j ≤ t.length := by
  unfold itm at h
  split at h
  · cases h
  · rename_i l k e
    have h1 := isg_lt e
    split at h
    · cases h; exact h1
    · split at h
      · cases h
      · rename_i hh k2 e2
        have h2 := isg_lt e2
        split at h
        · cases h
        · cases h; omega
theorem Items.lt {t i ps j} (h : Items t i ps j) : i < j ∧ j < t.length ∧ t[j]? = some 93 := by
  induction h with
  | one a b => exact ⟨(itm_lt a).1, (List.getElem?_eq_some_iff.mp b).1, b⟩
  | more a _ _ ih => have := itm_lt a; exact ⟨by omega, ih.2.1, ih.2.2⟩
theorem RP.lt {t i L p e L'} (h : RP t i L p e L') : i < e ∧ e ≤ t.length := by
  cases h with
  | close a => have := (List.getElem?_eq_some_iff.mp a).1; omega
  | items a b => have := b.lt; omega
  | esc a b => have := (List.getElem?_eq_some_iff.mp b).1; omega
  | plain a _ => have := (List.getElem?_eq_some_iff.mp a).1; omega
theorem RS.lt {t i L j L'} (h : RS t i L j L') : i < j ∧ j ≤ t.length := by
  cases h with
  | opn a => have := (List.getElem?_eq_some_iff.mp a).1; omega
  | bar a => have := (List.getElem?_eq_some_iff.mp a).1; omega
  | pce a _ => exact a.lt
  | mrk a b _ => have := a.lt; have := (List.getElem?_eq_some_iff.mp b).1; omega

/-! ### writing -/
def esc1 (c : Nat) : List Nat := if c = 93 ∨ c = 45 ∨ c = 126 then [126, c] else [c]
/-- the written items -/
inductive WI : List Nat → Pat → Prop
  | one (c) : WI (esc1 c) (.sg c c)
  | two (l h) : l ≤ h → WI (esc1 l ++ 45 :: esc1 h) (.sg l h)
inductive WIs : List Nat → List Pat → Prop
  | nil : WIs [] []
  | snoc {b ps x p} : WIs b ps → WI x p → WIs (b ++ x) (ps ++ [p])

theorem at_app (pre x : List Nat) (k : Nat) : (pre ++ x)[pre.length + k]? = x[k]? := by
  rw [List.getElem?_append_right (by omega)]
  congr 1
  omega
theorem at_app0 (pre x : List Nat) : (pre ++ x)[pre.length]? = x[0]? := at_app pre x 0

theorem isg_esc (pre s : List Nat) (c : Nat) : isg (pre ++ (esc1 c ++ s)) pre.length = some (c, pre.length + (esc1 c).length) := by
  unfold isg
  rw [at_app0]
  unfold esc1
  by_cases h : c = 93 ∨ c = 45 ∨ c = 126
  · rw [if_pos h]
    simp only [List.cons_append, List.nil_append, List.getElem?_cons_zero]
    rw [if_neg (by decide), if_neg (by decide), at_app]
    simp only [List.getElem?_cons_succ, List.getElem?_cons_zero]
    rw [if_pos h]
    rfl
  · rw [if_neg h]
    simp only [List.cons_append, List.nil_append, List.getElem?_cons_zero]
    rw [if_neg (by omega), if_pos (by omega)]
    rfl
theorem esc1_len (c : Nat) : 1 ≤ (esc1 c).length ∧ (esc1 c).length ≤ 2 := by
  unfold esc1; split <;> simp
theorem esc1_head (c : Nat) (s : List Nat) : ∃ d, (esc1 c ++ s)[0]? = some d ∧ d ≠ 93 ∧ d ≠ 45 := by
  unfold esc1
  by_cases h : c = 93 ∨ c = 45 ∨ c = 126
  · rw [if_pos h]; exact ⟨126, rfl, by decide, by decide⟩
  · rw [if_neg h]; exact ⟨c, rfl, by omega, by omega⟩
theorem WI.len {x p} (h : WI x p) : 1 ≤ x.length ∧ x.length ≤ 5 := by
  cases h with
  | one c => have := esc1_len c; omega
  | two l h _ => have := esc1_len l; have := esc1_len h; simp only [List.length_append, List.length_cons]; omega
theorem WI.head {x p} (h : WI x p) (s : List Nat) : ∃ d, (x ++ s)[0]? = some d ∧ d ≠ 93 ∧ d ≠ 45 := by
  cases h with
  | one c => exact esc1_head c s
  | two l h _ => rw [List.append_assoc]; exact esc1_head l _
theorem WI.itm {x p} (h : WI x p) (pre s : List Nat) (hs : s[0]? ≠ some 45) : itm (pre ++ (x ++ s)) pre.length = some (p, pre.length + x.length) := by
  cases h with
  | one c =>
    unfold P4.itm
    rw [isg_esc]
    have e : (pre ++ (esc1 c ++ s))[pre.length + (esc1 c).length]? = s[0]? := by rw [at_app]; exact at_app0 _ _
    simp only [e]
    rw [if_pos hs]
  | two l h hl =>
    unfold P4.itm
    have e0 : pre ++ ((esc1 l ++ 45 :: esc1 h) ++ s) = pre ++ (esc1 l ++ (45 :: (esc1 h ++ s))) := by simp
    rw [e0, isg_esc]
    have e : (pre ++ (esc1 l ++ (45 :: (esc1 h ++ s))))[pre.length + (esc1 l).length]? = some 45 := by rw [at_app, at_app0]; rfl
    simp only [e]
    rw [if_neg (by simp)]
    have e1 : pre ++ (esc1 l ++ (45 :: (esc1 h ++ s))) = (pre ++ (esc1 l ++ [45])) ++ (esc1 h ++ s) := by simp
    have e2 : pre.length + (esc1 l).length + 1 = (pre ++ (esc1 l ++ [45])).length := by simp; omega
    rw [e1, e2, isg_esc]
    simp only []
    rw [if_neg (by omega)]
    simp
    omega
theorem WIs.len {b ps} (h : WIs b ps) : b.length ≤ 5 * ps.length ∧ ps.length ≤ b.length := by
  induction h with
  | nil => simp
  | snoc a c ih => have := c.len; simp; omega
theorem WIs.items {b ps} (h : WIs b ps) : ∀ (pre s : List Nat) (qs : List Pat) (j : Nat), s[0]? ≠ some 45 →
    ((qs = [] ∧ j = pre.length + b.length ∧ s[0]? = some 93 ∧ ps ≠ []) ∨ (Items (pre ++ (b ++ s)) (pre.length + b.length) qs j ∧ s[0]? ≠ some 93)) → Items (pre ++ (b ++ s)) pre.length (ps ++ qs) j := by
  induction h with
  | nil =>
    intro pre s qs j _ h
    rcases h with ⟨_, _, _, h⟩ | ⟨h, _⟩
    · exact absurd rfl h
    · simpa using h
  | @snoc b ps x p a c ih =>
    intro pre s qs j hs h
    have e1 : pre ++ ((b ++ x) ++ s) = pre ++ (b ++ (x ++ s)) := by simp
    have e2 : pre ++ (b ++ (x ++ s)) = (pre ++ b) ++ (x ++ s) := by simp
    have hh := c.head s
    have hi := c.itm (pre ++ b) s hs
    rw [← e2, List.length_append] at hi
    have one : Items (pre ++ (b ++ (x ++ s))) (pre.length + b.length) (p :: qs) j := by
      have ek : (pre ++ (b ++ (x ++ s)))[pre.length + b.length + x.length]? = s[0]? := by
        rw [e2, show pre.length + b.length + x.length = (pre ++ b).length + x.length by simp, at_app, at_app0]
      rcases h with ⟨hq, hj, h93, _⟩ | ⟨h, hn⟩
      · subst hq
        have hj' : j = pre.length + b.length + x.length := by rw [hj]; simp; omega
        rw [hj']
        exact .one hi (by rw [ek]; exact h93)
      · have h' : Items (pre ++ (b ++ (x ++ s))) (pre.length + b.length + x.length) qs j := by
          rw [e1, show pre.length + (b ++ x).length = pre.length + b.length + x.length by simp; omega] at h
          exact h
        exact .more hi (by rw [ek]; exact hn) h'
    rw [e1, List.append_assoc]
    obtain ⟨d, hd, d1, d2⟩ := hh
    exact ih pre (x ++ s) (p :: qs) j (by rw [hd]; intro z; cases z; exact d2 rfl) (.inr ⟨one, by rw [hd]; intro z; cases z; exact d1 rfl⟩)
/-- the whole of it -/
theorem WIs.read {b ps} (h : WIs b ps) (hne : ps ≠ []) (pre s : List Nat) : Items (pre ++ (91 :: (b ++ 93 :: s))) (pre.length + 1) ps (pre.length + 1 + b.length) := by
  have := h.items (pre ++ [91]) (93 :: s) [] (pre.length + 1 + b.length) (by simp) (.inl ⟨rfl, by simp, rfl, hne⟩)
  simpa using this

/-! ### what the writer keeps -/
abbrev init : Lvls := [[[]]]
def HA (x : List Nat) (L : Lvls) : Prop := ∀ s, RR (x ++ s) 0 init x.length L
def HB (x : List Nat) (L : Lvls) : Prop := ∃ i L0 p row rows r, L = ((row ++ [p]) :: rows) :: r ∧ (∀ s, RR (x ++ s) 0 init i L0) ∧ ∀ s, RP (x ++ s) i L0 p x.length ((row :: rows) :: r)
def HW (x : List Nat) (L : Lvls) (free : Bool) : Prop := if free = true then HB x L else HA x L
def NoMark (s : List Nat) : Prop := ∀ m, s[0]? = some m → ¬ isMark m
theorem HW.go {x L f} (h : HW x L f) (s : List Nat) (hs : NoMark s) : RR (x ++ s) 0 init x.length L := by
  unfold HW at h
  cases f with
  | false => exact h s
  | true =>
    rw [if_pos rfl] at h
    obtain ⟨i, L0, p, row, rows, r, rfl, h1, h2⟩ := h
    exact (h1 s).snoc (.pce (h2 s) fun m e => hs m (by rw [at_app0] at e; exact e))
theorem NoMark.cons {c : Nat} {s : List Nat} (h : ¬ isMark c) : NoMark (c :: s) := fun m e => by
  have e' : c = m := Option.some.inj e
  subst e'; exact h
theorem init_ok : HW [] init false := by
  show HA [] init
  intro s; exact .nil
theorem HW.fin {x L f} (h : HW x L f) : RR x 0 init x.length L := by
  have := h.go [] (fun m e => by cases e)
  simpa using this
theorem app1 (x s : List Nat) (c : Nat) : (x ++ [c]) ++ s = x ++ (c :: s) := by simp
theorem HW.bar {x lv r f} (h : HW x (lv :: r) f) : HW (x ++ [124]) (([] :: lv) :: r) false := by
  show HA _ _
  intro s
  rw [app1]
  have := (h.go (124 :: s) (.cons (by decide))).snoc (.bar (by rw [at_app0]; rfl))
  simpa using this
theorem HW.opn {x L f} (h : HW x L f) : HW (x ++ [40]) ([[]] :: L) false := by
  show HA _ _
  intro s
  rw [app1]
  have := (h.go (40 :: s) (.cons (by decide))).snoc (.opn (by rw [at_app0]; rfl))
  simpa using this
theorem HW.mark {x row p rows r m} (h : HW x (((row ++ [p]) :: rows) :: r) true) (hm : isMark m) : HW (x ++ [m]) (((row ++ [marked p m]) :: rows) :: r) false := by
  show HA _ _
  intro s
  rw [app1]
  obtain ⟨i, L0, p', row', rows', r', e, h1, h2⟩ := (show HB _ _ from h)
  injection e with e1 e2
  injection e1 with e3 e4
  subst e2 e4
  have e5 := List.append_inj' e3 rfl
  obtain ⟨e6, e7⟩ := e5
  subst e6
  cases e7
  have := (h1 (m :: s)).snoc (.mrk (h2 (m :: s)) (by rw [at_app0]; rfl) hm)
  simpa using this
theorem HW.piece {x L f y p row rows r} (h : HW x L f) (hy : ∀ s, NoMark (y ++ s)) (hp : ∀ s, RP (x ++ (y ++ s)) x.length L p (x.length + y.length) ((row :: rows) :: r)) : HW (x ++ y) (((row ++ [p]) :: rows) :: r) true := by
  show HB _ _
  refine ⟨x.length, L, p, row, rows, r, rfl, fun s => ?_, fun s => ?_⟩
  · rw [List.append_assoc]; exact h.go _ (hy s)
  · rw [List.append_assoc, List.length_append]; exact hp s
theorem HW.close {x lv row rows r f} (h : HW x (lv :: (row :: rows) :: r) f) : HW (x ++ [41]) (((row ++ [rowsPat lv.reverse]) :: rows) :: r) true :=
  h.piece (y := [41]) (fun s => .cons (by decide)) fun s => .close (by rw [at_app0]; rfl)
theorem HW.sesc {x row rows r f} (c : Nat) (h : HW x ((row :: rows) :: r) f) : HW (x ++ [126, c]) (((row ++ [.sg c c]) :: rows) :: r) true :=
  h.piece (y := [126, c]) (fun s => .cons (by decide)) fun s => .esc (by rw [at_app0]; rfl) (by rw [at_app]; rfl)
theorem HW.sign {x row rows r f} {c : Nat} (h : HW x ((row :: rows) :: r) f) (hc : ¬ special c) : HW (x ++ [c]) (((row ++ [.sg c c]) :: rows) :: r) true :=
  h.piece (y := [c]) (fun s => .cons (by unfold special at hc; unfold isMark; omega)) fun s => .plain (by rw [at_app0]; rfl) hc
theorem HW.items {x row rows r f b ps} (h : HW x ((row :: rows) :: r) f) (w : WIs b ps) (hne : ps ≠ []) : HW (x ++ (91 :: (b ++ [93]))) (((row ++ [nest .alt ps]) :: rows) :: r) true := by
  refine h.piece (y := 91 :: (b ++ [93])) (fun s => .cons (by decide)) fun s => ?_
  have e : (91 :: (b ++ [93])) ++ s = 91 :: (b ++ 93 :: s) := by simp
  have el : x.length + (91 :: (b ++ [93])).length = x.length + 1 + b.length + 1 := by simp; omega
  rw [e, el]
  exact .items (by rw [at_app0]; rfl) (w.read hne x s)

/-! ### sizes -/
def wr (row : Row) : Nat := 2 + (row.map fun p => depth p + 1).sum
def wl (lv : Lvl) : Nat := (lv.map wr).sum
def wt (L : Lvls) : Nat := (L.map wl).sum
theorem depth_pos (p : Pat) : 1 ≤ depth p := by cases p <;> simp [depth] <;> omega
theorem depth_nest (f : Pat → Pat → Pat) (hf : ∀ a b, depth (f a b) = 1 + max (depth a) (depth b)) : ∀ l : List Pat, depth (nest f l) ≤ 1 + (l.map fun p => depth p + 1).sum
  | [] => by simp [nest, depth]
  | [p] => by simp [nest]; omega
  | p :: q :: r => by
    have := depth_nest f hf (q :: r)
    simp only [nest, hf, List.map_cons, List.sum_cons] at this ⊢
    omega
theorem depth_row (row : Row) : depth (rowPat row) + 1 ≤ wr row := by
  unfold rowPat wr
  split
  · simp [depth]
  · have := depth_nest .thn (fun _ _ => rfl) row
    omega
theorem sum_rows : ∀ rows : List Row, ((rows.map rowPat).map fun p => depth p + 1).sum ≤ (rows.map wr).sum
  | [] => by simp
  | r :: rows => by
    have := sum_rows rows
    have := depth_row r
    simp only [List.map_cons, List.sum_cons] at *
    omega
theorem depth_rows (lv : Lvl) : depth (rowsPat lv.reverse) ≤ 1 + wl lv := by
  unfold rowsPat
  have h1 := depth_nest .alt (fun _ _ => rfl) (lv.reverse.map rowPat)
  have h2 := sum_rows lv.reverse
  have h3 : (lv.reverse.map wr).sum = wl lv := by unfold wl; rw [List.map_reverse, List.sum_reverse]
  omega
theorem wr_snoc (row : Row) (p : Pat) : wr (row ++ [p]) = wr row + depth p + 1 := by
  unfold wr; simp; omega
theorem wr_nil : wr [] = 2 := rfl
theorem wl_cons (row : Row) (lv : Lvl) : wl (row :: lv) = wr row + wl lv := rfl
theorem wt_cons (lv : Lvl) (L : Lvls) : wt (lv :: L) = wl lv + wt L := rfl
theorem len_row (row : Row) : row.length ≤ wr row := by
  induction row with
  | nil => simp
  | cons p r ih => unfold wr at *; simp at *; omega
theorem len_lvl (lv : Lvl) : lv.length ≤ wl lv := by
  induction lv with
  | nil => simp
  | cons p r ih => rw [wl_cons, List.length_cons]; have : 2 ≤ wr p := by unfold wr; omega
                   omega
theorem len_lvls (L : Lvls) (h : ∀ lv ∈ L, lv ≠ []) : L.length ≤ wt L := by
  induction L with
  | nil => simp
  | cons p r ih =>
    rw [wt_cons, List.length_cons]
    have h1 := ih fun lv hl => h lv (List.mem_cons_of_mem _ hl)
    have h2 : 1 ≤ p.length := by
      have := h p List.mem_cons_self
      cases p with
      | nil => exact absurd rfl this
      | cons _ _ => simp
    have := len_lvl p
    omega
theorem depth_marked (p : Pat) (m : Nat) : depth (marked p m) ≤ depth p + 2 := by
  unfold marked
  have := depth_pos p
  split
  · simp [depth]; omega
  · split <;> simp [depth] <;> omega
theorem WIs.depth {b ps} (h : WIs b ps) : ∀ p ∈ ps, P4.depth p = 1 := by
  induction h with
  | nil => simp
  | snoc a c ih =>
    intro p hp
    rcases List.mem_append.mp hp with hp | hp
    · exact ih p hp
    · rw [List.mem_singleton] at hp; subst hp; cases c <;> rfl
theorem WIs.deep {b ps} (h : WIs b ps) : P4.depth (nest .alt ps) ≤ 1 + 2 * ps.length := by
  have h1 := depth_nest .alt (fun _ _ => rfl) ps
  have h2 : ∀ l : List Pat, (∀ p ∈ l, P4.depth p = 1) → (l.map fun p => P4.depth p + 1).sum = 2 * l.length := by
    intro l
    induction l with
    | nil => simp
    | cons p r ih => intro hl; simp only [List.map_cons, List.sum_cons, List.length_cons]; rw [ih fun q hq => hl q (List.mem_cons_of_mem _ hq), hl p List.mem_cons_self]; omega
  rw [h2 ps h.depth] at h1
  exact h1
end P4

set_option Elab.async false
set_option linter.all false
set_option maxRecDepth 100000
set_option maxHeartbeats 4000000
namespace L2
open PySem PySem.Spec PyProof.Rows

/-! ### a comprehension: its block's context -/
def cxC (X : Cx) (scope : Scope) (C : Addr) (s1 : Shared) (H1 : Hp) (N : List Str) (fp : List Addr) : Cx :=
  { X with N := N, s₀ := s1, H₀ := H1, env := compEnvC scope [] C X.env, outer := X.stack, stack := X.stack, ex := fp, fn := fun _ => false, pn := [], xe := fun _ _ => False }

theorem relabel_names {scope : Scope} {env : Env} (h : ∀ y ∈ scope.names, y.2 ≠ .free) : (relabel scope env).names = scope.names := by
  unfold relabel
  exact map_eq_self fun x hx => by
    obtain ⟨n, k⟩ := x
    have e : (k == NameKind.free) = false := by simpa using h _ hx
    simp [e]

theorem inv_comp {X : Cx} {pins : List (Addr × Obj)} {σ : St} {H : Hp} {s1 s4 : Shared} {scope : Scope} {x : Str} {fp : List Addr} {C : Addr} {m : Str → Option Value}
    (I : Inv X pins σ H s1) (hf : ∀ b ∈ fp, FpOk X pins H b) (hfl : ∀ b ∈ fp, b < s1.heap.objs.size) (hkind : scope.kind = .function) (hfree : ∀ y ∈ scope.names, y.2 ≠ .free) (hcell : ∀ y ∈ scope.names, y.2 ≠ .cell)
    (hC : s1.heap.objs.size < C) (ho : s4.os = s1.os) (hg : s4.gens = s1.gens) (old : ∀ b o, s1.heap.get? b = some o → s4.heap.get? b = some o) (hn : s4.heap.Ns C m)
    (hD : s4.heap.get? s1.heap.objs.size = some { cls := .type "list", data := .seq ([] : List Value).toArray 0 }) :
    Inv (cxC X scope C s1 H [x] fp) [] [none] (upd H s1.heap.objs.size (.lst [])) s4 := by
  have nocell : ∀ y, (cxC X scope C s1 H [x] fp).env.kindOf y = some .cell ∨ (cxC X scope C s1 H [x] fp).env.kindOf y = some .free → False := fun y hy => by
    have e : (cxC X scope C s1 H [x] fp).env.kindOf y = scope.names.lookup y := by
      show (relabel scope X.env).names.lookup y = _
      rw [relabel_names hfree]
    rw [e] at hy
    rcases hy with hy | hy
    · exact hcell _ (PySem.mem_of_lookup hy) rfl
    · exact hfree _ (PySem.mem_of_lookup hy) rfl
  have nolk : ∀ (y : Str) (c : Addr), (cxC X scope C s1 H [x] fp).env.cells.lookup y = some c → False := fun y c h => by
    have h' : ([] : List (Str × Addr)).lookup y = some c := h
    simp at h'
  refine ⟨⟨I.ok.mod, hkind, I.ok.glob, I.ok.blt, Nat.le_of_lt hC, fun y z c h1 _ => (nolk y c h1).elim, fun y hy => (nocell y hy).elim, fun y c h _ => absurd (show false = true from h) Bool.false_ne_true, I.ok.hd, I.ok.frames, .inl rfl,
      fun b hb => ⟨Nat.ne_of_lt (Nat.lt_trans (hfl b hb) hC), fun y c h => (nolk y c h).elim⟩, I.bs, Nat.le_trans I.ok.bsz I.sz, fun b o e hb => ?_, fun b hb => ?_, I.stack, I.stkFree⟩,
    ho, ?_, Un.laid old (Nat.le_refl _) I.fresh, ⟨m, hn, fun i y v _ e2 _ => ?_⟩, fun y c h => (nolk y c h).elim, ?_, fun y c h => (nolk y c h).elim, fun p hp => absurd (show p ∈ ([] : List (Addr × Obj)) from hp) (by simp), I.hok.laid old (Nat.le_refl _) ?_, rfl⟩
  · obtain ⟨_, _, _, h4, _⟩ := hf b hb
    rcases h4 with h4 | h4
    · exact I.ok.noex b o e h4
    · exact absurd (Nat.lt_of_lt_of_le (Heap.lt_size (I.ok.bs b o e).1) h4) (Nat.lt_irrefl _)
  · intro hb'
    obtain ⟨_, h2, h3, _⟩ := hf b hb
    rcases List.mem_cons.mp (I.stkSub b hb') with z | z
    · exact h2 z
    · exact h3 z
  · rw [hg]; exact I.bare
  · have e2' : ([none] : St)[i]? = some (some v) := e2
    cases i with
    | zero => simp at e2'
    | succ i => simp at e2'
  · show upd H s1.heap.objs.size (.lst []) C = none
    rw [upd_ne (Nat.ne_of_gt hC)]
    exact I.hok.fresh (Nat.le_of_lt hC)
  · exact ⟨by show 0 ≤ sizeLine; decide, [], 0, .nil, hD⟩

/-- the tests of a clause -/
def PIfs (X : Cx) (ifs : List Expr) (t : TT) : Prop :=
  ∀ (pins : List (Addr × Obj)) (s : Shared) (σ : St) (H : Hp) (Q : Bool → Hp → Prop), Inv X pins σ H s → t σ H Q →
    wpAny (model X.prog X.w) X.A (forIn ifs true fun c r => if r = true then do let ok ← isTrue c X.env (eval c X.env); pure (ForInStep.yield ok) else pure (ForInStep.yield r)) (TP X pins σ Q) X.xe s
def tTrue : TT := fun _ H Q => Q true H
theorem pif_nil {X : Cx} : PIfs X [] tTrue := fun _ _ _ H _ I h => wpAny_tests_nil ⟨H, I, h⟩
theorem pif_one {X : Cx} {c : Expr} {t : TT} (h : PT X c t) : PIfs X [c] t := fun pins s σ H Q I hw => wpAny_tests_one (h pins s σ H Q I hw)

/-- a list comprehension of one clause over a name: D is the list that grows -/
def tComp (wi : TI) (tif : TT) (te : TE) : TE := fun σ H Q => wi σ H fun J H1 => ∀ D, H1 D = none → ∃ W : Nat → Nat → List V → Hp → Prop, (∃ m, W 0 m [] (upd H1 D (.lst []))) ∧
  ∀ i m ys H, W i m ys H → (J.stop i H ∧ Q (.ref D) H) ∨ (J.go i H ∧ ∃ m', m' < m ∧ ∀ x H', J.yld i H x H' → tif [some x] H' fun b H2 =>
    if b = true then te [some x] H2 fun y H3 => H3 D = some (.lst ys) ∧ ys.length < sizeLine ∧ W (i + 1) m' (ys ++ [y]) (upd H3 D (.lst (ys ++ [y]))) else W (i + 1) m' ys H2)

theorem compLoop_go {prog : Program} {w : World} {A : Around} {R : Result → Shared → Prop} {s : Shared} {elt target iter : Expr} {ifs : List Expr} {scope : Scope} {pos : Pos} {it acc : Value} {env : Env} (I : Nat → Shared → Prop)
    (turn : ∀ n s, I n s → wpAny (model prog w) A (pyNext it) (fun r s₁ => match r with
      | none => R (.ok .next) s₁
      | some v => wpAny (model prog w) A (letOwnedTupleGo target it v) (fun _ s₁ => wpAny (model prog w) A (assign target env v) (fun _ s₂ =>
          wpAny (model prog w) A (forIn ifs true fun c r => if r = true then do let ok ← isTrue c env (eval c env); pure (ForInStep.yield ok) else pure (ForInStep.yield r)) (fun ok s₃ =>
            if ok = true then wpAny (model prog w) A (eval elt env) (fun x s₄ =>
              wpAny (model prog w) A (call (.builtin "list.append") [acc, x]) (fun _ s₅ => ∃ m, m < n ∧ I m s₅) (fun _ _ => False) s₄) (fun _ _ => False) s₃
            else ∃ m, m < n ∧ I m s₃) (fun _ _ => False) s₂) (fun _ _ => False) s₁) (fun _ _ => False) s₁) (fun _ _ => False) s)
    (n : Nat) (h : I n s) :
    codeAny (model prog w) A (.compLoop (.ListComp elt [⟨target, iter, ifs, 0⟩] scope pos) 0 it acc env) R s := by
  refine codeAny_loop rfl I (fun n s hI => ?_) n h
  show wpAny _ A ((compTurn (.ListComp elt [⟨target, iter, ifs, 0⟩] scope pos) 0 it acc env).onRaise (fun x => do noteFrame x env; theTreesLotGoes x)) _ _ s
  refine wpAny_noted ?_
  rw [compTurn_list]
  refine wpAny_bind (wpAny_standAt (wpAny_bind (wpAny_mono (turn n s hI) (fun r s₁ h₁ => ?_) fun _ _ h' => h'.elim)))
  cases r with
  | none => exact wpAny_pure h₁
  | some v =>
    refine wpAny_bind (wpAny_mono h₁ (fun _ s₂ h₂ => ?_) fun _ _ h' => h'.elim)
    refine wpAny_bind (wpAny_mono h₂ (fun _ s₂ h₂ => wpAny_bind (wpAny_mono h₂ (fun ok s₃ h₃ => ?_) fun _ _ h' => h'.elim)) fun _ _ h' => h'.elim)
    cases ok with
    | false => exact wpAny_pure ⟨rfl, h₃⟩
    | true =>
      exact wpAny_bind (wpAny_bind (wpAny_mono h₃ (fun x s₄ h₄ => wpAny_bind (wpAny_mono h₄ (fun _ s₅ h₅ => wpAny_pure (wpAny_pure ⟨rfl, h₅⟩)) fun _ _ h' => h'.elim)) fun _ _ h' => h'.elim))

theorem pe_comp {X : Cx} {elt iter : Expr} {x : Str} {px : Pos} {ifs : List Expr} {scope : Scope} {pos : Pos} {wi : TI} {tif : TT} {te : TE} (hc : X.calm = true) (hi : PI X (.Name x px) iter wi)
    (hfree : ∀ y ∈ scope.names, y.2 ≠ .free) (hcell : ∀ y ∈ scope.names, y.2 ≠ .cell) (hkind : scope.kind = .function)
    (hnames : ∀ y ∈ scope.names, y.2 = .local → scope.names.lookup y.1 = some .local) (hx : scope.names.lookup x = some .local)
    (hif : ∀ C s1 H1 fp, PIfs (cxC X scope C s1 H1 [x] fp) ifs tif) (he : ∀ C s1 H1 fp, PE (cxC X scope C s1 H1 [x] fp) elt te)
    (hs : ∀ x, foldedSetIterable iter X.env x = pure x := by intro _; rfl) :
    PE X (.ListComp elt [⟨.Name x px, iter, ifs, 0⟩] scope pos) (tComp wi tif te) := by
  intro pins s σ H Q I h
  rw [eval_ListComp]
  refine wpAny_comprehension_free (use := none) rfl hs (closureFor_none hfree) hkind hnames (thn (hi pins s σ H _ I h) fun v s1 h1 => thn h1 fun itv s2 h2 => ?_)
  obtain ⟨it, fp, tn, J, H2, e, I2, T, st2, f2, h2⟩ := h2
  subst e
  obtain ⟨W, ⟨m0, w0⟩, turn⟩ := h2 s2.heap.objs.size I2.fresh
  have hfl : ∀ b ∈ fp, b < s2.heap.objs.size := fun b hb => by obtain ⟨o, e, _⟩ := T.obj _ _ st2 b hb; exact Heap.lt_size e
  refine wpAny_newObj_type (wpAny_newFunctionEnv hcell (by intro y hy; simp at hy) (fun h₁ hns₁ hsb₁ => ?_) hkind)
  dsimp only at hns₁ hsb₁ ⊢
  generalize hH2 : s2.heap.push { cls := .type "list", dict := none, data := .seq ([] : List Value).toArray } = G2 at hns₁ hsb₁ ⊢
  have hCs : G2.objs.size = s2.heap.objs.size + 1 := by rw [← hH2, Heap.size_push]
  have hDC : s2.heap.objs.size ≠ G2.objs.size := by rw [hCs]; exact Nat.ne_of_lt (Nat.lt_succ_self _)
  have old : ∀ b o, s2.heap.get? b = some o → h₁.get? b = some o := fun b o e =>
    hsb₁.extBut b o (by rw [hCs]; exact Nat.ne_of_lt (Nat.lt_succ_of_lt (Heap.lt_size e))) (Heap.get?_push_of_some _ (hH2 ▸ Heap.get?_push_of_some _ e))
  have hacc : h₁.get? s2.heap.objs.size = some { cls := .type "list", data := .seq ([] : List Value).toArray 0 } := hsb₁.extBut _ _ hDC (Heap.get?_push_of_some _ (hH2 ▸ Heap.get?_push_size _ rfl))
  have I4 : Inv (cxC X scope G2.objs.size s2 H2 [x] fp) [] [none] (upd H2 s2.heap.objs.size (.lst [])) { s2 with heap := h₁, toks := s2.toks + ([] : List (Str × Value)).length } :=
    inv_comp I2 f2 hfl hkind hfree hcell (by rw [hCs]; exact Nat.lt_succ_self _) rfl rfl old hns₁ hacc
  have st4 : tn 0 h₁ := T.keep _ _ _ st2 fun b _ o e => old b o e
  have stat : ∀ {H' : Hp} {pins' : List (Addr × Obj)}, (∀ b ∈ fp, H' b = none) → (∀ p ∈ pins', p.1 ∉ fp) → ∀ b ∈ fp, FpOk (cxC X scope G2.objs.size s2 H2 [x] fp) pins' H' b := fun {H' pins'} hn hp b hb =>
    ⟨hn b hb, (I4.ok.exf b hb).1, I4.ok.exfs b hb, .inl hb, (I4.ok.exf b hb).2, fun p hp' => by
      have hp2 : p ∈ ([] : List (Addr × Obj)) ++ pins' := hp'
      rw [List.nil_append] at hp2
      intro z; exact hp p hp2 (by rw [z]; exact hb)⟩
  -- the end of the block
  have fin : ∀ {s' : Shared} {σ' : St} {H' : Hp}, Inv (cxC X scope G2.objs.size s2 H2 [x] fp) [] σ' H' s' → Q (.ref s2.heap.objs.size) H' →
      compPost (model X.prog X.w) X.A X.xe none (EP X pins σ Q) (.ref s2.heap.objs.size) G2.objs.size (.ok .next) s' := fun {s' σ' H'} J' q => by
    obtain ⟨m', hn', _⟩ := J'.loc
    refine ⟨m', hn', fun h' hs' => ?_⟩
    have u : Un (frs X.stack) fp H2 H' s2.heap s'.heap := J'.base
    have nC : ∀ b o, s2.heap.get? b = some o → b ≠ G2.objs.size := fun b o e => by rw [hCs]; exact Nat.ne_of_lt (Nat.lt_succ_of_lt (Heap.lt_size e))
    have u' : Un (frs X.stack) fp H2 H' s2.heap h' := ⟨fun b o e n hb hx => (hs'.2 b (nC b o e)).trans (u.keep b o e n hb hx), fun b o e n hb hx => by
        obtain ⟨sl, z⟩ := u.slot b o e n hb hx
        exact ⟨sl, (hs'.2 b (nC b o e)).trans z⟩, u.free, fun b o e hx => by
        obtain ⟨o', z⟩ := u.there b o e hx
        exact ⟨o', (hs'.2 b (nC b o e)).trans z⟩, u.tups, u.frzs, u.tbls⟩
    have hok : HOk X.prog X.w H' h' := fun b ob e => by
      refine (J'.hok b ob e).stay (fun c w' hc' q' => (hs'.2 c ?_).trans q') (fun _ q => q) fun _ _ q => q
      intro z
      have fr : H' G2.objs.size = none := J'.free
      rcases hc' with z' | z'
      · rw [← z'] at e; rw [z, fr] at e; cases e
      · rw [z, fr] at z'; cases z'
    have I5 : Inv X pins σ H' { s' with heap := h' } := I2.call' (s' := { s' with heap := h' }) J'.os u' hok J'.bare fun b hb => by
      obtain ⟨_, f1, _, f3, f4, f5⟩ := f2 b hb
      exact ⟨f3, f1, f4, f5⟩
    exact ⟨.ref s2.heap.objs.size, H', I5, rfl, q⟩
  have loop : ∀ s₃ : Shared, s₃ = { s2 with heap := h₁, toks := s2.toks + ([] : List (Str × Value)).length } →
      codeAny (model X.prog X.w) X.A (.compLoop (.ListComp elt [⟨.Name x px, iter, ifs, 0⟩] scope pos) 0 (.ref it) (.ref s2.heap.objs.size) (compEnvC scope [] G2.objs.size X.env))
        (compPost (model X.prog X.w) X.A X.xe none (EP X pins σ Q) (.ref s2.heap.objs.size) G2.objs.size) s₃ := by
    rintro s₃ rfl
    refine compLoop_go (fun n s' => ∃ i ys y H', Inv (cxC X scope G2.objs.size s2 H2 [x] fp) [] [y] H' s' ∧ tn i s'.heap ∧ (∀ b ∈ fp, H' b = none) ∧ W i n ys H') ?_ m0
      ⟨0, [], none, _, I4, st4, fun b hb => by rw [upd_ne (Nat.ne_of_lt (hfl b hb))]; exact (f2 b hb).1, w0⟩
    rintro n s' ⟨i, ys, y0, H', J', st', fr', w'⟩
    rcases turn i n ys H' w' with ⟨stop, q⟩ | ⟨go, m', hm, step⟩
    · refine wpAny_mono (T.done (cxC X scope G2.objs.size s2 H2 [x] fp) rfl rfl rfl hc i [] s' _ H' (fun _ _ => False) J' (stat fr' (by simp)) st' stop) (fun r s4 ⟨hr, J4⟩ => ?_) fun _ _ z => z
      subst hr
      exact fin J4 q
    · refine wpAny_mono (T.item (cxC X scope G2.objs.size s2 H2 [x] fp) rfl rfl rfl hc i [] s' _ H' (fun _ _ => False) J' (stat fr' (by simp)) st' go) (fun r s4 ⟨u, hr, h4⟩ => ?_) fun _ _ z => z
      subst hr
      refine wpAny_mono h4 (fun _ s5 ⟨xv, H5, J5, r5, y5, st5, fr5⟩ => ?_) fun _ _ z => z
      have J5' := J5.pinned (stat fr5 (by simp)) (T.obj _ _ st5)
      have back : ∀ {s7 : Shared} {σ7 : St} {H7 : Hp}, Inv (cxC X scope G2.objs.size s2 H2 [x] fp) ([] ++ pinsAt fp s5.heap) σ7 H7 s7 → Inv (cxC X scope G2.objs.size s2 H2 [x] fp) [] σ7 H7 s7 ∧ tn (i + 1) s7.heap ∧ ∀ b ∈ fp, H7 b = none := fun {s7 σ7 H7} J7 => by
        refine ⟨J7.unpinned, T.keep _ _ _ st5 fun b hb o e => (J7.pin (b, o) (List.mem_append_right _ (List.mem_append_right _ (mem_pinsAt hb e)))).1, fun b hb => ?_⟩
        obtain ⟨o, e, d⟩ := T.obj _ _ st5 b hb
        exact (J7.pin (b, o) (List.mem_append_right _ (List.mem_append_right _ (mem_pinsAt hb e)))).2.1
      have hloc : (cxC X scope G2.objs.size s2 H2 [x] fp).env.scope.names.lookup x = some .local := by
        show (relabel scope X.env).names.lookup x = _
        rw [relabel_names hfree]; exact hx
      show wpAny _ _ (assign (.Name x px) (cxC X scope G2.objs.size s2 H2 [x] fp).env u) _ _ s5
      refine wpAny_assign_Name (store_ok (i := 0) J5' (by show [x].Nodup; simp) rfl (.inl hloc) r5 (fun s6 J6 => ?_) (.inr hloc))
      have J6' : Inv (cxC X scope G2.objs.size s2 H2 [x] fp) ([] ++ pinsAt fp s5.heap) [some xv] H5 s6 := J6
      refine wpAny_mono (hif G2.objs.size s2 H2 fp _ s6 _ H5 _ J6' (step xv H5 y5)) (fun b s7 ⟨H7, J7, q7⟩ => ?_) fun _ _ z => z
      cases b with
      | false =>
        rw [if_neg Bool.false_ne_true] at q7 ⊢
        obtain ⟨J8, st8, fr8⟩ := back J7
        exact ⟨m', hm, i + 1, ys, some xv, H7, J8, st8, fr8, q7⟩
      | true =>
        rw [if_pos rfl] at q7 ⊢
        refine wpAny_mono (he G2.objs.size s2 H2 fp _ s7 _ H7 _ J7 q7) (fun yv s8 ⟨y, H8, J8, r8, hD8, hz8, w8⟩ => ?_) fun _ _ z => z
        refine wpAny_mono (mt_append (X := cxC X scope G2.objs.size s2 H2 [x] fp) _ s8 _ H8 (.ref s2.heap.objs.size) [y] (.ref s2.heap.objs.size) [yv] (fun v H' => W (i + 1) m' (ys ++ [y]) H') J8 rfl (.cons r8 .nil) ⟨s2.heap.objs.size, ys, y, rfl, rfl, hD8, hz8, w8⟩)
          (fun _ s9 ⟨_, H9, J9, _, w9⟩ => ?_) fun _ _ z => z
        obtain ⟨J10, st10, fr10⟩ := back J9
        exact ⟨m', hm, i + 1, ys ++ [y], some xv, H9, J10, st10, fr10, w9⟩
  exact codeAny_compStart_list (loop _ rfl) (T.self _ _ _ _ _ st4 (loop _ rfl))

/-- over a list that stays: Pv i ys H says what holds when i items are done and the new list has ys -/
theorem comp_list {K : PySem.W.Frag} {a D : Addr} {xs : List V} {tif : TT} {te : TE} {R : Hp → Prop} {H : Hp} (Pv : Nat → List V → Hp → Prop) (h0 : Pv 0 [] (upd H D (.lst [])))
    (hl : ∀ i ys H, i ≤ xs.length → Pv i ys H → SqL K H a xs)
    (hs : ∀ i x ys H, xs[i]? = some x → Pv i ys H → tif [some x] H fun b H2 => if b = true then te [some x] H2 fun y H3 => H3 D = some (.lst ys) ∧ ys.length < sizeLine ∧ Pv (i + 1) (ys ++ [y]) (upd H3 D (.lst (ys ++ [y]))) else Pv (i + 1) ys H2)
    (hd : ∀ ys H, Pv xs.length ys H → R H) :
    ∃ W : Nat → Nat → List V → Hp → Prop, (∃ m, W 0 m [] (upd H D (.lst []))) ∧
  ∀ i m ys H, W i m ys H → ((Itl K a).stop i H ∧ R H) ∨ ((Itl K a).go i H ∧ ∃ m', m' < m ∧ ∀ x H', (Itl K a).yld i H x H' → tif [some x] H' fun b H2 =>
    if b = true then te [some x] H2 fun y H3 => H3 D = some (.lst ys) ∧ ys.length < sizeLine ∧ W (i + 1) m' (ys ++ [y]) (upd H3 D (.lst (ys ++ [y]))) else W (i + 1) m' ys H2) := by
  refine ⟨fun i m ys H => m = xs.length - i ∧ i ≤ xs.length ∧ Pv i ys H, ⟨xs.length, by simp, Nat.zero_le _, h0⟩, ?_⟩
  rintro i m ys H ⟨rfl, hi, p⟩
  have q := hl i ys H hi p
  by_cases hlt : i < xs.length
  · refine .inr ⟨⟨xs, xs[i], q, by simp [hlt]⟩, xs.length - (i + 1), by omega, fun x H' y => ?_⟩
    obtain ⟨e, y⟩ := y
    subst e
    have z := hs i x ys _ (y xs q) p
    have h1 : (i + 1 ≤ xs.length) = True := eq_true hlt
    simp only [h1, true_and]
    exact z
  · have e : i = xs.length := by omega
    subst e
    exact .inl ⟨⟨xs, q, Nat.le_refl _⟩, hd ys H p⟩
end L2

set_option Elab.async false
set_option linter.all false
set_option maxRecDepth 100000
set_option maxHeartbeats 4000000
namespace L2
open PySem PySem.Spec PyProof.Rows

/-! ### a list walked from behind -/
def Itv (K : PySem.W.Frag) (a : Addr) (n : Nat) : It :=
  ⟨fun i H => i < n ∧ ∃ xs, SqL K H a xs ∧ xs.length = n, fun i H x H' => H' = H ∧ ∀ xs, SqL K H a xs → xs[n - 1 - i]? = some x, fun i _ => n ≤ i⟩
theorem turn_rev {P : Program} {w : World} {K : PySem.W.Frag} {tg : Expr} (a it : Addr) (n : Nat) : Turn P w K tg (Itv K a n) [it] it (fun i h => i ≤ n ∧ h.IsRevIter it a ((n : Int) - 1 - (i : Int))) where
  mem := by simp
  obj := fun i h st b hb => by
    have e : b = it := by simpa using hb
    subst e
    obtain ⟨_, o, e, c, d⟩ := st
    exact ⟨o, e, fun v z => by rw [d] at z; cases z⟩
  keep := fun i h h' st k => ⟨st.1, st.2.at fun o e => k it (by simp) o e⟩
  item := by
    intro X hP hw hK hc i pins s σ H E I hf st hg
    subst hP hw hK
    obtain ⟨hi, xs, hq, hn⟩ := hg
    obtain ⟨its, rv, p, hz⟩ := I.list hq
    have hlen := rv.length
    have hx : xs[n - 1 - i]? = some (xs[n - 1 - i]'(by omega)) := List.getElem?_eq_getElem (by omega)
    obtain ⟨u, hu, ru⟩ := rv.get hx
    obtain ⟨f0, f1, f2, f3, f4, f5⟩ := hf it (by simp)
    have e1 : (n : Int) - 1 - (i : Int) = ((n - 1 - i : Nat) : Int) := by omega
    have st' := st.2
    rw [e1] at st'
    refine wpAny_pyNext_rev_item st' p.isList (x := u) (by simpa using hu) fun h' st2 sb => ?_
    have I1 : Inv X pins σ H { s with heap := h' } := I.turned (t' := s.toks) (fun b o hb e => (sb.2 b hb).trans e) f0 f1 f3 f4 f5
    have e2 : ((n - 1 - i : Nat) : Int) - 1 = (n : Int) - 1 - ((i + 1 : Nat) : Int) := by omega
    rw [e2] at st2
    obtain ⟨o, e, c, d⟩ := id st2
    exact ⟨u, rfl, go_of (s := { s with heap := h' }) e c d (by decide) ⟨_, H, I1, ru, ⟨rfl, fun ys hy => by rw [I.list_inj hy hq]; exact hx⟩, ⟨hi, st2⟩, fun b hb => (hf b hb).1⟩⟩
  done := by
    intro X hP hw hK hc i pins s σ H E I hf st hg
    subst hP hw hK
    obtain ⟨f0, f1, f2, f3, f4, f5⟩ := hf it (by simp)
    have hg' : n ≤ i := hg
    have e1 : (n : Int) - 1 - (i : Int) = -1 := by have := st.1; omega
    have st' := st.2
    rw [e1] at st'
    exact wpAny_pyNext_rev_end (I.ok.hd hc) st' fun h' eb => ⟨rfl, I.turned (t' := s.toks) (fun b o hb e => eb b o hb e) f0 f1 f3 f4 f5⟩
  self := fun _ _ _ _ _ st h => wpAny_pyIter_revIter st.2 h
def iRev (K : PySem.W.Frag) (ta : TA) : TI := fun σ H R => ta σ H fun vs H1 => ∃ a xs, vs = [.ref a] ∧ SqL K H1 a xs ∧ R (Itv K a xs.length) H1
theorem pi_rev {X : Cx} {tg l : Expr} {ta : TA} {p pos : Pos} (hg : Gl X "reversed") (hm : X.mg "reversed" = none) (ha : PA X [l] ta) (hs : starEach [l] X.env = [(false, eval l X.env)] := by rfl) : PI X tg (.Call (.Name "reversed" p) [l] [] pos) (iRev X.K ta) := by
  intro pins s σ H R I h
  refine Call_ (ld_blt I hg hm boot_reversed (PyProof.Rows.callWith_type1 (thn (ha pos pins s σ H _ I h) fun us s1 ⟨vs, H1, I1, r1, q1⟩ => ?_) hs rfl))
  obtain ⟨a, xs, e, hq, q⟩ := q1
  subst e
  obtain ⟨u, rfl, rx⟩ := r1.one
  cases rx
  obtain ⟨its, rv, pl, hz⟩ := I1.list hq
  have hlen := rv.length
  refine call_reversed_list pl.isList ?_
  have hit : (s1.heap.push (revObj a ((its.toArray.size : Int) - 1))).IsRevIter s1.heap.objs.size a ((xs.length : Int) - 1 - ((0 : Nat) : Int)) := by
    refine ⟨_, Heap.get?_push_size _ rfl, rfl, ?_⟩
    have e : (its.toArray.size : Int) - 1 = (xs.length : Int) - 1 - ((0 : Nat) : Int) := by rw [List.size_toArray, ← hlen]; simp
    rw [e]
    rfl
  refine wpAny_pyIter_revIter hit ?_
  refine ⟨s1.heap.objs.size, [s1.heap.objs.size], _, _, H1, rfl, I1.kept (t' := s1.toks) fun b o e => Heap.get?_push_of_some _ e, turn_rev a _ xs.length, ⟨Nat.zero_le _, hit⟩, fun b hb => ?_, q⟩
  have e : b = s1.heap.objs.size := by simpa using hb
  subst e
  exact I1.fpOk (Nat.le_refl _) (I1.hok.fresh (Nat.le_refl _))
theorem for_rev {K : PySem.W.Frag} {a : Addr} {xs : List V} {g : TG} {tb : TS} {D : Ends} {σ : St} {H : Hp} (Pv : Nat → St → Hp → Prop) (h0 : Pv 0 σ H) (hl : ∀ i σ H, i ≤ xs.length → Pv i σ H → SqL K H a xs)
    (hs : ∀ i x σ H, i < xs.length → xs[xs.length - 1 - i]? = some x → Pv i σ H → g x σ H fun σ2 H2 => tb { D with nx := Pv (i + 1), ct := Pv (i + 1), bk := D.nx } σ2 H2) (hd : ∀ σ H, Pv xs.length σ H → D.nx σ H) :
    ∃ W : Nat → Nat → St → Hp → Prop, (∃ m, W 0 m σ H) ∧ ∀ i m σ H, W i m σ H →
      ((Itv K a xs.length).stop i H ∧ D.nx σ H) ∨ ((Itv K a xs.length).go i H ∧ ∃ N : St → Hp → Prop, (∀ σ' H', N σ' H' → ∃ m', m' < m ∧ W (i + 1) m' σ' H') ∧ ∀ x H', (Itv K a xs.length).yld i H x H' → g x σ H' fun σ2 H2 => tb { D with nx := N, ct := N, bk := D.nx } σ2 H2) := by
  refine ⟨fun i m σ H => m = xs.length - i ∧ i ≤ xs.length ∧ Pv i σ H, ⟨xs.length, by simp, Nat.zero_le _, h0⟩, ?_⟩
  rintro i m σ H ⟨rfl, hi, p⟩
  have q := hl i σ H hi p
  by_cases hlt : i < xs.length
  · refine .inr ⟨⟨hlt, xs, q, rfl⟩, Pv (i + 1), fun σ' H' p' => ⟨xs.length - (i + 1), by omega, rfl, hlt, p'⟩, fun x H' y => ?_⟩
    obtain ⟨e, y⟩ := y
    subst e
    exact hs i x σ _ hlt (y xs q) p
  · have e : i = xs.length := by omega
    subst e
    exact .inl ⟨Nat.le_refl _, hd σ H p⟩

/-! ### t[i:i + 1] of a text -/
def chAt (z : Str) (i : Nat) : Str := ⟨(z.cps.toList[i]?).toList.toArray⟩
theorem pick1 (i n : Nat) : Builtin.Str.strSliceIndices (some (i : Int)) (some ((i : Int) + 1)) 1 n = if i < n then [i] else [] := by
  by_cases h : i < n
  · rw [if_pos h]
    have e := PySem.StrLaws.strSliceIndices_plain (a := i) (b := i + 1) (len := n) (by omega) (by omega)
    have e1 : ((i + 1 : Nat) : Int) = (i : Int) + 1 := by push_cast; rfl
    rw [e1] at e
    rw [e]
    simp
  · rw [if_neg h]
    simp only [Builtin.Str.strSliceIndices, sliceRange]
    have h1 : ¬ ((i : Int) < 0) := by omega
    have h2 : ¬ ((i : Int) + 1 < 0) := by omega
    have e1 : max (0 : Int) (min (i : Int) (n : Int)) = n := by omega
    have e2 : max (0 : Int) (min ((i : Int) + 1) (n : Int)) = n := by omega
    simp [h1, h2, e1, e2]
def rSl1 : V → Option Int → Option Int → Hp → VK → Prop := fun x lo hi H Q => ∃ (z : Str) (i : Nat), x = .str z ∧ lo = some (i : Int) ∧ hi = some ((i : Int) + 1) ∧ Q (.str (chAt z i)) H
theorem sl_str1 {X : Cx} : SlR X rSl1 := by
  intro pins s σ H x v vl vu lo hi sl Q I rx hs pl pu h
  obtain ⟨z, i, rfl, rfl, rfl, q⟩ := h
  obtain ⟨t, rfl⟩ := rx
  cases pl with
  | int _ tl =>
    cases pu with
    | int _ tu =>
      refine ⟨"str", _, F.slot_str_getitem.lookup, typeIs_str s z t, ?_⟩
      refine wpAny_getItem_str_slice (l := some ((i : Int), tl)) (u := some ((i : Int) + 1, tu)) (st := none) hs rfl ?_
      have ep : slicePicked z (some ((i : Int), tl)) (some ((i : Int) + 1, tu)) none = if i < z.length then [i] else [] := pick1 i z.length
      unfold sliceMade
      rw [ep]
      have hlen : z.cps.toList.length = z.length := by simp [Str.length]
      by_cases hlt : i < z.length
      · rw [if_pos hlt]
        have ec : z.cps.toList[i]? = some (z.cps.toList[i]'(by omega)) := List.getElem?_eq_getElem (by omega)
        by_cases h1 : z.length = 1
        · have ei : i = 0 := by omega
          subst ei
          have c1 : (((none : Option (Int × Tok)).map (·.1)).getD 1 == 1 && ([0] : List Nat).length == z.length) = true := by simp [h1]
          rw [if_pos c1]
          have ez : chAt z 0 = z := by
            obtain ⟨a⟩ := z
            have : a.toList.length = 1 := by simpa [Str.length] using h1
            unfold chAt
            match e : a.toList, this with
            | [c], _ =>
              have : a = #[c] := by
                have := congrArg List.toArray e
                simpa using this
              subst this
              rfl
          rw [ez] at q
          exact ⟨.str z, H, I, ⟨_, rfl⟩, q⟩
        · have c1 : ¬ (((none : Option (Int × Tok)).map (·.1)).getD 1 == 1 && ([i] : List Nat).length == z.length) = true := by simp; omega
          rw [if_neg c1]
          have e2 : (⟨([i].filterMap (z.cps[·]?)).toArray⟩ : Str) = chAt z i := by
            unfold chAt
            have ec' : z.cps[i]? = some (z.cps.toList[i]'(by omega)) := by rw [← Array.getElem?_toList]; exact ec
            rw [ec]
            simp [ec']
          rw [e2]
          refine ⟨?_, .str (chAt z i), H, I.tok _, ⟨_, rfl⟩, q⟩
          unfold chAt
          rw [ec]
          show 1 ≤ sizeLine
          decide
      · rw [if_neg hlt]
        have ec : z.cps.toList[i]? = none := List.getElem?_eq_none (by omega)
        by_cases h1 : z.length = 0
        · have c1 : (((none : Option (Int × Tok)).map (·.1)).getD 1 == 1 && ([] : List Nat).length == z.length) = true := by simp [h1]
          rw [if_pos c1]
          have ez : chAt z i = z := by
            obtain ⟨a⟩ := z
            unfold chAt
            rw [ec]
            have : a.size = 0 := h1
            have : a = #[] := Array.eq_empty_of_size_eq_zero this
            subst this
            rfl
          rw [ez] at q
          exact ⟨.str z, H, I, ⟨_, rfl⟩, q⟩
        · have c1 : ¬ (((none : Option (Int × Tok)).map (·.1)).getD 1 == 1 && ([] : List Nat).length == z.length) = true := by simp; omega
          rw [if_neg c1]
          have e2 : (⟨(([] : List Nat).filterMap (z.cps[·]?)).toArray⟩ : Str) = chAt z i := by
            unfold chAt
            rw [ec]
            rfl
          rw [e2]
          refine ⟨?_, .str (chAt z i), H, I.tok _, ⟨_, rfl⟩, q⟩
          unfold chAt
          rw [ec]
          show 0 ≤ sizeLine
          decide

/-! ### isinstance, sum -/
/-- the built-in class of a value -/
inductive ClsOf (K : PySem.W.Frag) (H : Hp) : V → String → Prop where
  | bl (x : Bool) : ClsOf K H (.bl x) "bool"
  | int (i : Int) : ClsOf K H (.int i) "int"
  | str (x : Str) : ClsOf K H (.str x) "str"
  | tup {a : Addr} {xs : List V} (e : SqT K H a xs) : ClsOf K H (.ref a) "tuple"
theorem call_isinst {X : Cx} : CallR X (.builtin "isinstance") (fun xs H Q => ∃ x T n b, xs = [x, .ty n] ∧ ClsOf X.K H x T ∧ PySem.W.kitOne X.K (.type T) (.type n) = some b ∧ Q (.bl b) H) := by
  intro pins s σ H xs us Q I r h
  obtain ⟨x, T, n, b, rfl, ty, e, q⟩ := h
  obtain ⟨u, w', rfl, rx, rn⟩ := vals2 r
  cases (show w' = Value.type n from rn)
  have fin : ∀ tk, EP X pins σ Q (.bool b) { s with toks := tk } := fun tk => ⟨.bl b, H, I.tok _, rfl, q⟩
  cases ty with
  | bl y => cases (show u = Value.bool y from rx); exact PySem.W.kia_one PySem.W.kitx_bool I.kIn True.intro e (fun z => nomatch z) fin
  | int i => obtain ⟨t, z⟩ := (show ∃ t, u = Value.int i t from rx); cases z; exact PySem.W.kia_one PySem.W.kitx_int I.kIn True.intro e (fun z => nomatch z) fin
  | str y => obtain ⟨t, z⟩ := (show ∃ t, u = Value.str y t from rx); cases z; exact PySem.W.kia_one PySem.W.kitx_str I.kIn True.intro e (fun z => nomatch z) fin
  | @tup a ys hq =>
    cases (show u = Value.ref a from rx)
    obtain ⟨its, _, ⟨o, h1, h2, _⟩, _⟩ := I.tuple hq
    exact PySem.W.kia_one PySem.W.kitx_tuple I.kIn ⟨o, h1, h2⟩ e (fun z => nomatch z) fin
theorem call_isinstK {X : Cx} (K : PySem.W.Frag) (hK : X.K = K := by rfl) : CallR X (.builtin "isinstance") (fun xs H Q => ∃ x T n b, xs = [x, .ty n] ∧ ClsOf K H x T ∧ PySem.W.kitOne K (.type T) (.type n) = some b ∧ Q (.bl b) H) := by
  subst hK
  exact call_isinst
theorem pt_truthK {X : Cx} {a : Expr} {ta : TE} (K : PySem.W.Frag) (ha : PE X a ta) (he : ∀ whole, isTrue a X.env whole = (do let v ← whole; standAt a.pos; holding [v] (truthy v))) (hK : X.K = K := by rfl) :
    PT X a (fun σ H Q => ta σ H fun x H' => ∃ k, TruV K x H' k ∧ Q k H') := by
  subst hK
  exact pt_truth ha he
theorem call_sum_any {X : Cx} (hc : X.calm = true) : CallR X (.builtin "sum") (fun xs H Q => ∃ a ns, xs = [.ref a] ∧ SqL X.K H a (List.map V.int ns) ∧ ∀ n, Q (.int n) H) := by
  intro pins s σ H xs us Q I r h
  obtain ⟨a, ns, rfl, hq, q⟩ := h
  obtain ⟨u, rfl, rx⟩ := vals1 r
  cases rx
  obtain ⟨its, rv, pl, hz⟩ := I.list hq
  have hi := intsAre_of rv
  have hall : AllInts its.toArray := hi.allInts
  obtain ⟨xs, e⟩ := hall.items
  have hl := pl.isList
  rw [e] at hl
  exact sum_intListG (I.ok.hd hc) hl fun h' tk t' hk => ⟨.int _, H, I.kept hk, ⟨_, rfl⟩, q _⟩

/-! ### a list == [] -/
theorem op_eq_nil {X : Cx} (hu : X.A.units < cLine) : OpR X (compareOp .Eq) (fun x y H Q => ∃ a b xs, x = .ref a ∧ y = .ref b ∧ SqL X.K H a xs ∧ SqL X.K H b [] ∧ Q (.bl (xs.isEmpty)) H) := by
  intro pins s σ H x y v u Q I rx ry h
  obtain ⟨a, b, xs, rfl, rfl, ha, hb, q⟩ := h
  cases rx
  cases ry
  obtain ⟨its, r, pl, hz⟩ := I.list ha
  obtain ⟨its2, r2, pl2, hz2⟩ := I.list hb
  have e2 : its2 = [] := Vals.zero r2
  subst e2
  have hlen := r.length
  cases xs with
  | nil =>
    have e : its = [] := Vals.zero r
    subst e
    refine SeqAt.eq_listAt (e := fun _ => true) pl.isList pl2.isList rfl hu (fun j h1 _ => absurd h1 (by simp)) ⟨.bl true, H, I, rfl, q⟩
  | cons y ys =>
    refine SeqAt.eq_list_lengthsAt pl.isList pl2.isList ?_ hu ⟨.bl false, H, I, rfl, q⟩
    rw [List.size_toArray, List.size_toArray, ← hlen]
    simp

/-- over a tuple that stays -/
theorem comp_tup {K : PySem.W.Frag} {a D : Addr} {xs : List V} {tif : TT} {te : TE} {R : Hp → Prop} {H : Hp} (Pv : Nat → List V → Hp → Prop) (h0 : Pv 0 [] (upd H D (.lst [])))
    (hl : ∀ i ys H, i ≤ xs.length → Pv i ys H → SqT K H a xs)
    (hs : ∀ i x ys H, xs[i]? = some x → Pv i ys H → tif [some x] H fun b H2 => if b = true then te [some x] H2 fun y H3 => H3 D = some (.lst ys) ∧ ys.length < sizeLine ∧ Pv (i + 1) (ys ++ [y]) (upd H3 D (.lst (ys ++ [y]))) else Pv (i + 1) ys H2)
    (hd : ∀ ys H, Pv xs.length ys H → R H) :
    ∃ W : Nat → Nat → List V → Hp → Prop, (∃ m, W 0 m [] (upd H D (.lst []))) ∧
  ∀ i m ys H, W i m ys H → ((Itt K a).stop i H ∧ R H) ∨ ((Itt K a).go i H ∧ ∃ m', m' < m ∧ ∀ x H', (Itt K a).yld i H x H' → tif [some x] H' fun b H2 =>
    if b = true then te [some x] H2 fun y H3 => H3 D = some (.lst ys) ∧ ys.length < sizeLine ∧ W (i + 1) m' (ys ++ [y]) (upd H3 D (.lst (ys ++ [y]))) else W (i + 1) m' ys H2) := by
  refine ⟨fun i m ys H => m = xs.length - i ∧ i ≤ xs.length ∧ Pv i ys H, ⟨xs.length, by simp, Nat.zero_le _, h0⟩, ?_⟩
  rintro i m ys H ⟨rfl, hi, p⟩
  have q := hl i ys H hi p
  by_cases hlt : i < xs.length
  · refine .inr ⟨⟨xs, xs[i], q, by simp [hlt]⟩, xs.length - (i + 1), by omega, fun x H' y => ?_⟩
    obtain ⟨e, y⟩ := y
    subst e
    have z := hs i x ys _ (y xs q) p
    have h1 : (i + 1 ≤ xs.length) = True := eq_true hlt
    simp only [h1, true_and]
    exact z
  · have e : i = xs.length := by omega
    subst e
    exact .inl ⟨⟨xs, q, Nat.le_refl _⟩, hd ys H p⟩
end L2

set_option Elab.async false
set_option linter.all false
set_option maxRecDepth 100000
set_option maxHeartbeats 4000000
namespace K4
open PySem L2

/-! ### signs and texts -/
def one (c : Nat) : Str := ⟨#[c]⟩
def cod (z : Str) : List Nat := z.cps.toList
theorem one_inj {c d : Nat} (h : one c = one d) : c = d := by
  unfold one at h
  injection h with h
  have := congrArg Array.toList h
  simpa using this
theorem one_eq (c d : Nat) : (V.str (one c) = V.str (one d)) ↔ c = d := ⟨fun h => one_inj (by injection h), fun h => by rw [h]⟩
theorem len_cod (z : Str) : (cod z).length = z.length := by simp [cod, Str.length]
theorem cod_one (c : Nat) : cod (one c) = [c] := rfl
theorem cod_app (x y : Str) : cod (x ++ y) = cod x ++ cod y := by
  show (x.cps ++ y.cps).toList = _
  simp [cod]
theorem len_app (x y : Str) : (x ++ y).length = x.length + y.length := by
  rw [← len_cod, ← len_cod, ← len_cod, cod_app, List.length_append]
theorem chAt_some {z : Str} {i c : Nat} (h : (cod z)[i]? = some c) : chAt z i = one c := by
  unfold chAt
  unfold cod at h
  rw [h]
  rfl
theorem chAt_none {z : Str} {i : Nat} (h : (cod z)[i]? = none) : chAt z i = ⟨#[]⟩ := by
  unfold chAt
  unfold cod at h
  rw [h]
  rfl
theorem chAt_iff (z : Str) (i c : Nat) : chAt z i = one c ↔ (cod z)[i]? = some c := by
  cases h : (cod z)[i]? with
  | none =>
    rw [chAt_none h]
    constructor
    · intro e
      have := congrArg cod e
      simp [cod, one] at this
    · intro e; cases e
  | some d =>
    rw [chAt_some h]
    constructor
    · intro e; rw [one_inj e]
    · intro e; rw [Option.some.inj e]
theorem item_at {z : Str} {i c : Nat} (h : (cod z)[i]? = some c) : atI z.cps.toList (i : Int) = some c := atI_nat h

/-! ### patterns as they stand in the heap -/
inductive PatV (K : PySem.W.Frag) (H : Hp) : V → P4.Pat → Prop
  | emp {a : Addr} : SqT K H a [.str "empty"] → PatV K H (.ref a) .emp
  | sg {a : Addr} {l h : Nat} : SqT K H a [.str "sign", .str (one l), .str (one h)] → PatV K H (.ref a) (.sg l h)
  | thn {a : Addr} {x y : V} {p q : P4.Pat} : SqT K H a [.str "then", x, y] → PatV K H x p → PatV K H y q → PatV K H (.ref a) (.thn p q)
  | alt {a : Addr} {x y : V} {p q : P4.Pat} : SqT K H a [.str "or", x, y] → PatV K H x p → PatV K H y q → PatV K H (.ref a) (.alt p q)
  | agn {a : Addr} {x : V} {p : P4.Pat} : SqT K H a [.str "again", x] → PatV K H x p → PatV K H (.ref a) (.agn p)
/-- tuples stay -/
def Keeps (K : PySem.W.Frag) (H H' : Hp) : Prop := ∀ a xs, SqT K H a xs → SqT K H' a xs
theorem Keeps.refl {K : PySem.W.Frag} {H : Hp} : Keeps K H H := fun _ _ h => h
theorem Keeps.trans {K : PySem.W.Frag} {H H' H2 : Hp} (a : Keeps K H H') (b : Keeps K H' H2) : Keeps K H H2 := fun c xs h => b c xs (a c xs h)
theorem Keeps.same {K : PySem.W.Frag} {H H' : Hp} (s : Same H H') : Keeps K H H' := fun a xs h => by
  rcases h with (h | ⟨o, h⟩) | h
  · exact .inl (.inl (s _ _ h))
  · exact .inl (.inr ⟨o, s _ _ h⟩)
  · exact .inr h
theorem Keeps.but {K : PySem.W.Frag} {H H' : Hp} (s : ∀ b o, H b = some o → (∀ xs, o ≠ .lst xs) → H' b = some o) : Keeps K H H' := fun a xs h => by
  rcases h with (h | ⟨o, h⟩) | h
  · exact .inl (.inl (s _ _ h (fun _ z => nomatch z)))
  · exact .inl (.inr ⟨o, s _ _ h (fun _ z => nomatch z)⟩)
  · exact .inr h
theorem Keeps.lst {K : PySem.W.Frag} {H : Hp} {r : Addr} {xs : List V} {o : HO} (h : H r = some (.lst xs)) : Keeps K H (upd H r o) := Keeps.but fun b u e n => by
  have : b ≠ r := fun z => by rw [z, h] at e; cases e; exact n _ rfl
  rw [upd_ne this]; exact e
theorem same_new {H : Hp} {p : Addr} (h : H p = none) (o : HO) : Same H (upd H p o) := fun b u q => by rw [upd_ne (ne_of_none q h)]; exact q
theorem Keeps.new {K : PySem.W.Frag} {H : Hp} {r : Addr} {o : HO} (h : H r = none) : Keeps K H (upd H r o) := Keeps.same (same_new h o)
theorem PatV.mono {K : PySem.W.Frag} {H H' : Hp} (k : Keeps K H H') {v : V} {p : P4.Pat} (h : PatV K H v p) : PatV K H' v p := by
  induction h with
  | emp a => exact .emp (k _ _ a)
  | sg a => exact .sg (k _ _ a)
  | thn a _ _ i j => exact .thn (k _ _ a) i j
  | alt a _ _ i j => exact .alt (k _ _ a) i j
  | agn a _ i => exact .agn (k _ _ a) i
abbrev Pats (K : PySem.W.Frag) (H : Hp) : List V → List P4.Pat → Prop := Paired (PatV K H)
theorem Pats.mono {K : PySem.W.Frag} {H H' : Hp} (k : Keeps K H H') {vs : List V} {ps : List P4.Pat} (h : Pats K H vs ps) : Pats K H' vs ps := Paired.mapP h fun _ _ q => q.mono k
theorem PatV.tup {K : PySem.W.Frag} {H : Hp} {v : V} {p : P4.Pat} (h : PatV K H v p) : ∃ a xs, v = .ref a ∧ SqT K H a xs := by
  cases h <;> exact ⟨_, _, rfl, by assumption⟩
theorem Paired.get {α β : Type} {F : α → β → Prop} : ∀ {xs : List α} {ys : List β} {i : Nat} {x : α}, Paired F xs ys → xs[i]? = some x → ∃ y, ys[i]? = some y ∧ F x y
  | _, _, _, _, .nil, e => by simp at e
  | _, _, 0, _, .cons r _, e => by simp at e; subst e; exact ⟨_, rfl, r⟩
  | _, _, i + 1, x, .cons _ t, e => by
    obtain ⟨u, h1, h2⟩ := Paired.get (i := i) (x := x) t (by simpa using e)
    exact ⟨u, by simpa using h1, h2⟩
theorem Paired.app {α β : Type} {F : α → β → Prop} : ∀ {a b : List α} {c d : List β}, Paired F a c → Paired F b d → Paired F (a ++ b) (c ++ d)
  | _, _, _, _, .nil, h => h
  | _, _, _, _, .cons r t, h => .cons r (Paired.app t h)
theorem Paired.rev {α β : Type} {F : α → β → Prop} : ∀ {a : List α} {c : List β}, Paired F a c → Paired F a.reverse c.reverse
  | _, _, .nil => .nil
  | _, _, .cons r t => by rw [List.reverse_cons, List.reverse_cons]; exact Paired.app (Paired.rev t) (.cons r .nil)
theorem Paired.drop {α β : Type} {F : α → β → Prop} : ∀ {a : List α} {c : List β} (n : Nat), Paired F a c → Paired F (a.drop n) (c.drop n)
  | _, _, 0, h => h
  | _, _, _ + 1, .nil => .nil
  | _, _, n + 1, .cons _ t => Paired.drop n t

/-- two equal patterns are == -/
theorem pat_rc {X : Cx} {pins : List (Addr × Obj)} {σ : St} {H : Hp} {s : Shared} (I : Inv X pins σ H s) : ∀ (p : P4.Pat) {a b : Addr} (A : Around), PatV X.K H (.ref a) p → PatV X.K H (.ref b) p → A.units + P4.depth p < cLine → SeqAt.RcAt A s (.ref a) (.ref b) true := by
  intro p
  have seq1 : ∀ (A : Around) (z : Str) (u v : Value), RelV (.str z) u → RelV (.str z) v → SeqAt.EqAt A s u v true := fun A z u v r1 r2 => by
    obtain ⟨t, rfl⟩ := r1
    obtain ⟨t', rfl⟩ := r2
    have := SeqAt.EqAt.str_str (A := A) (s := s) z t z t'
    rwa [beq_self_eq_true] at this
  have sub : ∀ (A : Around) {q : P4.Pat} {x y : V} {u v : Value}, (∀ {a b : Addr} (A : Around), PatV X.K H (.ref a) q → PatV X.K H (.ref b) q → A.units + P4.depth q < cLine → SeqAt.RcAt A s (.ref a) (.ref b) true) →
      PatV X.K H x q → PatV X.K H y q → RelV x u → RelV y v → A.units + P4.depth q < cLine → SeqAt.EqAt A s u v true := fun A {q x y u v} ih hx hy r1 r2 hd => by
    obtain ⟨a, _, rfl, _⟩ := hx.tup
    obtain ⟨b, _, rfl, _⟩ := hy.tup
    cases r1
    cases r2
    by_cases e : a = b
    · subst e; exact .same _
    · exact .of_refs e (ih A hx hy hd)
  have go : ∀ (A : Around) {a b : Addr} {xs ys : List V}, SqT X.K H a xs → SqT X.K H b ys → xs.length = ys.length → A.units < cLine →
      (∀ (j : Nat) x y u v, xs[j]? = some x → ys[j]? = some y → RelV x u → RelV y v → SeqAt.EqAt A.in1 s u v true) → SeqAt.RcAt A s (.ref a) (.ref b) true := fun A {a b xs ys} ha hb hl hu he => by
    obtain ⟨its, r, pl, _⟩ := I.tuple ha
    obtain ⟨its2, r2, pl2, _⟩ := I.tuple hb
    have l1 := r.length
    have l2 := r2.length
    have q := SeqAt.RcAt.tuples (A := A) (s := s) (e := fun _ => true) pl pl2 hu (fun j h1 h2 => by
      have k1 : j < its.length := by simpa using h1
      have k2 : j < its2.length := by simpa using h2
      have g1 : xs[j]? = some (xs[j]'(by omega)) := List.getElem?_eq_getElem (by omega)
      have g2 : ys[j]? = some (ys[j]'(by omega)) := List.getElem?_eq_getElem (by omega)
      obtain ⟨u1, e1, q1⟩ := r.get g1
      obtain ⟨u2, e2, q2⟩ := r2.get g2
      have f1 : its.toArray[j] = u1 := by
        have := (List.getElem?_eq_some_iff.mp e1).2
        simpa using this
      have f2 : its2.toArray[j] = u2 := by
        have := (List.getElem?_eq_some_iff.mp e2).2
        simpa using this
      rw [f1, f2]
      exact he j _ _ _ _ g1 g2 q1 q2)
    have e1 : ((List.range (min its.toArray.size its2.toArray.size)).all (fun _ => true) && its.toArray.size == its2.toArray.size) = true := by
      have : its.toArray.size = its2.toArray.size := by simp only [List.size_toArray]; omega
      rw [this]
      simp
    rw [e1] at q
    exact q
  induction p with
  | non => intro a b A hx; cases hx
  | emp =>
    intro a b A hx hy hd
    cases hx with
    | emp ha =>
      cases hy with
      | emp hb =>
        refine go A ha hb rfl (by simp only [P4.depth] at hd; omega) fun j x y u v e1 e2 r1 r2 => ?_
        match j with
        | 0 => cases e1; cases e2; exact seq1 _ _ _ _ r1 r2
        | j + 1 => simp at e1
  | sg l h =>
    intro a b A hx hy hd
    cases hx with
    | sg ha =>
      cases hy with
      | sg hb =>
        refine go A ha hb rfl (by simp only [P4.depth] at hd; omega) fun j x y u v e1 e2 r1 r2 => ?_
        match j with
        | 0 => cases e1; cases e2; exact seq1 _ _ _ _ r1 r2
        | 1 => cases e1; cases e2; exact seq1 _ _ _ _ r1 r2
        | 2 => cases e1; cases e2; exact seq1 _ _ _ _ r1 r2
        | j + 3 => simp at e1
  | thn p q ihp ihq =>
    intro a b A hx hy hd
    cases hx with
    | thn ha h1 h2 =>
      cases hy with
      | thn hb g1 g2 =>
        simp only [P4.depth] at hd
        refine go A ha hb rfl (by omega) fun j x y u v e1 e2 r1 r2 => ?_
        match j with
        | 0 => cases e1; cases e2; exact seq1 _ _ _ _ r1 r2
        | 1 => cases e1; cases e2; exact sub A.in1 ihp h1 g1 r1 r2 (by rw [Around.in1_units]; omega)
        | 2 => cases e1; cases e2; exact sub A.in1 ihq h2 g2 r1 r2 (by rw [Around.in1_units]; omega)
        | j + 3 => simp at e1
  | alt p q ihp ihq =>
    intro a b A hx hy hd
    cases hx with
    | alt ha h1 h2 =>
      cases hy with
      | alt hb g1 g2 =>
        simp only [P4.depth] at hd
        refine go A ha hb rfl (by omega) fun j x y u v e1 e2 r1 r2 => ?_
        match j with
        | 0 => cases e1; cases e2; exact seq1 _ _ _ _ r1 r2
        | 1 => cases e1; cases e2; exact sub A.in1 ihp h1 g1 r1 r2 (by rw [Around.in1_units]; omega)
        | 2 => cases e1; cases e2; exact sub A.in1 ihq h2 g2 r1 r2 (by rw [Around.in1_units]; omega)
        | j + 3 => simp at e1
  | agn p ihp =>
    intro a b A hx hy hd
    cases hx with
    | agn ha h1 =>
      cases hy with
      | agn hb g1 =>
        simp only [P4.depth] at hd
        refine go A ha hb rfl (by omega) fun j x y u v e1 e2 r1 r2 => ?_
        match j with
        | 0 => cases e1; cases e2; exact seq1 _ _ _ _ r1 r2
        | 1 => cases e1; cases e2; exact sub A.in1 ihp h1 g1 r1 r2 (by rw [Around.in1_units]; omega)
        | j + 2 => simp at e1
/-- == of two patterns that are the same -/
theorem op_eq_pat {X : Cx} : OpR X (compareOp .Eq) (fun x y H Q => ∃ p, PatV X.K H x p ∧ PatV X.K H y p ∧ X.A.units + P4.depth p < cLine ∧ Q (.bl true) H) := by
  intro pins s σ H x y v u Q I rx ry h
  obtain ⟨p, hx, hy, hd, q⟩ := h
  obtain ⟨a, xs, rfl, ha⟩ := hx.tup
  obtain ⟨b, ys, rfl, hb⟩ := hy.tup
  cases rx
  cases ry
  exact pat_rc I p X.A hx hy hd X.prog X.w X.xe (EP X pins σ Q) ⟨.bl true, H, I, rfl, q⟩
end K4

set_option Elab.async false
set_option linter.all false
set_option maxRecDepth 100000
set_option maxHeartbeats 4000000
namespace K4
open PySem L2

/-! ### lists of lists of lists: the last level first, in each level the last row first -/
abbrev LS := List (Addr × List (Addr × List V))
def refs {α : Type} (xs : List (Addr × α)) : List V := xs.reverse.map fun x => V.ref x.1
theorem refs_cons {α : Type} (x : Addr × α) (xs : List (Addr × α)) : refs (x :: xs) = refs xs ++ [.ref x.1] := by simp [refs]
theorem refs_len {α : Type} (xs : List (Addr × α)) : (refs xs).length = xs.length := by simp [refs]
def adr (L : Addr) (ls : LS) : List Addr := L :: ls.flatMap fun l => l.1 :: l.2.map (·.1)
structure At (H : Hp) (L : Addr) (ls : LS) : Prop where
  top : H L = some (.lst (refs ls))
  lvl : ∀ l ∈ ls, H l.1 = some (.lst (refs l.2))
  row : ∀ l ∈ ls, ∀ r ∈ l.2, H r.1 = some (.lst r.2)
  nd : (adr L ls).Nodup
def Rep (K : PySem.W.Frag) (H : Hp) (ls : LS) (P : P4.Lvls) : Prop := Paired (fun l lv => Paired (fun (r : Addr × List V) row => Pats K H r.2 row) l.2 lv) ls P
theorem Rep.mono {K : PySem.W.Frag} {H H' : Hp} (k : Keeps K H H') {ls : LS} {P : P4.Lvls} (h : Rep K H ls P) : Rep K H' ls P := Paired.mapP h fun _ _ q => Paired.mapP q fun _ _ z => z.mono k
theorem mem_lvl {L : Addr} {ls : LS} {l : Addr × List (Addr × List V)} (h : l ∈ ls) : l.1 ∈ ls.flatMap fun l => l.1 :: l.2.map (·.1) := List.mem_flatMap.mpr ⟨l, h, List.mem_cons_self⟩
theorem mem_row {ls : LS} {l : Addr × List (Addr × List V)} {r : Addr × List V} (h : l ∈ ls) (hr : r ∈ l.2) : r.1 ∈ ls.flatMap fun l => l.1 :: l.2.map (·.1) :=
  List.mem_flatMap.mpr ⟨l, h, List.mem_cons_of_mem _ (List.mem_map.mpr ⟨r, hr, rfl⟩)⟩
theorem At.isl {H : Hp} {L : Addr} {ls : LS} (a : At H L ls) : ∀ b ∈ adr L ls, ∃ xs, H b = some (.lst xs) := fun b hb => by
  rcases List.mem_cons.mp hb with rfl | hb
  · exact ⟨_, a.top⟩
  · obtain ⟨l, hl, hb⟩ := List.mem_flatMap.mp hb
    rcases List.mem_cons.mp hb with rfl | hb
    · exact ⟨_, a.lvl l hl⟩
    · obtain ⟨r, hr, rfl⟩ := List.mem_map.mp hb
      exact ⟨_, a.row l hl r hr⟩
theorem At.fresh {H : Hp} {L : Addr} {ls : LS} (a : At H L ls) {b : Addr} (h : H b = none) : b ∉ adr L ls := fun hb => by
  obtain ⟨xs, q⟩ := a.isl b hb
  rw [h] at q; cases q
/-- another heap that has the same lists -/
theorem At.stay {H H' : Hp} {L : Addr} {ls : LS} (a : At H L ls) (h : ∀ b ∈ adr L ls, H' b = H b) : At H' L ls :=
  ⟨by rw [h L List.mem_cons_self]; exact a.top, fun l hl => by rw [h _ (List.mem_cons_of_mem _ (mem_lvl (L := L) hl))]; exact a.lvl l hl,
    fun l hl r hr => by rw [h _ (List.mem_cons_of_mem _ (mem_row hl hr))]; exact a.row l hl r hr, a.nd⟩
theorem At.same {H H' : Hp} {L : Addr} {ls : LS} (a : At H L ls) (s : Same H H') : At H' L ls := a.stay fun b hb => by
  obtain ⟨xs, q⟩ := a.isl b hb
  rw [q]; exact s _ _ q
/-- levels.append([[]]) -/
theorem At.push {H : Hp} {L r l : Addr} {ls : LS} (a : At H L ls) (hr : H r = none) (hl : upd H r (.lst []) l = none) :
    At (upd (upd (upd H r (.lst [])) l (.lst [.ref r])) L (.lst (refs ls ++ [.ref l]))) L ((l, [(r, [])]) :: ls) := by
  have fr := a.fresh hr
  have nlr : l ≠ r := fun z => by rw [z, upd_same] at hl; cases hl
  have hl' : H l = none := by rw [upd_ne nlr] at hl; exact hl
  have fl := a.fresh hl'
  have nLl : l ≠ L := fun z => fl (by rw [z]; exact List.mem_cons_self)
  have nLr : r ≠ L := fun z => fr (by rw [z]; exact List.mem_cons_self)
  have nd' := List.nodup_cons.mp a.nd
  have oth : ∀ b, b ∈ (ls.flatMap fun l => l.1 :: l.2.map (·.1)) → upd (upd (upd H r (.lst [])) l (.lst [.ref r])) L (.lst (refs ls ++ [.ref l])) b = H b := fun b hb => by
    have n1 : b ≠ L := fun z => nd'.1 (by rw [← z]; exact hb)
    have n2 : b ≠ l := fun z => fl (by rw [← z]; exact List.mem_cons_of_mem _ hb)
    have n3 : b ≠ r := fun z => fr (by rw [← z]; exact List.mem_cons_of_mem _ hb)
    rw [upd_ne n1, upd_ne n2, upd_ne n3]
  refine ⟨by rw [upd_same, refs_cons], fun l' h => ?_, fun l' h r' hr' => ?_, ?_⟩
  · rcases List.mem_cons.mp h with rfl | h
    · show upd _ L _ l = _
      rw [upd_ne nLl, upd_same]
      rfl
    · rw [oth _ (mem_lvl (L := L) h)]; exact a.lvl l' h
  · rcases List.mem_cons.mp h with rfl | h
    · have e : r' = (r, []) := by simpa using hr'
      subst e
      show upd _ L _ r = _
      rw [upd_ne nLr, upd_ne nlr.symm, upd_same]
    · rw [oth _ (mem_row h hr')]; exact a.row l' h r' hr'
  · have e : adr L ((l, [(r, [])]) :: ls) = L :: l :: r :: ls.flatMap fun l => l.1 :: l.2.map (·.1) := by simp [adr]
    rw [e]
    refine List.nodup_cons.mpr ⟨?_, List.nodup_cons.mpr ⟨?_, List.nodup_cons.mpr ⟨fun z => fr (List.mem_cons_of_mem _ z), nd'.2⟩⟩⟩
    · intro z
      rcases List.mem_cons.mp z with z | z
      · exact nLl z.symm
      · rcases List.mem_cons.mp z with z | z
        · exact nLr z.symm
        · exact nd'.1 z
    · intro z
      rcases List.mem_cons.mp z with z | z
      · exact nlr z
      · exact fl (List.mem_cons_of_mem _ z)
theorem nd3 {L l r : Addr} {vs : List V} {rs : List (Addr × List V)} {rest : LS} (h : (adr L ((l, (r, vs) :: rs) :: rest)).Nodup) :
    L ≠ r ∧ l ≠ r ∧ (∀ q ∈ rs, q.1 ≠ r) ∧ (∀ b ∈ (rest.flatMap fun l => l.1 :: l.2.map (·.1)), b ≠ r) := by
  have e : adr L ((l, (r, vs) :: rs) :: rest) = L :: l :: r :: (rs.map (·.1) ++ rest.flatMap fun l => l.1 :: l.2.map (·.1)) := by simp [adr]
  rw [e] at h
  have h1 := List.nodup_cons.mp h
  have h2 := List.nodup_cons.mp h1.2
  have h3 := List.nodup_cons.mp h2.2
  refine ⟨fun z => h1.1 (by rw [z]; simp), fun z => h2.1 (by rw [z]; simp), fun q hq z => h3.1 ?_, fun b hb z => h3.1 ?_⟩
  · rw [← z]; exact List.mem_append_left _ (List.mem_map.mpr ⟨q, hq, rfl⟩)
  · rw [← z]; exact List.mem_append_right _ hb
/-- the last row of the last level has other items -/
theorem At.piece {H : Hp} {L l r : Addr} {vs : List V} {rs : List (Addr × List V)} {rest : LS} (a : At H L ((l, (r, vs) :: rs) :: rest)) (ws : List V) : At (upd H r (.lst ws)) L ((l, (r, ws) :: rs) :: rest) := by
  obtain ⟨n1, n2, n3, n4⟩ := nd3 a.nd
  refine ⟨?_, fun l' h => ?_, fun l' h r' hr' => ?_, ?_⟩
  · rw [upd_ne n1, a.top, refs_cons, refs_cons]
  · rcases List.mem_cons.mp h with rfl | h
    · show upd H r _ l = _
      rw [upd_ne n2, a.lvl _ List.mem_cons_self]
      show some (HO.lst (refs ((r, vs) :: rs))) = some (HO.lst (refs ((r, ws) :: rs)))
      rw [refs_cons, refs_cons]
    · rw [upd_ne (n4 _ (mem_lvl (L := L) h))]; exact a.lvl l' (List.mem_cons_of_mem _ h)
  · rcases List.mem_cons.mp h with rfl | h
    · rcases List.mem_cons.mp hr' with rfl | hr'
      · exact upd_same
      · rw [upd_ne (n3 _ hr')]; exact a.row _ List.mem_cons_self r' (List.mem_cons_of_mem _ hr')
    · rw [upd_ne (n4 _ (mem_row h hr'))]; exact a.row l' (List.mem_cons_of_mem _ h) r' hr'
  · have e : adr L ((l, (r, ws) :: rs) :: rest) = adr L ((l, (r, vs) :: rs) :: rest) := by simp [adr]
    rw [e]; exact a.nd
/-- levels[-1].append([]) -/
theorem At.bar {H : Hp} {L l r : Addr} {rs : List (Addr × List V)} {rest : LS} (a : At H L ((l, rs) :: rest)) (hr : H r = none) : At (upd (upd H r (.lst [])) l (.lst (refs rs ++ [.ref r]))) L ((l, (r, []) :: rs) :: rest) := by
  have fr := a.fresh hr
  have e0 : adr L ((l, rs) :: rest) = L :: l :: (rs.map (·.1) ++ rest.flatMap fun l => l.1 :: l.2.map (·.1)) := by simp [adr]
  have nd := a.nd
  rw [e0] at nd fr
  have h1 := List.nodup_cons.mp nd
  have h2 := List.nodup_cons.mp h1.2
  have nLl : L ≠ l := fun z => h1.1 (by rw [z]; simp)
  have nLr : L ≠ r := fun z => fr (by rw [z]; simp)
  have nlr : r ≠ l := fun z => fr (by rw [z]; simp)
  have oth : ∀ b, b ∈ (rs.map (·.1) ++ rest.flatMap fun l => l.1 :: l.2.map (·.1)) → upd (upd H r (.lst [])) l (.lst (refs rs ++ [.ref r])) b = H b := fun b hb => by
    have n1 : b ≠ l := fun z => h2.1 (by rw [← z]; exact hb)
    have n2 : b ≠ r := fun z => fr (by rw [← z]; exact List.mem_cons_of_mem _ (List.mem_cons_of_mem _ hb))
    rw [upd_ne n1, upd_ne n2]
  refine ⟨?_, fun l' h => ?_, fun l' h r' hr' => ?_, ?_⟩
  · rw [upd_ne nLl, upd_ne nLr, a.top, refs_cons, refs_cons]
  · rcases List.mem_cons.mp h with rfl | h
    · show upd _ l _ l = _
      rw [upd_same]
      show _ = some (HO.lst (refs ((r, []) :: rs)))
      rw [refs_cons]
    · rw [oth _ (List.mem_append_right _ (mem_lvl (L := L) h))]; exact a.lvl l' (List.mem_cons_of_mem _ h)
  · rcases List.mem_cons.mp h with rfl | h
    · rcases List.mem_cons.mp hr' with rfl | hr'
      · show upd _ l _ r = _
        rw [upd_ne nlr, upd_same]
      · rw [oth _ (List.mem_append_left _ (List.mem_map.mpr ⟨r', hr', rfl⟩))]; exact a.row _ List.mem_cons_self r' hr'
    · rw [oth _ (List.mem_append_right _ (mem_row h hr'))]; exact a.row l' (List.mem_cons_of_mem _ h) r' hr'
  · have e : adr L ((l, (r, []) :: rs) :: rest) = L :: l :: r :: (rs.map (·.1) ++ rest.flatMap fun l => l.1 :: l.2.map (·.1)) := by simp [adr]
    rw [e]
    refine List.nodup_cons.mpr ⟨?_, List.nodup_cons.mpr ⟨?_, List.nodup_cons.mpr ⟨fun z => fr (List.mem_cons_of_mem _ (List.mem_cons_of_mem _ z)), h2.2⟩⟩⟩
    · intro z
      rcases List.mem_cons.mp z with z | z
      · exact nLl z
      · rcases List.mem_cons.mp z with z | z
        · exact nLr z
        · exact h1.1 (List.mem_cons_of_mem _ z)
    · intro z
      rcases List.mem_cons.mp z with z | z
      · exact nlr z.symm
      · exact h2.1 z
/-- levels.pop() -/
theorem At.pop {H : Hp} {L : Addr} {l : Addr × List (Addr × List V)} {rest : LS} (a : At H L (l :: rest)) :
    At (upd H L (.lst (refs rest))) L rest ∧ upd H L (.lst (refs rest)) l.1 = some (.lst (refs l.2)) ∧ ∀ r ∈ l.2, upd H L (.lst (refs rest)) r.1 = some (.lst r.2) := by
  have e0 : adr L (l :: rest) = L :: (l.1 :: l.2.map (·.1) ++ rest.flatMap fun l => l.1 :: l.2.map (·.1)) := by simp [adr]
  have nd := a.nd
  rw [e0] at nd
  have h1 := List.nodup_cons.mp nd
  have oth : ∀ b, b ∈ (l.1 :: l.2.map (·.1) ++ rest.flatMap fun l => l.1 :: l.2.map (·.1)) → upd H L (.lst (refs rest)) b = H b := fun b hb => upd_ne fun z => h1.1 (z ▸ hb)
  refine ⟨⟨upd_same, fun l' h => ?_, fun l' h r' hr' => ?_, ?_⟩, ?_, fun r hr => ?_⟩
  · rw [oth _ (List.mem_append_right _ (mem_lvl (L := L) h))]; exact a.lvl l' (List.mem_cons_of_mem _ h)
  · rw [oth _ (List.mem_append_right _ (mem_row h hr'))]; exact a.row l' (List.mem_cons_of_mem _ h) r' hr'
  · have h2 : (rest.flatMap fun l => l.1 :: l.2.map (·.1)).Nodup := (List.nodup_append.mp h1.2).2.1
    exact List.nodup_cons.mpr ⟨fun z => h1.1 (List.mem_append_right _ z), h2⟩
  · rw [oth _ (by simp)]; exact a.lvl l List.mem_cons_self
  · rw [oth _ (List.mem_append_left _ (List.mem_cons_of_mem _ (List.mem_map.mpr ⟨r, hr, rfl⟩)))]; exact a.row l List.mem_cons_self r hr
/-- [[[]]] -/
theorem At.init {H : Hp} {L l r : Addr} (hr : H r = none) (hl : upd H r (.lst []) l = none) (hL : upd (upd H r (.lst [])) l (.lst [.ref r]) L = none) :
    At (upd (upd (upd H r (.lst [])) l (.lst [.ref r])) L (.lst [.ref l])) L [(l, [(r, [])])] := by
  have nlr : l ≠ r := fun z => by rw [z, upd_same] at hl; cases hl
  have nLl : L ≠ l := fun z => by rw [z, upd_same] at hL; cases hL
  have nLr : L ≠ r := fun z => by rw [z, upd_ne nlr.symm, upd_same] at hL; cases hL
  refine ⟨upd_same, fun l' h => ?_, fun l' h r' hr' => ?_, ?_⟩
  · have e : l' = (l, [(r, [])]) := by simpa using h
    subst e
    show upd _ L _ l = _
    rw [upd_ne nLl.symm, upd_same]
    rfl
  · have e : l' = (l, [(r, [])]) := by simpa using h
    subst e
    have e : r' = (r, []) := by simpa using hr'
    subst e
    show upd _ L _ r = _
    rw [upd_ne nLr.symm, upd_ne nlr.symm, upd_same]
  · show [L, l, r].Nodup
    simp [nLl, nLr, nlr]
/-- what a change of the lists leaves -/
structure Frm (H H' : Hp) (L : Addr) (ls ls' : LS) : Prop where
  keep : ∀ b o, H b = some o → b ∉ adr L ls → H' b = some o
  new : ∀ b ∈ adr L ls', b ∈ adr L ls ∨ H b = none
theorem Frm.refl {H : Hp} {L : Addr} {ls : LS} : Frm H H L ls ls := ⟨fun _ _ h _ => h, fun _ h => .inl h⟩
theorem Frm.same {H H' : Hp} {L : Addr} {ls : LS} (s : Same H H') : Frm H H' L ls ls := ⟨fun _ _ h _ => s _ _ h, fun _ h => .inl h⟩
theorem Frm.trans {H H1 H2 : Hp} {L : Addr} {ls ls1 ls2 : LS} (a : Frm H H1 L ls ls1) (b : Frm H1 H2 L ls1 ls2) : Frm H H2 L ls ls2 := by
  refine ⟨fun c o e n => b.keep c o (a.keep c o e n) fun z => ?_, fun c hc => ?_⟩
  · rcases a.new c z with z | z
    · exact n z
    · rw [z] at e; cases e
  · rcases b.new c hc with z | z
    · exact a.new c z
    · by_cases hn : c ∈ adr L ls
      · exact .inl hn
      · cases e : H c with
        | none => exact .inr rfl
        | some o => have := a.keep c o e hn; rw [z] at this; cases this
theorem At.keeps {K : PySem.W.Frag} {H H' : Hp} {L : Addr} {ls ls' : LS} (a : At H L ls) (f : Frm H H' L ls ls') : Keeps K H H' := Keeps.but fun b o e n => f.keep b o e fun hb => by
  obtain ⟨xs, q⟩ := a.isl b hb
  rw [q] at e; cases e; exact n _ rfl
theorem Frm.push {H : Hp} {L r l : Addr} {ls : LS} (a : At H L ls) (hr : H r = none) (hl : upd H r (.lst []) l = none) (o : HO) :
    Frm H (upd (upd (upd H r (.lst [])) l (.lst [.ref r])) L o) L ls ((l, [(r, [])]) :: ls) := by
  have nlr : l ≠ r := fun z => by rw [z, upd_same] at hl; cases hl
  have hl' : H l = none := by rw [upd_ne nlr] at hl; exact hl
  refine ⟨fun b u e n => ?_, fun b hb => ?_⟩
  · rw [upd_ne (fun z => n (by rw [z]; exact List.mem_cons_self)), upd_ne (ne_of_none e hl'), upd_ne (ne_of_none e hr)]; exact e
  · have e : adr L ((l, [(r, [])]) :: ls) = L :: l :: r :: ls.flatMap fun l => l.1 :: l.2.map (·.1) := by simp [adr]
    rw [e] at hb
    rcases List.mem_cons.mp hb with z | hb
    · exact .inl (by rw [z]; exact List.mem_cons_self)
    · rcases List.mem_cons.mp hb with z | hb
      · exact .inr (by rw [z]; exact hl')
      · rcases List.mem_cons.mp hb with z | hb
        · exact .inr (by rw [z]; exact hr)
        · exact .inl (List.mem_cons_of_mem _ hb)
theorem Frm.piece {H : Hp} {L l r : Addr} {vs ws : List V} {rs : List (Addr × List V)} {rest : LS} (o : HO) : Frm H (upd H r o) L ((l, (r, vs) :: rs) :: rest) ((l, (r, ws) :: rs) :: rest) := by
  have e : adr L ((l, (r, ws) :: rs) :: rest) = adr L ((l, (r, vs) :: rs) :: rest) := by simp [adr]
  refine ⟨fun b u q n => ?_, fun b hb => .inl (by rw [← e]; exact hb)⟩
  rw [upd_ne (fun z => n (by rw [z]; simp [adr]))]; exact q
theorem Frm.bar {H : Hp} {L l r : Addr} {rs : List (Addr × List V)} {rest : LS} (hr : H r = none) (o : HO) : Frm H (upd (upd H r (.lst [])) l o) L ((l, rs) :: rest) ((l, (r, []) :: rs) :: rest) := by
  refine ⟨fun b u e n => ?_, fun b hb => ?_⟩
  · rw [upd_ne (fun z => n (by rw [z]; simp [adr])), upd_ne (ne_of_none e hr)]; exact e
  · have e : adr L ((l, (r, []) :: rs) :: rest) = L :: l :: r :: (rs.map (·.1) ++ rest.flatMap fun l => l.1 :: l.2.map (·.1)) := by simp [adr]
    have e0 : adr L ((l, rs) :: rest) = L :: l :: (rs.map (·.1) ++ rest.flatMap fun l => l.1 :: l.2.map (·.1)) := by simp [adr]
    rw [e] at hb
    rw [e0]
    rcases List.mem_cons.mp hb with z | hb
    · exact .inl (by rw [z]; simp)
    · rcases List.mem_cons.mp hb with z | hb
      · exact .inl (by rw [z]; simp)
      · rcases List.mem_cons.mp hb with z | hb
        · exact .inr (by rw [z]; exact hr)
        · exact .inl (List.mem_cons_of_mem _ (List.mem_cons_of_mem _ hb))
theorem Frm.pop {H : Hp} {L : Addr} {l : Addr × List (Addr × List V)} {rest : LS} (o : HO) : Frm H (upd H L o) L (l :: rest) rest := by
  refine ⟨fun b u e n => ?_, fun b hb => .inl ?_⟩
  · rw [upd_ne (fun z => n (by rw [z]; exact List.mem_cons_self))]; exact e
  · rcases List.mem_cons.mp hb with z | hb
    · rw [z]; exact List.mem_cons_self
    · have e0 : adr L (l :: rest) = L :: (l.1 :: l.2.map (·.1) ++ rest.flatMap fun l => l.1 :: l.2.map (·.1)) := by simp [adr]
      rw [e0]
      exact List.mem_cons_of_mem _ (List.mem_append_right _ hb)
/-- what the levels hold, counted -/
def szl (lv : P4.Lvl) : Nat := 1 + (lv.map fun r => 1 + r.length).sum
def sz (P : P4.Lvls) : Nat := (P.map szl).sum
theorem sz_cons (lv : P4.Lvl) (P : P4.Lvls) : sz (lv :: P) = szl lv + sz P := rfl
theorem szl_cons (r : P4.Row) (lv : P4.Lvl) : szl (r :: lv) = szl lv + 1 + r.length := by simp [szl]; omega
theorem szl_pos (lv : P4.Lvl) : 1 ≤ szl lv := by unfold szl; omega
theorem len_lvl (lv : P4.Lvl) : lv.length ≤ szl lv := by
  induction lv with
  | nil => simp
  | cons r lv ih => rw [szl_cons, List.length_cons]; omega
theorem len_lvls (P : P4.Lvls) : P.length ≤ sz P := by
  induction P with
  | nil => simp
  | cons r lv ih => rw [sz_cons, List.length_cons]; have := szl_pos r; omega
theorem RS_sz {t : List Nat} {i j : Nat} {P P' : P4.Lvls} (h : P4.RS t i P j P') : sz P' ≤ sz P + 2 := by
  have one : ∀ {e : Nat} {p : P4.Pat} {row : P4.Row} {rows : P4.Lvl} {r : P4.Lvls} (q : P4.Pat), P4.RP t i P p e ((row :: rows) :: r) → sz (((row ++ [q]) :: rows) :: r) ≤ sz P + 2 := by
    intro e p row rows r q hp
    have e1 : sz (((row ++ [q]) :: rows) :: r) = sz ((row :: rows) :: r) + 1 := by rw [sz_cons, sz_cons, szl_cons, szl_cons]; simp; omega
    rw [e1]
    cases hp with
    | close _ => rename_i lv _; rw [sz_cons lv]; omega
    | items _ _ => omega
    | esc _ _ => omega
    | plain _ _ => omega
  cases h with
  | opn _ => rw [sz_cons, szl_cons]; simp [szl]; omega
  | bar _ => rw [sz_cons, sz_cons, szl_cons]; simp; omega
  | pce hp _ => exact one _ hp
  | mrk hp _ _ => exact one _ hp
end K4

set_option Elab.async false
set_option linter.all false
set_option maxRecDepth 100000
set_option maxHeartbeats 4000000
namespace L2
open PySem PySem.Spec PyProof.Rows

/-! ### an exception in flight, with its dict -/
theorem dict_mapF (o : Obj) (f : Array Value → Array Value) : (o.mapFields f).dict = o.dict := by
  obtain ⟨c, d, dt, sl⟩ := o
  cases dt <;> rfl
/-- the record at e, its class and dict; its newest entry stands at T, whose flight cell is fl -/
def FlyD (h : Heap) (e : Addr) (cls : Value) (dx : Option Addr) (T : Addr) (fl : Value) : Prop :=
  ∃ oe vs oT ts, h.get? e = some oe ∧ oe.cls = cls ∧ oe.dict = dx ∧ oe.data = .fields vs ∧ vs[1]? = some (.ref T) ∧ T ≠ e ∧ h.get? T = some oT ∧ oT.data = .fields ts ∧ ts[3]? = some fl
/-- all stands as before but what is at as, and the slots of frames -/
structure Moved (fs as : List Addr) (h h' : Heap) : Prop where
  keep : ∀ b o, b ∉ as → b ∉ fs → h.get? b = some o → h'.get? b = some o
  slot : ∀ b o, b ∉ as → h.get? b = some o → ∃ sl, h'.get? b = some { o with slots := sl }
theorem Moved.refl {fs as : List Addr} {h : Heap} : Moved fs as h h := ⟨fun _ _ _ _ e => e, fun _ o _ e => ⟨o.slots, e⟩⟩
theorem Moved.trans {fs as : List Addr} {h h1 h2 : Heap} (a : Moved fs as h h1) (b : Moved fs as h1 h2) : Moved fs as h h2 :=
  ⟨fun c o n f e => b.keep c o n f (a.keep c o n f e), fun c o n e => by
    obtain ⟨s1, e1⟩ := a.slot c o n e
    obtain ⟨s2, e2⟩ := b.slot c _ n e1
    exact ⟨s2, e2⟩⟩
theorem Moved.mono {fs as as' : List Addr} {h h1 : Heap} (a : Moved fs as h h1) (s : ∀ b ∈ as, b ∈ as') : Moved fs as' h h1 :=
  ⟨fun c o n f e => a.keep c o (fun z => n (s c z)) f e, fun c o n e => a.slot c o (fun z => n (s c z)) e⟩

section
variable {M : Model} {A : Around} {E : Value → Shared → Prop} {s : Shared} {base : Heap} {env : Env} {outer : List Env} {L e : Addr}

/-- the flight cell is emptied -/
theorem flight_off {cls fl : Value} {dx : Option Addr} {T : Addr} {fs : List Addr} {Q : Unit → Shared → Prop} (F : FlyD s.heap e cls dx T fl)
    (hq : ∀ h', Moved fs [T] s.heap h' → FlyD h' e cls dx T .none → Q () { s with heap := h' }) : wpAny M A (setFlight (.ref e) none) Q E s := by
  obtain ⟨oe, vs, oT, ts, he, hc, hx, hd, h1, ne, hT, hdT, h3⟩ := F
  have sz : 3 < ts.size := (Array.getElem?_eq_some_iff.mp h3).1
  unfold setFlight
  refine wpAny_bind (wpAny_field he hd h1 ?_)
  rw [if_pos (by simp)]
  refine wpAny_setField hT hdT sz (hq _ ⟨fun b o n _ q => ?_, fun b o n q => ⟨o.slots, ?_⟩⟩ ⟨oe, vs, _, _, ?_, hc, hx, hd, h1, ne, Heap.get?_update_self _ hT (Obj.isFreed_of_fields (Obj.data_mapFields hdT _)), Obj.data_mapFields hdT _, ?_⟩)
  · rw [Heap.get?_update_other _ _ (fun z : T = b => n (by simp [z]))]; exact q
  · rw [Heap.get?_update_other _ _ (fun z : T = b => n (by simp [z]))]; exact q
  · rw [Heap.get?_update_other _ _ ne]; exact he
  · simp [sz]

/-- one more entry for the frame env -/
theorem note_new {oe : Obj} {vs : Array Value} {hd0 : Value} {hn : Bool} {Q : Unit → Shared → Prop} (hfr : A.frames = some (env :: outer)) (hl : s.heap.FunFrames base (env :: outer)) (hf : env.frame = some L)
    (he : s.heap.get? e = some oe) (hd : oe.data = .fields vs) (sz : 1 < vs.size)
    (hq : ∀ h' T, Moved (frs (env :: outer)) [e] s.heap h' → s.heap.objs.size ≤ T → FlyD h' e oe.cls oe.dict T (rawInt L) → Q () { s with heap := h' }) :
    wpAny M A (do
      let a ← frameOf env
      let pl ← entryPlaceOf L hn
      let b ← EntryCells.newEntry hd0 a .none (rawInt L) .none pl
      setField (.ref e) 1 b) Q E s := by
  have efr : e ∉ frs (env :: outer) := fun z => by
    obtain ⟨_, o, ho, nf⟩ := hl.mem z
    rw [he] at ho
    cases ho
    exact nf vs hd
  refine wpAny_bind (wpAny_frameOf_fun hfr hl hf fun h1 x1 => wpAny_bind (wpAny_entryPlaceOf fun pl hpl => ?_))
  unfold EntryCells.newEntry newFields
  refine wpAny_bind (wpAny_newObj_type ?_ (hpl.sizeOk5 _ _ _ _ _))
  have e1 : h1.get? e = some oe := (x1.2.1 e efr).trans he
  have ne : h1.objs.size ≠ e := Nat.ne_of_gt (Heap.lt_size e1)
  have hs1 : h1.objs.size = s.heap.objs.size := x1.1
  have dF := Obj.data_mapFields hd (·.setIfInBounds 1 (Value.ref h1.objs.size))
  have old : ∀ (o₂ : Obj) (b : Addr) (o : Obj), b ≠ e → h1.get? b = some o → ((h1.push o₂).update e (Obj.mapFields (·.setIfInBounds 1 (Value.ref h1.objs.size)))).get? b = some o := fun o₂ b o nb q => by
    rw [Heap.get?_update_other _ _ (Ne.symm nb)]
    exact Heap.get?_push_of_some _ q
  have tb : ∀ o₂ : Obj, o₂.isFreed = false → ((h1.push o₂).update e (Obj.mapFields (·.setIfInBounds 1 (Value.ref h1.objs.size)))).get? h1.objs.size = some o₂ := fun o₂ nf => by
    rw [Heap.get?_update_other _ _ (Ne.symm ne)]
    exact Heap.get?_push_size h1 nf
  refine wpAny_setField (Heap.get?_push_of_some _ e1) hd sz (hq _ h1.objs.size ⟨fun b o n f q => ?_, fun b o n q => ?_⟩ ?_ ⟨_, _, _, _, Heap.get?_update_self _ (Heap.get?_push_of_some _ e1) (Obj.isFreed_of_fields dF), Obj.cls_mapFields _ _, dict_mapF _ _, dF, by simp [sz], ne, tb _ rfl, rfl, ?_⟩)
  · exact old _ b o (fun z => n (by simp [z])) ((x1.2.1 b f).trans q)
  · obtain ⟨sl, q1⟩ := x1.2.2 b o q
    exact ⟨sl, old _ b _ (fun z => n (by simp [z])) q1⟩
  · exact Nat.le_of_eq hs1.symm
  · first
      | (simp; done)
      | (rcases hpl with rfl | ⟨_, _, _, _, _, _, _, rfl⟩ <;> simp)

/-- the frame is noted: of a record without an entry; of one that flies -/
theorem note_first {oe : Obj} {vs : Array Value} {Q : Unit → Shared → Prop} (hfr : A.frames = some (env :: outer)) (hl : s.heap.FunFrames base (env :: outer)) (hf : env.frame = some L)
    (he : s.heap.get? e = some oe) (hd : oe.data = .fields vs) (h1 : vs[1]? = some .none)
    (hq : ∀ h' T, Moved (frs (env :: outer)) [e] s.heap h' → s.heap.objs.size ≤ T → FlyD h' e oe.cls oe.dict T (rawInt L) → Q () { s with heap := h' }) : wpAny M A (noteFrame (.ref e) env) Q E s := by
  unfold noteFrame
  simp only [hf]
  refine wpAny_bind (wpAny_field he hd h1 ?_)
  rw [if_neg (by decide)]
  exact note_new hfr hl hf he hd (Array.getElem?_eq_some_iff.mp h1).1 hq
theorem note_next {cls : Value} {dx : Option Addr} {T0 : Addr} {Q : Unit → Shared → Prop} (hfr : A.frames = some (env :: outer)) (hl : s.heap.FunFrames base (env :: outer)) (hf : env.frame = some L)
    (F : FlyD s.heap e cls dx T0 .none)
    (hq : ∀ h' T, Moved (frs (env :: outer)) [e, T0] s.heap h' → s.heap.objs.size ≤ T → FlyD h' e cls dx T (rawInt L) → Q () { s with heap := h' }) : wpAny M A (noteFrame (.ref e) env) Q E s := by
  obtain ⟨oe, vs, oT, ts, he, hc, hx, hd, h1, ne, hT, hdT, h3⟩ := F
  subst hc hx
  unfold noteFrame
  simp only [hf]
  refine wpAny_bind (wpAny_field he hd h1 ?_)
  rw [if_pos (by simp)]
  refine wpAny_bind (wpAny_field hT hdT h3 ?_)
  rw [if_neg (by simp [rawInt])]
  refine wpAny_bind (wpAny_setField hT hdT (Array.getElem?_eq_some_iff.mp h3).1 ?_)
  have oth : ∀ b, b ≠ T0 → (s.heap.update T0 (Obj.mapFields (·.setIfInBounds 3 Value.none))).get? b = s.heap.get? b := fun b n => Heap.get?_update_other _ _ (Ne.symm n)
  have nT : ∀ b o, s.heap.get? b = some o → (∀ vs, o.data ≠ .fields vs) → b ≠ T0 := fun b o q nf z => by
    rw [z, hT] at q
    cases q
    exact nf ts hdT
  refine note_new hfr (hl.of_keeps fun b o q nf => ⟨o, (oth b (nT b o q nf)).trans q, rfl⟩) hf ((oth e (Ne.symm ne)).trans he) hd (Array.getElem?_eq_some_iff.mp h1).1 fun h' T m nw fd => ?_
  refine hq h' T ⟨fun b o n f q => m.keep b o (fun z => n (by simp at z; simp [z])) f ((oth b fun z => n (by simp [z])).trans q), fun b o n q => m.slot b o (fun z => n (by simp at z; simp [z])) ((oth b fun z => n (by simp [z])).trans q)⟩ ?_ fd
  rw [Heap.size_after_update] at nw
  exact nw
end
end L2

set_option Elab.async false
set_option linter.all false
set_option maxRecDepth 100000
set_option maxHeartbeats 4000000
namespace L2
open PySem PySem.Spec PyProof.Rows

/-! ### how an exception lies behind a call -/
/-- an exception, tracked: its class, its dict -/
def excO (ea : Addr) (cls : Value) (dx : Option Addr) : HO := .ext fun h => ∃ oe vs, h.get? ea = some oe ∧ oe.cls = cls ∧ oe.dict = dx ∧ oe.data = .fields vs
theorem excO_ok {P : Program} {w : World} {H : Hp} {h : Heap} {ea : Addr} {cls : Value} {dx : Option Addr} {oe : Obj} {vs : Array Value} (e : h.get? ea = some oe) (c : oe.cls = cls) (d : oe.dict = dx) (f : oe.data = .fields vs) :
    ObjOk P w H h ea (excO ea cls dx) :=
  ⟨⟨oe, vs, e, c, d, f⟩, ⟨oe, e⟩, fun _ _ ⟨o, ws, q, r⟩ k => ⟨o, ws, k o q, r⟩⟩
theorem FlyD.ok {P : Program} {w : World} {H : Hp} {h : Heap} {ea T : Addr} {cls fl : Value} {dx : Option Addr} (F : FlyD h ea cls dx T fl) : ObjOk P w H h ea (excO ea cls dx) := by
  obtain ⟨oe, vs, _, _, he, hc, hx, hd, _⟩ := F
  exact excO_ok he hc hx hd
/-- the record at ea flies; it and its entry were made behind h0; the entry is not tracked -/
def Flies (h0 : Heap) (H : Hp) (h : Heap) (ea : Addr) (cls : Value) (dx : Option Addr) : Prop :=
  ∃ T, FlyD h ea cls dx T .none ∧ H T = none ∧ H ea = some (excO ea cls dx) ∧ h0.objs.size ≤ T ∧ h0.objs.size ≤ ea
def CX1 (P : Program) (w : World) : CXT := fun outer H s E e s' =>
  ∃ ea cls dx H', e = .ref ea ∧ s'.os = s.os ∧ AllBare s'.gens ∧ Un (frs outer) [] H H' s.heap s'.heap ∧ HOk P w H' s'.heap ∧ Flies s.heap H' s'.heap ea cls dx ∧ E cls dx H'

section
variable {X : Cx} {pins : List (Addr × Obj)} {σ : St} {H : Hp} {s : Shared} {M : Model} {A : Around} {E' : Value → Shared → Prop} {E : XK} {ea : Addr} {cls : Value} {dx : Option Addr}
/-- a frame is noted, then left -/
theorem leaves_of {as : List Addr} (J : Inv X pins σ H s) (hst : X.stack = X.env :: X.outer) (hex : X.ex = [])
    (hn : ∀ Q : Unit → Shared → Prop, (∀ h' T, Moved (frs X.stack) as s.heap h' → s.heap.objs.size ≤ T → FlyD h' ea cls dx T (rawInt X.env.locals) → Q () { s with heap := h' }) → wpAny M A (noteFrame (.ref ea) X.env) Q E' s)
    (has : ∀ b ∈ as, (H b = none ∨ b = ea) ∧ X.s₀.heap.objs.size ≤ b) (hea : H ea = some (excO ea cls dx) ∧ X.s₀.heap.objs.size ≤ ea) (hE : E cls dx H) :
    wpAny M A (leaving X.env (.ref ea)) (fun _ s'' => CX1 X.prog X.w X.outer X.H₀ X.s₀ E (.ref ea) s'') E' s := by
  unfold leaving
  refine wpAny_bind (hn _ fun h1 T m1 lT F1 => flight_off (fs := frs X.stack) F1 fun h2 m2 F2 => ?_)
  have nT : s.heap.get? T = none := Heap.get?_none_of_le lT
  have fre : H T = none := J.hok.fresh lT
  have mm : Moved (frs X.stack) (T :: as) s.heap h2 := (m1.mono fun b hb => List.mem_cons_of_mem _ hb).trans (m2.mono fun b hb => by simp at hb; simp [hb])
  have s0T : X.s₀.heap.objs.size ≤ T := Nat.le_trans J.sz lT
  have old : ∀ b o, X.s₀.heap.get? b = some o → b ∉ T :: as := fun b o q z => by
    rcases List.mem_cons.mp z with z | z
    · rw [z, Heap.get?_none_of_le s0T] at q; cases q
    · rw [Heap.get?_none_of_le (has b z).2] at q; cases q
  have base : Un X.fs [] X.H₀ H X.s₀.heap s.heap := by have u := J.base; rw [hex] at u; exact u
  refine ⟨ea, cls, dx, H, rfl, J.os, J.bare, ⟨?_, ?_, base.free, ?_, base.tups, base.frzs, base.tbls⟩, ?_, ⟨T, F2, fre, hea.1, s0T, hea.2⟩, hE⟩
  · intro b o q n f x
    refine mm.keep b o (old b o q) (fun z => ?_) (base.keep b o q n f x)
    rcases List.mem_cons.mp (J.stkSub b z) with z | z
    · exact absurd (Nat.lt_of_lt_of_le (Heap.lt_size q) (z ▸ J.ok.above)) (Nat.lt_irrefl _)
    · exact f z
  · intro b o q n f x
    obtain ⟨sl, q1⟩ := base.slot b o q n f x
    obtain ⟨s2, q2⟩ := mm.slot b _ (old b o q) q1
    exact ⟨s2, q2⟩
  · intro b o q x
    obtain ⟨o', q1⟩ := base.there b o q x
    obtain ⟨s2, q2⟩ := mm.slot b _ (old b o q) q1
    exact ⟨_, q2⟩
  · intro a o q
    by_cases ha : a = ea
    · subst ha
      rw [hea.1] at q
      cases q
      exact F2.ok
    have tr : ∀ b, H b ≠ none → b ≠ ea → b ∉ T :: as ∧ b ∉ frs X.stack := fun b n ne => ⟨fun z => by
      rcases List.mem_cons.mp z with z | z
      · exact n (z ▸ fre)
      · rcases (has b z).1 with y | y
        · exact n y
        · exact ne y, fun z => n (J.stkFree b z)⟩
    refine (J.hok a o q).stay (fun b u hb e => ?_) (fun _ z => z) fun _ _ z => z
    have hb' : H b ≠ none ∧ b ≠ ea := by
      rcases hb with rfl | hb
      · exact ⟨by rw [q]; exact Option.some_ne_none _, ha⟩
      · refine ⟨by rw [hb]; exact Option.some_ne_none _, fun z => ?_⟩
        rw [z, hea.1] at hb
        cases hb
    exact mm.keep b u (tr b hb'.1 hb'.2).1 (tr b hb'.1 hb'.2).2 e

/-- an exception that a callee let through leaves this frame too -/
theorem leaves_on (J : Inv X pins σ H s) (hfr : A.frames = some (X.env :: X.outer)) (hst : X.stack = X.env :: X.outer) (hf : X.env.frame = some X.env.locals) (hex : X.ex = []) (F : Flies X.s₀.heap H s.heap ea cls dx) (hE : E cls dx H) :
    wpAny M A (leaving X.env (.ref ea)) (fun _ s'' => CX1 X.prog X.w X.outer X.H₀ X.s₀ E (.ref ea) s'') E' s := by
  obtain ⟨T, fd, t1, t2, t3, t4⟩ := F
  refine leaves_of (as := [ea, T]) J hst hex (fun Q k => ?_) (fun b hb => ?_) ⟨t2, t4⟩ hE
  · have hl := J.stack
    rw [hst] at hl k
    exact note_next hfr hl hf fd k
  · rcases List.mem_cons.mp hb with rfl | hb
    · exact ⟨.inr rfl, t4⟩
    · obtain rfl : b = T := by simpa using hb
      exact ⟨.inl t1, t3⟩
/-- one that is raised here -/
theorem leaves_first {oe : Obj} {vs : Array Value} (J : Inv X pins σ H s) (hfr : A.frames = some (X.env :: X.outer)) (hst : X.stack = X.env :: X.outer) (hf : X.env.frame = some X.env.locals) (hex : X.ex = [])
    (he : s.heap.get? ea = some oe) (hd : oe.data = .fields vs) (h1 : vs[1]? = some .none) (hea : H ea = some (excO ea oe.cls oe.dict) ∧ X.s₀.heap.objs.size ≤ ea) (hE : E oe.cls oe.dict H) :
    wpAny M A (leaving X.env (.ref ea)) (fun _ s'' => CX1 X.prog X.w X.outer X.H₀ X.s₀ E (.ref ea) s'') E' s := by
  refine leaves_of (as := [ea]) J hst hex (fun Q k => ?_) (fun b hb => ?_) hea hE
  · have hl := J.stack
    rw [hst] at hl k
    exact note_first hfr hl hf he hd h1 k
  · obtain rfl : b = ea := by simpa using hb
    exact ⟨.inr rfl, hea.2⟩
end

section
variable {P : Program} {w : World} {K : PySem.W.Frag} {mg : Str → Option Value} {base : Heap} {N : List Str} {qual : Str} {scope : Scope} {f : Addr} {cd : Value} {A : Around} {outer : List Env} {s : Shared} {H : Hp} {E E' : XK}
/-- a callee's exception passes through a def's body -/
theorem pass1 (hE : ∀ c d H', E' c d H' → E c d H') : Passes (CX1 P w) (cxOf (CX1 P w) P w K mg base N qual scope f cd A outer s H E) E' := by
  rintro pins σ H1 s1 e s' I ⟨ea, cls, dx, H', rfl, os, bare, un, hok, ⟨T, fd, t1, t2, t3, t4⟩, q⟩
  have J := I.call' (ch := []) os un hok bare (fun b z => absurd z (by simp))
  have up : s.heap.objs.size ≤ s1.heap.objs.size := I.sz
  refine wpAny_mono (leaves_on (E := E) J I.ok.frames rfl rfl rfl ⟨T, fd, t1, t2, Nat.le_trans up t3, Nat.le_trans up t4⟩ (hE _ _ _ q)) (fun _ _ z => z) fun _ _ z => z
end
end L2

set_option Elab.async false
set_option linter.all false
set_option maxRecDepth 100000
set_option maxHeartbeats 4000000
namespace L2
open PySem PySem.Spec PyProof.Rows PySem.W PySem.Builtin PySem.Builtin.ObjectAttr

section
variable {prog : Program} {w : World} {A : Around} {E : Value → Shared → Prop} {K : Frag} {C x : Addr} {s : Shared} {cd : ClassData}

/-- what the class of an own exception must be: all of it is reckoned from the text's objects -/
structure XC (K : Frag) (C : Addr) (cd : ClassData) : Prop where
  cls : clsIn K C = some cd
  sa : findIn K (.ref C) "__setattr__" = some (some (.builtin "object.__setattr__"))
  pass : ∀ self : Value, refuseLoop self "__setattr__" cd.mro = pure ()
  obj : cd.mro.contains (.type "object") = true
  dict : cd.hasDict = true

/-- self.name = v, of an exception without a dict: a dict is made -/
theorem xset {name : Str} {v : Value} {vs : Array Value} {sl : Array (Option Value)} {Q : Unit → Shared → Prop} (X : K.In s.heap) (c : XC K C cd) (ht : takerIn K C name = some none)
    (hx : s.heap.get? x = some ⟨.ref C, none, .fields vs, sl⟩)
    (h : ∀ h', (∀ b o, b ≠ x → s.heap.get? b = some o → h'.get? b = some o) → h'.get? x = some ⟨.ref C, some s.heap.objs.size, .fields vs, sl⟩ → h'.Ns1 s.heap.objs.size (fun y => if y = name then some v else none) →
      Q () { s with heap := h', toks := s.toks + 2 }) : wpAny (model prog w) A (setAttr (.ref x) name v) Q E s := by
  have I : InstAt s.heap x ⟨.ref C, none, .fields vs, sl⟩ C none := ⟨hx, rfl, rfl, trivial⟩
  have SF := PySem.F.store_object
  have ne : cd.mro.isEmpty = false := by
    cases q : cd.mro with
    | nil => have := c.obj; rw [q] at this; cases this
    | cons _ _ => rfl
  have sub : Looks (model prog w) s.heap (isInstance (.ref x) (.type "object")) true := I.type.andThen (looks_mroIn X (by unfold mroIn; rw [c.cls, Option.bind_some, if_neg (by rw [ne]; decide), c.obj]))
  refine set_plain X I c.sa ?_
  refine codeAny_call_builtin SF.slot.plain SF.entry (@check_slot (model prog w) _ _ { s with toks := s.toks + 1 } _ "object" "__setattr__" (.ref x) [.str name s.toks, v] [] _ SF.kind SF.split sub (SF.args (.ref x) _ v) ?_)
  obtain ⟨attr, ha, hr⟩ := Option.bind_eq_some_iff.mp ht
  have mro : Looks (model prog w) s.heap (mroOf (.ref C)) cd.mro := (looks_clsIn X c.cls).andThen .now
  have tk : Looks (model prog w) s.heap (storeTaker? attr) none := by
    cases attr with
    | none => exact .now
    | some a =>
      obtain ⟨b, hb, z⟩ := Option.map_eq_some_iff.mp hr
      refine (looks_takesIn X hb).andThen ?_
      cases b with
      | true => cases z
      | false => exact .now
  rw [osa_eq, refuse_eq]
  refine wpAny_bind (wpAny_bind (Looks.here (s := { s with toks := s.toks + 1 }) I.type (wpAny_bind (Looks.here (s := { s with toks := s.toks + 1 }) mro ?_))))
  rw [c.pass]
  refine wpAny_pure (wpAny_bind (Looks.here (s := { s with toks := s.toks + 1 }) I.type (wpAny_bind (Looks.here (s := { s with toks := s.toks + 1 }) (looks_findIn X ha) (wpAny_bind (Looks.here (s := { s with toks := s.toks + 1 }) tk ?_))))))
  have e1 := Heap.get?_push_of_some (h := s.heap) { cls := .type "dict", data := .dict #[] } hx
  have nx : x ≠ s.heap.objs.size := Nat.ne_of_lt (Heap.lt_size hx)
  have e2 := Heap.get?_update_self (fun o : Obj => { o with dict := some s.heap.objs.size }) e1 rfl
  have e3 : ((s.heap.push { cls := .type "dict", data := .dict #[] }).update x (fun o : Obj => { o with dict := some s.heap.objs.size })).get? s.heap.objs.size = some { cls := .type "dict", data := .dict #[] } := by
    rw [Heap.get?_update_other _ _ nx]
    exact Heap.get?_push_size _ rfl
  have n0 : ((s.heap.push { cls := .type "dict", data := .dict #[] }).update x (fun o : Obj => { o with dict := some s.heap.objs.size })).Ns s.heap.objs.size (fun _ => none) := ⟨_, #[], _, e3, rfl, fun e he => absurd he (by simp), fun _ => rfl⟩
  dsimp only
  unfold storeInOwnDict
  refine wpAny_bind (wpAny_pure (wpAny_bind ?_))
  unfold ownDictForStores instanceDict
  refine wpAny_bind (wpAny_loadPart hx (wpAny_bind (Looks.here (s := { s with toks := s.toks + 1 }) (looks_clsIn X c.cls) ?_)))
  rw [c.dict]
  refine wpAny_bind (wpAny_alloc (wpAny_bind (wpAny_update e1 (wpAny_pure ?_))))
  show wpAny _ _ (storeInDict s.heap.objs.size (.str name s.toks) name v) _ _ _
  unfold storeInDict newKeyGuard
  refine wpAny_bind (wpAny_pure (wpAny_bind (wpAny_nsSet1 (Heap.Ns1.of_empty n0) fun h' n1 sb => ?_)))
  obtain ⟨oD, es, ep, hoD, hdD, hcD⟩ := n1.count (Within.cons name v Within.nil)
  refine wpAny_bind (wpAny_lookBehind hoD (by rw [hdD]; exact pastItsLine_dict (Nat.le_trans hcD (by rw [sizeLine_eq]; show (1 : Nat) ≤ _; decide))) ?_)
  refine wpAny_pure (h h' (fun b o nb q => ?_) ((sb.2 x nx).trans e2) n1)
  refine (sb.2 b (Nat.ne_of_lt (Heap.lt_size q))).trans ?_
  rw [Heap.get?_update_other _ _ (Ne.symm nb)]
  exact Heap.get?_push_of_some _ q
end
end L2

set_option Elab.async false
set_option linter.all false
set_option maxRecDepth 100000
set_option maxHeartbeats 4000000
namespace L2
open PySem PySem.Spec PyProof.Rows PySem.W

/-- a new exception of the class at C: its args, no dict, no entry -/
abbrev newObj (C : Addr) (dx : Option Addr) (a0 : Value) : Obj := { cls := .ref C, dict := dx, data := .fields #[a0, .none, .none, .none, .bool false, .none] }
abbrev argsObj (rest : List Value) : Obj := { cls := .type "tuple", data := .seq rest.toArray }

section
variable {prog : Program} {w : World} {A : Around} {E : Value → Shared → Prop} {h : Heap} {g : Array GenState} {d : Drawn} {t : Nat} {os : OsState}
variable {nm qn : Str} {C N : Addr} {bs bm bmB : List Value} {hdct : Bool} {sn : List Str} {sub : List Value} {ab : Bool} {col : Option Bool} {dd : Option Addr} {k0 k1 k2 k3 k5 : Option Value} {B newId initId : String}
  {mN : Str → Option Value} {rest : List Value} {fI : Addr} {oI : Obj}

/-- C(..) of an own exception class under own classes, with an __init__ of its own -/
theorem mk_tree (F : ExcBaseFacts B newId initId bmB) (T : OwnTail h bmB bm) {Q : Fin → Shared → Prop} (hC : h.get? C = some (excClassObj nm qn C N bs bm hdct sn sub ab col dd k0 k1 k2 k3 k5 newId)) (hn : h.Ns N mN)
    (hi : mN "__init__" = some (.ref fI)) (hf : h.get? fI = some oI) (hfc : oI.cls = .type "function") (hz : rest.length ≤ sizeLine)
    (hq : wpAny (model prog w) A (call (.ref fI) (.ref (h.objs.size + 1) :: rest)) (fun r s' => r = .none ∧ Q (.done (.ret (.ref (h.objs.size + 1)))) s') E ⟨(h.push (argsObj rest)).push (newObj C none (.ref h.objs.size)), g, d, t, os⟩) :
    wpAny (model prog w) A (Builtin.«type.__call__» ⟨.ref C :: rest, []⟩) Q E ⟨h, g, d, t, os⟩ := by
  repeat (first
    | with_reducible refine wpAny_loadPart_at hC ?_
    | with_reducible refine wpAny_madeBy_exc hC ?_
    | wp_step)
  refine codeAny_call_builtin_code (Code.quiet_builtin _ F.quiet) (wpAny_check_new_subT F T hC (codeAny_exc_new_subT F T hC ?_ hz))
  show wpAny _ _ _ _ _ _
  have up : ∀ b o, h.get? b = some o → ((h.push (argsObj rest)).push (newObj C none (.ref h.objs.size))).get? b = some o := fun b o e => Heap.get?_push_of_some _ (Heap.get?_push_of_some _ e)
  have c1 := up _ _ hC
  have f1 := up _ _ hf
  have n1 := hn.keeps up
  have g1 : ((h.push (argsObj rest)).push (newObj C none (.ref h.objs.size))).get? (h.objs.size + 1) = some (newObj C none (.ref h.objs.size)) := by heap_get
  have me : (Value.ref C :: bm).contains (.ref C) = true := by simp
  unfold isInstance
  repeat (first
    | with_reducible refine wpAny_loadPart_at g1 ?_
    | (with_reducible refine wpAny_isSubtype_exc c1 ?_; rw [me])
    | wp_step)
  show wpAny _ _ (typeLookup (.ref C) _) _ _ _
  refine wpAny_typeLookup_tail c1 n1 (T.keeps up) F.mroIs F.init.lookup ?_
  rw [hi]
  refine wpAny_holding (wpAny_bind ?_)
  unfold bindSpecial
  refine wpAny_bind (wpAny_typeOf (T := "function") ⟨_, f1, hfc⟩ ?_)
  rw [if_pos (by decide)]
  refine wpAny_pure (wpAny_bind (wpAny_mono hq (fun r s' z => ?_) fun _ _ z => z))
  obtain ⟨rfl, z⟩ := z
  wp_walk
  exact z

theorem mk_exc (F : ExcBaseFacts B newId initId bmB) (T : OwnTail h bmB bm) {Q : Value → Shared → Prop} (hC : h.get? C = some (excClassObj nm qn C N bs bm hdct sn sub ab col dd k0 k1 k2 k3 k5 newId)) (hn : h.Ns N mN)
    (hi : mN "__init__" = some (.ref fI)) (hf : h.get? fI = some oI) (hfc : oI.cls = .type "function") (hz : rest.length ≤ sizeLine)
    (hq : wpAny (model prog w) (A.under (.builtin "type.__call__" ⟨.ref C :: rest, []⟩)) (call (.ref fI) (.ref (h.objs.size + 1) :: rest)) (fun r s' => r = .none ∧ Q (.ref (h.objs.size + 1)) s') E
      ⟨(h.push (argsObj rest)).push (newObj C none (.ref h.objs.size)), g, d, t, os⟩) :
    wpAny (model prog w) A (call (.ref C) rest) Q E ⟨h, g, d, t, os⟩ := by
  have a1 := tc_lookup
  have a2 := tc_bind (.ref C)
  have a3 : (⟨h, g, d, t, os⟩ : Shared).TypeIs (.ref C) "type" := ⟨_, hC, rfl⟩
  refine wpAny_call (codeAny_of_tree ?_)
  show wpAny _ _ (callAny (.ref C) _) _ _ _
  repeat (any_goals (first
    | assumption
    | with_reducible refine wpAny_loadPart_at hC ?_
    | wp_step))
  exact ⟨rfl, codeAny_call_builtin_at (Code.quiet_builtin _ (by decide +kernel)) entry_typeCall (wpAny_check_type_call_sub hC (mk_tree F T hC hn hi hf hfc hz hq))⟩
end

/-! ### from the text's objects -/
def xIn (K : Frag) (C fI : Addr) (bmB : List Value) (newId : String) : Bool := match K.lookup C with
  | some ⟨.type "type", _, .cls c, sl⟩ => (match c.mro, sl.toList with
    | .ref D :: bm, [_, _, _, _, some (.builtin n), _] => D == C && n == newId && !c.hasDel && tailIn K bmB bm && nsOkIn K c.ns && (nsIn K c.ns "__init__" == some (some (.ref fI)))
    | _, _ => false)
  | _ => false
theorem ns_some_of {K : Frag} {h : Heap} {N : Addr} {m : Str → Option Value} {n : Str} {v : Value} (X : K.In h) (G : h.Ns N m) (e : nsIn K N n = some (some v)) : m n = some v := by
  obtain ⟨o, es, ep, ho, hd, _, hf⟩ := G
  unfold nsIn at e
  split at e
  · rename_i c d es' n' sl q
    have := X _ _ q
    rw [ho] at this
    cases this
    cases hd
    split at e
    · rename_i en he
      cases e
      rw [← hf]
      unfold nsFind findBy
      rw [← Array.find?_toList, he]
      rfl
    · split at e <;> cases e
  · cases e
theorem x_of {K : Frag} {h : Heap} {C fI : Addr} {bmB : List Value} {newId : String} (X : K.In h) (q : xIn K C fI bmB newId = true) :
    ∃ nm qn N bs bm hdct sn sub ab col dd k0 k1 k2 k3 k5 mN, h.get? C = some (excClassObj nm qn C N bs bm hdct sn sub ab col dd k0 k1 k2 k3 k5 newId) ∧ h.Ns N mN ∧ mN "__init__" = some (.ref fI) ∧ OwnTail h bmB bm := by
  unfold xIn at q
  split at q
  · rename_i dd c sl ho
    split at q
    · rename_i D bm k0 k1 k2 k3 n k5 hm hs
      simp only [Bool.and_eq_true, beq_iff_eq, Bool.not_eq_true'] at q
      obtain ⟨⟨⟨⟨⟨rfl, rfl⟩, hdel⟩, ht⟩, hok⟩, hin⟩ := q
      obtain ⟨nm, bs, mro, ns, qn, hd, sn, sub, ab, col, del⟩ := c
      dsimp only at hm hdel hok hin
      subst hm hdel
      have hsl : sl = #[k0, k1, k2, k3, some (.builtin n), k5] := by
        obtain ⟨l⟩ := sl
        simp only at hs
        rw [hs]
      subst hsl
      have hN : h.Ns ns (h.nsMap ns) := .of_isNs (isNs_of_in X hok)
      exact ⟨nm, qn, ns, bs, bm, hd, sn, sub, ab, col, dd, k0, k1, k2, k3, k5, _, X _ _ ho, hN, ns_some_of X hN hin, tail_of_in X ht⟩
    · cases q
  · cases q
end L2

set_option Elab.async false
set_option linter.all false
set_option maxRecDepth 100000
set_option maxHeartbeats 4000000
namespace L2
open PySem PySem.Spec PyProof.Rows PySem.W

/-! ### a new exception, tracked, not yet raised -/
def newX (ea C : Addr) (dx : Option Addr) : HO := .ext fun h => ∃ a0 : Addr, h.get? ea = some (newObj C dx (.ref a0))
theorem newX_ok {P : Program} {w : World} {H : Hp} {h : Heap} {ea C : Addr} {dx : Option Addr} {a0 : Addr} (e : h.get? ea = some (newObj C dx (.ref a0))) : ObjOk P w H h ea (newX ea C dx) :=
  ⟨⟨a0, e⟩, ⟨_, e⟩, fun _ _ ⟨a, q⟩ k => ⟨a, k _ q⟩⟩
section
variable {X : Cx} {pins : List (Addr × Obj)} {σ : St} {H : Hp} {s : Shared} {h' : Heap} {ea C : Addr} {dx : Option Addr}
theorem Inv.newX (I : Inv X pins σ H s) (e : H ea = some (newX ea C dx)) : ∃ a0 : Addr, s.heap.get? ea = some (newObj C dx (.ref a0)) := (I.hok ea _ e).1
/-- one tracked exception is changed, one new object is laid behind the heap's end or none -/
theorem Inv.exch {o : HO} {φ : Heap → Prop} {n : Option HO} {t' : Nat} (I : Inv X pins σ H s) (e : H ea = some (.ext φ)) (k : ∀ b u, b ≠ ea → s.heap.get? b = some u → h'.get? b = some u) (hz : ∃ u, h'.get? ea = some u)
    (hne : ea ≠ s.heap.objs.size)
    (ok1 : ∀ H', ObjOk X.prog X.w H' h' ea o) (ok2 : ∀ m, n = some m → ∀ H', ObjOk X.prog X.w H' h' s.heap.objs.size m) :
    Inv X pins σ (upd (match n with | some m => upd H s.heap.objs.size m | none => H) ea o) { s with heap := h', toks := t' } := by
  have fr : H s.heap.objs.size = none := I.hok.fresh (Nat.le_refl _)
  have other : ∀ b, b ≠ ea → b ≠ s.heap.objs.size → upd (match n with | some m => upd H s.heap.objs.size m | none => H) ea o b = H b := fun b n1 n2 => by
    rw [upd_ne n1]
    cases n with
    | none => rfl
    | some m => exact upd_ne n2
  have nea : ∀ b u, H b = some u → (∀ ψ, u ≠ .ext ψ) → b ≠ ea := fun b u q d z => by
    rw [z, e] at q
    cases q
    exact d _ rfl
  have nsz : ∀ b u, H b = some u → b ≠ s.heap.objs.size := fun b u q z => by
    rw [z, fr] at q
    cases q
  refine I.un ⟨fun b u q n1 _ _ => ?_, fun b u q n1 _ _ => ⟨u.slots, ?_⟩, fun b u q n1 _ => ?_, fun b u q _ => ?_, fun b xs q => ?_, fun b u v q => ?_, fun b ps q => ⟨#[], ?_⟩⟩ fun a u q => ?_
  · exact k b u (fun z => by rw [z, e] at n1; cases n1) q
  · exact k b u (fun z => by rw [z, e] at n1; cases n1) q
  · rw [other b (fun z => by rw [z, e] at n1; cases n1) (Nat.ne_of_lt (Heap.lt_size q))]; exact n1
  · by_cases z : b = ea
    · rw [z]; exact hz
    · exact ⟨u, k b u z q⟩
  · rw [other b (nea b _ q (fun _ z => by cases z)) (nsz b _ q)]; exact q
  · rw [other b (nea b _ q (fun _ z => by cases z)) (nsz b _ q)]; exact q
  · rw [other b (nea b _ q (fun _ z => by cases z)) (nsz b _ q), Array.append_empty]; exact q
  · by_cases z : a = ea
    · subst z
      rw [upd_same] at q
      cases q
      exact ok1 _
    · by_cases z2 : a = s.heap.objs.size
      · subst z2
        rw [upd_ne z] at q
        cases n with
        | none => dsimp only at q; rw [fr] at q; cases q
        | some m =>
          dsimp only at q
          rw [upd_same] at q
          cases q
          exact ok2 _ rfl _
      · rw [other a z z2] at q
        refine (I.hok a u q).stay (fun b v hb r => k b v ?_ r) (fun b r => ?_) fun b xs r => ?_
        · rcases hb with rfl | hb
          · exact z
          · exact nea b _ hb (fun _ y => by cases y)
        · rw [other b (nea b _ r (fun _ y => by cases y)) (nsz b _ r)]; exact r
        · rw [other b (nea b _ r (fun _ y => by cases y)) (nsz b _ r)]; exact r
end

/-! ### f'..{e}..' of an int: some text -/
section
variable {X : Cx}
def tFmt (t : TE) : TE := fun σ H Q => t σ H fun v H1 => ∃ i : Int, v = .int i ∧ i.natAbs.log2 < 1920 ∧ ∀ y, Q (.str y) H1
theorem pe_fmt {e : Expr} {te : TE} {a b : Str} {j j' : Nat} {p1 p2 p3 pos : Pos} (he : PE X e te) (ha : a.length ≤ 1000) (hb : b.length ≤ 1000) :
    PE X (.JoinedStr [.Constant (.str a) j p1, .FormattedValue e (-1) none p2, .Constant (.str b) j' p3] pos) (tFmt te) := by
  intro pins s σ H Q I h
  refine wpAny_JoinedStr ?_
  show wpAny _ _ (eval _ X.env) _ _ _
  refine Calls.Constant_str ⟨a, _, rfl, ?_, ?_⟩
  · show (Str.empty ++ a).length ≤ sizeLine
    rw [strLen_append, sizeLine_eq]
    show 0 + a.length ≤ _
    omega
  show wpAny _ _ (eval _ X.env) _ _ _
  refine wpAny_FormattedValue_plain (thn (he pins _ σ H _ (I.tok _) h) fun u s1 ⟨v, H1, I1, rv, i, ei, hi, q⟩ => ?_)
  subst ei
  obtain ⟨tk, rfl⟩ := (show ∃ t, u = Value.int i t from rv)
  have fit : (Str.ofString (toString i)).length ≤ 1921 := by
    rw [PySem.ofString_length]
    exact int_text_length_le (k := 1920) (by decide) hi
  have l0 : (Str.empty ++ a).length = a.length := by rw [strLen_append]; exact Nat.zero_add _
  refine wpAny_formatField_int hi ⟨_, _, rfl, ?_, ?_⟩
  · rw [strLen_append, l0, sizeLine_eq]
    have : (Str.ofString (toString i)).length ≤ 1921 := fit
    show a.length + (Str.ofString (toString i)).length ≤ _
    omega
  show wpAny _ _ (eval _ X.env) _ _ _
  have ll : (Str.empty ++ a ++ Str.ofString (toString i) ++ b).length ≤ sizeLine := by
    rw [strLen_append, strLen_append, l0, sizeLine_eq]
    omega
  refine Calls.Constant_str ⟨b, _, rfl, ll, ?_⟩
  exact ⟨ll, .str _, H1, ((I1.tok _).tok _).tok _, ⟨_, rfl⟩, q _⟩
end
end L2

set_option Elab.async false
set_option linter.all false
set_option maxRecDepth 100000
set_option maxHeartbeats 4000000
namespace L2
open PySem PySem.Spec PyProof.Rows PySem.W

theorem upd_id {H : Hp} {a : Addr} {o : HO} (h : H a = some o) : upd H a o = H := by
  funext b
  by_cases z : b = a
  · rw [z, upd_same, h]
  · exact upd_ne z
section
variable {X : Cx}
/-! ### self.f = v, in an exception's __init__ -/
def sXF (K : Frag) (ta tv : TE) (f : Str) : TS := fun D σ H => tv σ H fun y H1 => ta σ H1 fun v H2 => ∃ ea C cd, v = .ref ea ∧ H2 ea = some (newX ea C none) ∧ XC K C cd ∧ takerIn K C f = some none ∧
  ∀ dx, H2 dx = none → dx ≠ ea → D.nx σ (upd (upd H2 dx (.xd [(f, y)])) ea (newX ea C (some dx)))
theorem ps_xfld {o value : Expr} {f : Str} {pos pos' : Pos} {ta tv : TE} (ha : PE X o ta) (hv : PE X value tv) (hs : swapsWith value (some (.Attribute o f pos')) pos.line X.env = pure false) : PS X (.Assign [.Attribute o f pos'] value pos) (sXF X.K ta tv f) := by
  intro pins s σ H D I h
  refine plainObj_wpAny_Assign_Attribute (thn (hv pins s σ H _ I h) fun u s1 ⟨y, H1, I1, ry, q⟩ => thn (ha pins s1 σ H1 _ I1 q) fun ov s2 ⟨v, H2, I2, rx, ea, C, cd, ev, eH, c, t, q2⟩ => ?_) hs
  subst ev
  obtain rfl : ov = Value.ref ea := rx
  obtain ⟨a0, e0⟩ := I2.newX eH
  have lt : ea ≠ s2.heap.objs.size := Nat.ne_of_lt (Heap.lt_size e0)
  refine xset I2.kIn c t e0 fun h' k e1 n1 => ⟨σ, _, ?_, q2 s2.heap.objs.size (I2.hok.fresh (Nat.le_refl _)) (Ne.symm lt)⟩
  refine I2.exch (n := some (.xd [(f, y)])) (o := newX ea C (some s2.heap.objs.size)) eH k ⟨_, e1⟩ lt (fun H' => newX_ok e1) fun m em H' => ?_
  cases em
  refine ⟨_, n1, fun g => ?_⟩
  by_cases z : g = f
  · subst z
    show RelO (List.lookup g [(g, y)]) (if g = g then some u else none)
    rw [if_pos rfl]
    simp only [List.lookup, beq_self_eq_true]
    exact ry
  · show RelO (List.lookup g [(f, y)]) (if g = f then some u else none)
    rw [if_neg z]
    have zb : (g == f) = false := by simpa using z
    simp only [List.lookup, zb]
    trivial

/-! ### B.__init__(self, text) -/
structure BI (K : Frag) (W : Addr) (initId : String) : Prop where
  ga : specialIn K (.ref W) "__getattribute__" = some (some (.builtin "type.__getattribute__"))
  rd : ∃ mc, readsIn K W mc = true ∧ findCls K (.ref W) mc "__init__" = some (.val (.builtin initId))
  hd : handedIn (.builtin initId) = true
def tBI (K : Frag) (bmB : List Value) (newId : String) (t : TA) : TE := fun σ H Q => t σ H fun vs H1 => ∃ ea C fI dx y, vs = [.ref ea, y] ∧ H1 ea = some (newX ea C dx) ∧ xIn K C fI bmB newId = true ∧ Q .non H1
theorem pe_binit {Wn : Str} {W : Addr} {e1 : Expr} {es : List Expr} {p apos pos : Pos} {t : TA} {B newId initId : String} {bmB : List Value} {pl : Sem Bool} (F : ExcBaseFacts B newId initId bmB) (b : BI X.K W initId) (hg : Gl X Wn) (hm : X.mg Wn = some (.ref W))
    (ha : PA X (e1 :: es) t) (hdb : (Wn == ("__debug__" : Str)) = false := by decide)
    (he : starEach (e1 :: es) X.env = (false, eval e1 X.env) :: starEach es X.env := by rfl) (hpl : (backTo pos (starEach es X.env)).any (·.1) = false := by rfl)
    (ht : eval (.Call (.Attribute (.Name Wn p) "__init__" apos) (e1 :: es) [] pos) X.env = (do
      let ov ← eval (.Name Wn p) X.env
      standAt apos.atName
      let (f, first) ← holding [ov] (getMethod ov "__init__" pl)
      callWith pos f first (backTo pos (starEach (e1 :: es) X.env)) (backToKw pos (keywordEach [] X.env))) := by rfl) :
    PE X (.Call (.Attribute (.Name Wn p) "__init__" apos) (e1 :: es) [] pos) (tBI X.K bmB newId t) := by
  intro pins s σ H Q I h
  refine methodCall_KW (pl := pl) (ld_glob I hg hm ?_ hdb) ht
  obtain ⟨mc, r1, r2⟩ := b.rd
  refine method_cls I.kIn b.ga (cls_value I.kIn r1 r2 b.hd ?_)
  refine PyProof.Rows.callWith_builtin1 (thn (ha pos pins _ σ H _ (I.tok _) h) fun us s1 ⟨vs, H1, I1, r1, ea, C, fI, dx, y, ev, eH, hx, q⟩ => ?_) he hpl
  subst ev
  obtain ⟨a0, e0⟩ := I1.newX eH
  obtain ⟨nm, qn, N, bs, bm, hdct, sn, sub, ab, col, dd, k0, k1, k2, k3, k5, mN, hC, _, _, T⟩ := x_of I1.kIn hx
  obtain ⟨u, u2, rfl, ra, ry⟩ := vals2 r1
  have ra : u = Value.ref ea := ra
  subst ra
  obtain ⟨hp, g, d, tk, os⟩ := s1
  refine wpAny_call (codeAny_call_builtin F.init.plain F.initEntry (wpAny_check_init_subT F T hC e0 rfl ?_))
  have sz : ([u2] : List Value).length ≤ sizeLine := by rw [sizeLine_eq]; show (1 : Nat) ≤ _; decide
  refine wpAny_bind (wpAny_newTuple ?_ sz)
  have g1 := Heap.get?_push_of_some (h := hp) { cls := .type "tuple", data := .seq #[u2] } e0
  have ne : ea ≠ hp.objs.size := Nat.ne_of_lt (Heap.lt_size e0)
  have g2 := Heap.get?_update_self (Obj.mapFields (·.setIfInBounds 0 (Value.ref hp.objs.size))) g1 rfl
  have J := I1.exch (n := none) (o := newX ea C dx) (t' := tk) (h' := (hp.push { cls := .type "tuple", data := .seq #[u2] }).update ea (Obj.mapFields (·.setIfInBounds 0 (Value.ref hp.objs.size)))) eH
    (fun c o nc q => by rw [Heap.get?_update_other _ _ (Ne.symm nc)]; exact Heap.get?_push_of_some _ q) ⟨_, g2⟩ ne (fun H' => newX_ok g2) (fun m em => by cases em)
  dsimp only at J
  rw [upd_id eH] at J
  refine wpAny_bind ?_
  unfold Builtin.BaseException.bexcPut
  refine wpAny_bind (wpAny_field g1 rfl (x := .ref a0) rfl (wpAny_bind (wpAny_setField g1 rfl (show 0 < 6 by decide) ?_)))
  refine wpAny_letGo (wpAny_pure ?_)
  exact ⟨.non, H1, J, rfl, q⟩
end
end L2

set_option Elab.async false
set_option linter.all false
set_option maxRecDepth 100000
set_option maxHeartbeats 4000000
namespace L2
open PySem PySem.Spec PyProof.Rows PySem.W

section
variable {X : Cx}
/-! ### C(..), C an own exception class with an __init__ -/
def tMX (X : Cx) (C : Addr) (sp : Sp) (E : XK) (t : TA) : TE := fun σ H Q => t σ H fun vs H1 => ∀ ea, H1 ea = none → X.s₀.heap.objs.size ≤ ea → sp (.ref ea :: vs) (upd H1 ea (newX ea C none)) (fun v H2 => v = .non ∧ Q (.ref ea) H2) E
theorem run_mx {CX : CXT} {k : Nat} {C fI : Addr} {fd : FuncData} {ps : List Str} {sp : Sp} {E : XK} {B newId initId : String} {bmB : List Value} {oI : Obj} {pins : List (Addr × Obj)} {σ : St} {H : Hp} {s : Shared} {Q : VK} {us : List Value} {vs : List V}
    (F : ExcBaseFacts B newId initId bmB) (hx : xIn X.K C fI bmB newId = true) (lk : X.K.lookup fI = some oI) (hfc : oI.cls = .type "function") (G : FnOk X.prog X.w X.K X.mg X.base CX k fI fd ps sp) (hps : ps.length ≤ 1000) (hr : Room (k + 1) X.A)
    (hb : Binds X.K fd ps []) (hp : Passes CX X E) (I : Inv X pins σ H s) (r : Vals vs us)
    (h : ∀ ea, H ea = none → X.s₀.heap.objs.size ≤ ea → sp (.ref ea :: vs) (upd H ea (newX ea C none)) (fun v H2 => v = .non ∧ Q (.ref ea) H2) E) : wpAny (model X.prog X.w) X.A (call (.ref C) us) (EP X pins σ Q) X.xe s := by
  have q := h (s.heap.objs.size + 1) (I.hok.fresh (Nat.le_succ _)) (Nat.le_trans I.sz (Nat.le_succ _))
  have r2 : Vals (V.ref (s.heap.objs.size + 1) :: vs) (Value.ref (s.heap.objs.size + 1) :: us) := .cons rfl r
  have len := G.len _ _ _ _ q
  have l2 : (Value.ref (s.heap.objs.size + 1) :: us ++ []).length = ps.length := by
    rw [List.append_nil, ← r2.length]
    exact len
  have lu : us.length ≤ sizeLine := by
    rw [sizeLine_eq]
    simp only [List.append_nil, List.length_cons] at l2
    omega
  obtain ⟨nm, qn, N, bs, bm, hdct, sn, sub, ab, col, dd, k0, k1, k2, k3, k5, mN, hC, hN, hi, T⟩ := x_of I.kIn hx
  have e1 : ((s.heap.push (argsObj us)).push (newObj C none (.ref s.heap.objs.size))).get? (s.heap.objs.size + 1) = some (newObj C none (.ref s.heap.objs.size)) := by
    have z := Heap.get?_push_size (s.heap.push (argsObj us)) (o := newObj C none (.ref s.heap.objs.size)) rfl
    rwa [Heap.size_push] at z
  have I2 := I.laid (a := s.heap.objs.size + 1) (o := newX (s.heap.objs.size + 1) C none) (t' := s.toks) (h' := (s.heap.push (argsObj us)).push (newObj C none (.ref s.heap.objs.size)))
    (fun b u z => Heap.get?_push_of_some _ (Heap.get?_push_of_some _ z)) (Nat.le_succ _) (newX_ok e1)
  obtain ⟨hh, g, d, tk, os⟩ := s
  refine mk_exc F T hC hN hi (I.kIn _ _ lk) hfc lu ?_
  have b2 := hb _ (Value.ref (hh.objs.size + 1) :: us) I2.kIn l2
  rw [List.append_nil] at b2
  refine wpAny_call (codeAny_mono (G.run _ X.stack _ _ ⟨Value.ref (hh.objs.size + 1) :: us, []⟩ _ _ _ E (hr.make C us []) (I2.env0.make C us []) b2 r2 q) fun r s' z => ?_)
  cases r with
  | error e => exact hp pins σ _ _ e s' I2 z
  | ok fl =>
    cases fl with
    | ret u =>
      obtain ⟨v, H', I3, rv, ev, q3⟩ := I2.after z
      subst ev
      exact ⟨rv, ⟨V.ref (hh.objs.size + 1), H', I3, rfl, q3⟩⟩
    | next => exact False.elim z
    | brk => exact False.elim z
    | cont => exact False.elim z
theorem pe_mx {CX : CXT} {k : Nat} {C fI : Addr} {fd : FuncData} {ps : List Str} {sp : Sp} {E : XK} {B newId initId : String} {bmB : List Value} {oI : Obj} {x : Str} {e : Expr} {es : List Expr} {p pos : Pos} {t : TA}
    (F : ExcBaseFacts B newId initId bmB) (hx : xIn X.K C fI bmB newId = true) (lk : X.K.lookup fI = some oI) (hfc : oI.cls = .type "function") (hkp : keepIn X.K (.ref C) = true) (G : FnOk X.prog X.w X.K X.mg X.base CX k fI fd ps sp) (hps : ps.length ≤ 1000) (hr : Room (k + 1) X.A)
    (hg : Gl X x) (hm : X.mg x = some (.ref C)) (hb : Binds X.K fd ps []) (hp : Passes CX X E)
    (ha : PA X (e :: es) t) (hdb : (x == ("__debug__" : Str)) = false := by decide) (he : starEach (e :: es) X.env = (false, eval e X.env) :: starEach es X.env := by rfl) (hpl : (backTo pos (starEach es X.env)).any (·.1) = false := by rfl) :
    PE X (.Call (.Name x p) (e :: es) [] pos) (tMX X C sp E t) := by
  intro pins s σ H Q I h
  refine wpAny_Call_Name_kw (ld_glob I hg hm ?_ hdb)
  refine callWith_K (h₀ := X.base) I.ok.mod.kin hkp (thn (ha pos pins s σ H _ I h) fun us s1 ⟨vs, H1, I1, r, q⟩ => ⟨I1.kIn, ?_⟩) he hpl
  exact run_mx F hx lk hfc G hps hr hb hp I1 r q
end

/-! ### raise e -/
section
variable {M : Model} {A : Around} {E : Value → Shared → Prop} {s : Shared} {env : Env}
variable {nm qn : Str} {C N : Addr} {bs bm : List Value} {hdct : Bool} {sn : List Str} {sub : List Value} {ab : Bool} {col : Option Bool} {dd : Option Addr} {k0 k1 k2 k3 k5 : Option Value} {newId : String}
theorem raise_of {x : Sem Value} {Q : Flow → Shared → Prop} (hh : A.handled = none)
    (h : wpAny M A x (fun v s₁ => ∃ (ea a0 C : Addr) (dx : Option Addr), v = .ref ea ∧ s₁.heap.get? ea = some (newObj C dx (.ref a0)) ∧ (∃ nm qn N bs bm hdct sn sub ab col dd k0 k1 k2 k3 k5 newId, s₁.heap.get? C = some (excClassObj nm qn C N bs bm hdct sn sub ab col dd k0 k1 k2 k3 k5 newId) ∧
      bm.contains (.type "BaseException") = true) ∧ E (.ref ea) s₁) E s) : wpAny M A (raiseStmt env (some x) none) Q E s := by
  unfold raiseStmt
  refine wpAny_bind (wpAny_mono h (fun v s₁ z => ?_) fun _ _ z => z)
  obtain ⟨ea, a0, C, dx, rfl, he, ⟨nm, qn, N, bs, bm, hdct, sn, sub, ab, col, dd, k0, k1, k2, k3, k5, newId, hC, hb⟩, hE⟩ := z
  have me : (Value.ref C :: bm).contains (.type "BaseException") = true := by rw [List.contains_cons, hb, Bool.or_true]
  obtain ⟨hp, g, d, tk, os⟩ := s₁
  repeat (first
    | with_reducible refine wpAny_loadPart_at he ?_
    | with_reducible refine wpAny_loadPart_at hC ?_
    | (with_reducible refine wpAny_isSubtype_exc hC ?_; rw [me])
    | wp_step)
  exact wpAny_raiseNew_none hh hE
end

section
variable {P : Program} {w : World} {K : Frag} {mg : Str → Option Value} {base : Heap} {N : List Str} {qual : Str} {scope : Scope} {f : Addr} {cd : Value} {A : Around} {outer : List Env} {s₀ : Shared} {H₀ : Hp} {E : XK}
def tRs (X : Cx) (E : XK) (te : TE) : TS := fun _ σ H => te σ H fun v H1 => ∃ ea C dx fI bmB newId, v = .ref ea ∧ H1 ea = some (newX ea C dx) ∧ X.s₀.heap.objs.size ≤ ea ∧ xIn X.K C fI bmB newId = true ∧ bmB.contains (.type "BaseException") = true ∧
  E (.ref C) dx (upd H1 ea (excO ea (.ref C) dx))
theorem ps_raise {e : Expr} {te : TE} {pos : Pos} (he : PE (cxOf (CX1 P w) P w K mg base N qual scope f cd A outer s₀ H₀ E) e te) :
    PS (cxOf (CX1 P w) P w K mg base N qual scope f cd A outer s₀ H₀ E) (.Raise (some e) none pos) (tRs (cxOf (CX1 P w) P w K mg base N qual scope f cd A outer s₀ H₀ E) E te) := by
  intro pins s σ H D I h
  rw [arm_exec_Raise]
  refine wpAny_bind (wpAny_standAt (raise_of (I.ok.hd rfl) (wpAny_bind (thn (he pins s σ H _ I h) fun v s1 ⟨y, H1, I1, ry, ea, C, dx, fI, bmB, newId, ev, eH, new, hx, hb, q⟩ => wpAny_bind (wpAny_standAt (wpAny_pure ?_))))))
  subst ev
  obtain rfl : v = Value.ref ea := ry
  obtain ⟨a0, e0⟩ := I1.newX eH
  obtain ⟨nm, qn, Nn, bs, bm, hdct, sn, sub, ab, col, dd, k0, k1, k2, k3, k5, mN, hC, hN, hi, T⟩ := x_of I1.kIn hx
  refine ⟨ea, a0, C, dx, rfl, e0, ⟨nm, qn, Nn, bs, bm, hdct, sn, sub, ab, col, dd, k0, k1, k2, k3, k5, newId, hC, T.hasType hb⟩, ?_⟩
  have J := I1.exch (n := none) (o := excO ea (.ref C) dx) (t' := s1.toks) (h' := s1.heap) eH (fun _ _ _ z => z) ⟨_, e0⟩ (Nat.ne_of_lt (Heap.lt_size e0)) (fun H' => excO_ok e0 rfl rfl rfl) (fun m em => by cases em)
  exact wpAny_mono (leaves_first (E := E) J I.ok.frames rfl rfl rfl e0 rfl rfl ⟨upd_same, new⟩ q) (fun _ _ z => z) fun _ _ z => z
end
end L2

set_option Elab.async false
set_option linter.all false
set_option maxRecDepth 100000
set_option maxHeartbeats 4000000
namespace L2
open PySem PySem.Spec PyProof.Rows PySem.W

section
variable {X : Cx} {pins : List (Addr × Obj)} {σ : St} {H : Hp} {s : Shared} {h' : Heap} {ea : Addr} {cls fl : Value} {dx : Option Addr} {T : Addr}
/-- a flying record was noted: the rest stands -/
theorem Inv.moved {cs : List Addr} (J : Inv X pins σ H s) (mm : Moved (frs X.stack) (ea :: cs) s.heap h') (hea : H ea = some (excO ea cls dx)) (F : FlyD h' ea cls dx T fl)
    (hcs : ∀ b ∈ cs, H b = none ∧ X.s₀.heap.objs.size ≤ b ∧ b ≠ X.env.locals ∧ (∀ x c, X.env.cells.lookup x = some c → c ≠ b) ∧ ∀ p ∈ X.pn ++ pins, p.1 ≠ b) : Inv X pins σ H { s with heap := h' } := by
  have ne : ∀ b, H b = none → b ≠ ea := fun b n z => by rw [z, hea] at n; cases n
  have nin : ∀ b, b ≠ ea → b ∉ cs → b ∉ ea :: cs := fun b n m z => (List.mem_cons.mp z).elim n m
  refine J.call (ch := cs) ⟨fun b o q n f c => mm.keep b o (nin b (ne b n) c) f q, fun b o q n _ c => mm.slot b o (nin b (ne b n) c) q, fun b o q n _ => n, fun b o q c => ?_, fun _ _ q => q, fun _ _ _ q => q, fun b ps q => ⟨#[], by rw [Array.append_empty]; exact q⟩⟩ ?_ J.bare
    fun b hb => ⟨.inr (hcs b hb).2.1, (hcs b hb).2.2⟩
  · by_cases z : b = ea
    · obtain ⟨oe, _, _, _, he, _⟩ := F
      exact ⟨oe, z ▸ he⟩
    · obtain ⟨sl, q1⟩ := mm.slot b o (nin b z c) q
      exact ⟨_, q1⟩
  · intro a o q
    by_cases ha : a = ea
    · subst ha
      rw [hea] at q
      cases q
      exact F.ok
    refine (J.hok a o q).stay (fun b u hb e => ?_) (fun _ z => z) fun _ _ z => z
    have hb' : H b ≠ none ∧ b ≠ ea := by
      rcases hb with rfl | hb
      · exact ⟨by rw [q]; exact Option.some_ne_none _, ha⟩
      · refine ⟨by rw [hb]; exact Option.some_ne_none _, fun z => ?_⟩
        rw [z, hea] at hb
        cases hb
    exact mm.keep b u (nin b hb'.2 fun z => hb'.1 (hcs b z).1) (fun z => hb'.1 (J.stkFree b z)) e

/-- a name is unbound -/
theorem unbind_ok {M : Model} {A : Around} {E : Value → Shared → Prop} {j : Nat} {n : Str} {v : V} {Q : Unit → Shared → Prop} (I : Inv X pins σ H s) (hN : X.N.Nodup) (hj : X.N[j]? = some n) (hl : X.env.scope.names.lookup n = some .local)
    (hv : σ[j]? = some (some v)) (h : ∀ s', Inv X pins (σ.set j none) H s' → Q () s') : wpAny M A (unbindName X.env n) Q E s := by
  obtain ⟨m, hn, lk⟩ := id I.loc
  obtain ⟨u, _, l⟩ := lk j n v hj hv (.inl hl)
  have hk : X.env.kindOf n = some .local := hl
  have mn : m n = some u := by
    rcases l with l | ⟨l, _⟩
    · exact l.2
    · rw [hk] at l
      rcases l with l | l <;> cases l
  have hc : (X.env.scope.kind == .class || (X.env.scope.kind == .module && X.env.locals != X.env.globals)) = false := by rw [I.ok.kind]; rfl
  refine wpAny_unbindName_local hk hn mn hc fun h' w' hn' hs => ?_
  have nl : ∀ b o, X.s₀.heap.get? b = some o → b ≠ X.env.locals := fun b o e => Nat.ne_of_lt (Nat.lt_of_lt_of_le (Heap.lt_size e) I.ok.above)
  have cellK : ∀ y c, X.env.cells.lookup y = some c → ∀ z, s.heap.IsCell c z → h'.IsCell c z := fun y c e z ⟨o, ho, hd⟩ => ⟨o, (hs.2 c (I.cne y c e)).trans ho, hd⟩
  refine h _ ⟨I.ok, I.os, I.bare, ⟨fun b o e n' hb hx => ?_, fun b o e n' hb hx => ?_, I.base.free, fun b o e hx => ?_, I.base.tups, I.base.frzs, I.base.tbls⟩, ⟨_, hn', fun i y v' e1 e2 e3 => ?_⟩, fun y c e => ?_, I.free, I.freeC, fun p hp => ?_, fun b ob e => ?_, by simpa using I.len⟩
  · exact (hs.2 b (nl b o e)).trans (I.base.keep b o e n' hb hx)
  · obtain ⟨sl, q⟩ := I.base.slot b o e n' hb hx
    exact ⟨sl, (hs.2 b (nl b o e)).trans q⟩
  · obtain ⟨o', q⟩ := I.base.there b o e hx
    exact ⟨o', (hs.2 b (nl b o e)).trans q⟩
  · by_cases hij : i = j
    · subst hij
      have lt : i < σ.length := (List.getElem?_eq_some_iff.mp hv).1
      rw [List.getElem?_set_self lt] at e2
      cases e2
    · rw [List.getElem?_set_ne (fun z => hij z.symm)] at e2
      have yn : y ≠ n := fun z => hij (nodup_ix hN (z ▸ e1) hj)
      obtain ⟨u', ru, l'⟩ := lk i y v' e1 e2 e3
      refine ⟨u', ru, ?_⟩
      rcases l' with l' | ⟨k', c, ec, z⟩
      · exact .inl ⟨l'.1, by show (if y = n then w' else m y) = _; rw [if_neg yn]; exact l'.2⟩
      · exact .inr ⟨k', c, ec, cellK y c ec _ z⟩
  · obtain ⟨z, q⟩ := I.cell y c e
    exact ⟨z, cellK y c e z q⟩
  · obtain ⟨e, n', ne, nf, d⟩ := I.pin p hp
    exact ⟨(hs.2 p.1 ne).trans e, n', ne, nf, d⟩
  · refine (I.hok b ob e).stay (fun c w'' hc' q => (hs.2 c fun z => ?_).trans q) (fun _ q => q) fun _ _ q => q
    have fr := I.free
    rw [← z] at fr
    rcases hc' with y | y
    · rw [← y, fr] at e; cases e
    · rw [fr] at y; cases y

/-- what lies behind the heap's end is none of the frame's own things -/
theorem Inv.away {b : Addr} (I : Inv X pins σ H s) (lb : s.heap.objs.size ≤ b) : X.s₀.heap.objs.size ≤ b ∧ b ≠ X.env.locals ∧ (∀ x c, X.env.cells.lookup x = some c → c ≠ b) ∧ ∀ p ∈ X.pn ++ pins, p.1 ≠ b := by
  have lt : ∀ {c : Addr} {o : Obj}, s.heap.get? c = some o → c ≠ b := fun e z => absurd (Nat.lt_of_lt_of_le (Heap.lt_size e) (z ▸ lb)) (Nat.lt_irrefl _)
  refine ⟨Nat.le_trans I.sz lb, fun z => absurd (Nat.lt_of_lt_of_le I.lt (z ▸ lb)) (Nat.lt_irrefl _), fun x c ec => ?_, fun p hp => lt (I.pin p hp).1⟩
  obtain ⟨v, o, ho, _⟩ := I.cell x c ec
  exact lt ho
/-- within an except suite -/
abbrev Cx.hold (X : Cx) (ea : Addr) : Cx := { X with A := X.A.mark (some (.ref ea)), calm := false, xe := fun _ _ => False }
theorem Inv.hold (I : Inv X pins σ H s) (ea : Addr) : Inv (X.hold ea) pins σ H s :=
  ⟨⟨I.ok.mod, I.ok.kind, I.ok.glob, I.ok.blt, I.ok.above, I.ok.inj, I.ok.has, I.ok.cab, (fun z => by cases z), I.ok.frames, I.ok.stk, I.ok.exf, I.ok.bs, I.ok.bsz, I.ok.noex, I.ok.exfs, I.ok.funs, I.ok.frf⟩,
    I.os, I.bare, I.base, I.loc, I.cell, I.free, I.freeC, I.pin, I.hok, I.len⟩
theorem Inv.unhold {ok : X.Ok} (I : Inv (X.hold ea) pins σ H s) : Inv X pins σ H s := ⟨ok, I.os, I.bare, I.base, I.loc, I.cell, I.free, I.freeC, I.pin, I.hok, I.len⟩
end

section
variable {X : Cx} {k : Nat} {f W : Addr} {fd : FuncData} {ps : List Str} {sp : Sp} {y fn Cn n : Str} {a : Expr} {as : List Expr} {t : TA} {i j : Nat} {b₀ : Stmt} {suite : List Stmt} {tb : TS} {p py cp ap np hp pos : Pos}
/-- try: y = f(..) / except W as n: .. -/
def tTry (K : Frag) (sp : Sp) (W : Addr) (i j : Nat) (t : TA) (tb : TS) : TS := fun D σ H => t σ H fun vs H1 => sp vs H1 (fun v H2 => D.nx (σ.set i (some v)) H2) fun cls dx H' => exmOne K cls (.ref W) = some true ∧
  ∀ ea, H' ea = some (excO ea cls dx) → tb { nx := fun σ' H'' => (∃ v, σ'[j]? = some v) ∧ D.nx (σ'.set j none) H'', rt := fun _ _ => False } (σ.set j (some (.ref ea))) H'
theorem ps_try (hst : X.stack = X.env :: X.outer) (hfm : X.env.frame = some X.env.locals) (hxe : ∀ e s, ¬ X.xe e s) (G : FnOk X.prog X.w X.K X.mg X.base (CX1 X.prog X.w) k f fd ps sp) (hr : Room k X.A) (hg : Gl X fn) (hm : X.mg fn = some (.ref f)) (hk : keepIn X.K (.ref f) = true)
    (hb : Binds X.K fd ps []) (ha : PA X (a :: as) t) (hN : X.N.Nodup) (hi : X.N[i]? = some y) (hy : Loc X.env.scope y) (hgC : Gl X Cn) (hmC : X.mg Cn = some (.ref W)) (hj : X.N[j]? = some n) (hn : X.env.scope.names.lookup n = some .local)
    (hsu : ∀ ea, PSs (X.hold ea) (b₀ :: suite) tb)
    (hdb : (fn == ("__debug__" : Str)) = false := by decide) (hdC : (Cn == ("__debug__" : Str)) = false := by decide) (he : starEach (a :: as) X.env = (false, eval a X.env) :: starEach as X.env := by rfl) (hpl : (backTo cp (starEach as X.env)).any (·.1) = false := by rfl)
    (hs : swapsWith (.Call (.Name fn p) (a :: as) [] cp) (some (.Name y py)) ap.line X.env = pure false := by rfl) (hf : X.fn y = true ∨ X.env.scope.names.lookup y = some .local := by first | exact .inl rfl | exact .inr rfl | assumption) :
    PS X (.Try [.Assign [.Name y py] (.Call (.Name fn p) (a :: as) [] cp) ap] [.ExceptHandler (some (.Name Cn np)) (some n) (b₀ :: suite) hp] [] [] pos) (tTry X.K sp W i j t tb) := by
  intro pins s σ H D I h
  refine wpAny_Try_except (wpAny_execs_cons (wpAny_Assign_Name ?_ hs))
  refine wpAny_Call_Name_kw (ld_glob I hg hm ?_ hdb)
  refine callWith_K (h₀ := X.base) I.ok.mod.kin hk (wpAny_mono (ha cp pins s σ H _ I h) (fun us s1 ⟨vs, H1, I1, r, q⟩ => ⟨I1.kIn, ?_⟩) fun e s' z => absurd z (hxe e s')) he hpl
  have hl : (us ++ []).length = ps.length := by rw [List.append_nil, ← r.length]; exact G.len _ _ _ _ q
  have b2 := hb s1 us I1.kIn hl
  rw [List.append_nil] at b2
  refine wpAny_call (codeAny_mono (G.run X.A X.stack s1 H1 ⟨us, []⟩ us vs _ _ hr I1.env0 b2 r q) fun r' s' z => ?_)
  cases r' with
  | ok fl =>
    cases fl with
    | next => exact False.elim z
    | brk => exact False.elim z
    | cont => exact False.elim z
    | ret u =>
      obtain ⟨v, H2, I2, rv, q2⟩ := I1.after z
      exact store_ok I2 hN hi hy rv (fun s3 I3 => wpAny_execs_nil (wpAny_execs_nil ⟨_, H2, I3, q2⟩)) hf
  | error e =>
    obtain ⟨ea, cls, dx, H', rfl, os, bare, un, hok, ⟨T0, fd0, t1, t2, t3, t4⟩, hex, q⟩ := z
    have J := I1.call' (ch := []) os un hok bare (fun b z => absurd z (by simp))
    have fr : X.A.frames = some (X.env :: X.outer) := by rw [← hst]; exact I.ok.frames
    have stk := J.stack
    rw [hst] at stk
    refine note_next fr stk hfm fd0 fun h1 T m1 lT F1 => flight_off (fs := frs X.stack) F1 fun h2 m2 F2 => ?_
    rw [← hst] at m1
    have nT := J.hok.fresh lT
    have J1 := J.moved (cs := [T0]) m1 t2 F1 (fun b hb => by obtain rfl : b = T0 := (by simpa using hb); exact ⟨t1, I1.away t3⟩)
    have J2 := J1.moved (cs := [T]) (m2.mono fun b hb => List.mem_cons_of_mem _ hb) t2 F2 (fun b hb => by obtain rfl : b = T := (by simpa using hb); exact ⟨nT, J.away lT⟩)
    refine wpAny_handleBy_cons (codeAny_handlers_test (ld_glob (X := X.hold ea) (J2.hold ea) hgC hmC ?_ hdC)) (by intro z; cases z)
    have lk : Looks (model X.prog X.w) h2 (typeOf (.ref ea)) cls := by
      obtain ⟨oe, _, _, _, he, hc, _⟩ := F2
      rw [← hc]
      exact (Looks.ld he).andThen .now
    refine Looks.here (s := { { { s' with heap := h1 } with heap := h2 } with heap := h2 }) (exm_one J2.kIn lk hex) ?_
    refine codeAny_handlers_suite_as (flight_off (fs := frs X.stack) F2 fun h3 m3 F3 => ?_)
    have J3 := J2.moved (cs := [T]) (m3.mono fun b hb => List.mem_cons_of_mem _ hb) t2 F3 (fun b hb => by obtain rfl : b = T := (by simpa using hb); exact ⟨nT, J.away lT⟩)
    refine store_ok (X := X.hold ea) (v := .ref ea) (J3.hold ea) hN hj (.inl hn) rfl (fun s4 I4 => ?_) (.inr hn)
    refine wpAny_mono (hsu ea pins s4 _ H' _ I4 (q ea t2)) (fun fl s5 z => ?_) fun _ _ z => False.elim z
    cases fl with
    | brk => obtain ⟨_, _, _, z⟩ := z; exact False.elim z
    | cont => obtain ⟨_, _, _, z⟩ := z; exact False.elim z
    | ret u => obtain ⟨_, _, _, _, _, z⟩ := z; exact False.elim z
    | next =>
      obtain ⟨σ5, H5, I5, ⟨v5, e5⟩, q5⟩ := z
      have K5 : Inv X pins σ5 H5 s5 := Inv.unhold (ok := I.ok) I5
      refine wpAny_bind (wpAny_bindName (store_ok (v := .non) K5 hN hj (.inl hn) rfl (fun s6 I6 => ?_) (.inr hn)))
      unfold unbindBehindTheSuite
      refine wpAny_onRaise (unbind_ok (v := .non) I6 hN hj hn ?_ fun s7 I7 => ?_)
      · exact List.getElem?_set_self (List.getElem?_eq_some_iff.mp e5).1
      · rw [List.set_set] at I7
        exact ⟨_, H5, I7, q5⟩
end
end L2

set_option Elab.async false
set_option linter.all false
set_option maxRecDepth 100000
set_option maxHeartbeats 4000000
namespace K5
open K4
open PySem L2
/-! ### the text by places -/
def top (i : Nat) : Stmt := PySem.Challenge.pw_wright_k05_patterns_refused.main.body.getD i (.Pass ⟨0, 0, 0, 0⟩)
abbrev sNested : Stmt := top 7
abbrev sReadPattern : Stmt := top 9
abbrev sRowsPattern : Stmt := top 10
abbrev sReadSign : Stmt := top 11
abbrev sReadPiece : Stmt := top 12
abbrev sOneSign : Stmt := top 13
abbrev sMarked : Stmt := top 14
abbrev sReadItems : Stmt := top 15
abbrev sReadItem : Stmt := top 16
abbrev sReadItemSign : Stmt := top 17
/-- what the top has besides the defs -/
structure Txt (K : PySem.W.Frag) (mg : Str → Option Value) (aE : Addr) : Prop where
  emp : ∀ H, SqT K H aE [.str "empty"]
  mgE : mg "EMPTY" = some (.ref aE)
  len : mg "len" = none
  rev : mg "reversed" = none
  isi : mg "isinstance" = none
  tup : mg "tuple" = none
  sum : mg "sum" = none
  int : mg "int" = none
  rng : mg "range" = none
/-- a def that is called by its name -/
def Callee (P : Program) (w : World) (K : PySem.W.Frag) (mg : Str → Option Value) (base : Heap) (k : Nat) (x : Str) (ps : List Str) (sp : Sp) : Prop :=
  ∃ f fd, FnOk P w K mg base CX0 k f fd ps sp ∧ Binds K fd ps [] ∧ PySem.W.keepIn K (.ref f) = true ∧ mg x = some (.ref f)
theorem Callee.mono {P : Program} {w : World} {K : PySem.W.Frag} {mg : Str → Option Value} {base : Heap} {j k : Nat} {x : Str} {ps : List Str} {sp : Sp} (c : Callee P w K mg base j x ps sp) (h : j ≤ k) : Callee P w K mg base k x ps sp :=
  let ⟨f, fd, a, b⟩ := c; ⟨f, fd, a.mono h, b⟩
theorem pe_def {X : Cx} {k : Nat} {x : Str} {ps : List Str} {sp : Sp} {e : Expr} {es : List Expr} {t : TA} {p pos : Pos} (c : Callee X.prog X.w X.K X.mg X.base k x ps sp) (hr : Room k X.A) (hg : Gl X x) (ha : PA X (e :: es) t)
    (hdb : (x == ("__debug__" : Str)) = false := by decide) (he : starEach (e :: es) X.env = (false, eval e X.env) :: starEach es X.env := by rfl) (hpl : (backTo pos (starEach es X.env)).any (·.1) = false := by rfl) :
    PE X (.Call (.Name x p) (e :: es) [] pos) (tCall sp [] E0 t) := by
  obtain ⟨f, fd, G, b, kp, m⟩ := c
  exact pe_call G hr hg m kp b .nil pass0 ha hdb he hpl
theorem small {n : Nat} (h : n ≤ 1000000) : n ≤ sizeLine := Nat.le_trans h (by decide)
theorem small' {n : Nat} (h : n ≤ 1000000) : n < sizeLine := Nat.lt_of_le_of_lt h (by decide)
theorem in3 (x a b c : Str) : inV (.str x) [.str a, .str b, .str c] = true ↔ x = a ∨ x = b ∨ x = c := by
  simp only [inV, eqV, List.any_cons, List.any_nil, Bool.or_false, Bool.or_eq_true, beq_iff_eq]
  constructor
  · rintro (h | h | h)
    · exact .inl h.symm
    · exact .inr (.inl h.symm)
    · exact .inr (.inr h.symm)
  · rintro (h | h | h)
    · exact .inl h.symm
    · exact .inr (.inl h.symm)
    · exact .inr (.inr h.symm)
theorem Paired.snocInv {α β : Type} {F : α → β → Prop} : ∀ {xs : List α} {x : α} {ys : List β}, Paired F (xs ++ [x]) ys → ∃ zs z, ys = zs ++ [z] ∧ Paired F xs zs ∧ F x z
  | [], x, _, .cons r .nil => ⟨[], _, rfl, .nil, r⟩
  | y :: xs, x, _, .cons r t => by
    obtain ⟨zs, z, e, h1, h2⟩ := Paired.snocInv (xs := xs) (x := x) t
    subst e
    exact ⟨_ :: zs, z, rfl, .cons r h1, h2⟩
theorem cut_init (ys : List V) (z : V) : cutV (ys ++ [z]) none (some (-1)) = ys := by
  have e1 : HT.sIx (ys ++ [z]).length 0 none = 0 := rfl
  have e2 : HT.sIx (ys ++ [z]).length (ys ++ [z]).length (some (-1)) = ys.length := by
    unfold HT.sIx
    simp
    omega
  unfold cutV
  rw [e1, e2]
  simp

section
variable {P : Program} {w : World} {K : PySem.W.Frag} {mg : Str → Option Value} {base : Heap} {aE f : Addr} {fd : FuncData}

/-! ### one_sign, marked -/
def spOne (K : PySem.W.Frag) : Sp := fun vs H Q _ => ∃ c, vs = [.str (one c)] ∧ ∀ v H', Same H H' → PatV K H' v (.sg c c) → Q v H'
theorem scOne : FnScope ["sign"] ["sign"] (defScope sOneSign) := ⟨rfl, rfl, rfl, by decide +kernel, rfl, by decide +kernel, by decide +kernel⟩
theorem ok_one (F : Fun K "one_sign" "one_sign" sOneSign f fd) : FnOk P w K mg base CX0 1 f fd ["sign"] (spOne K) := by
  refine F.ok scOne (fun vs H Q E h => ?_) (fun cdv A outer s H vs Q E hr h => ?_)
  · obtain ⟨c, rfl, _⟩ := h; rfl
  · obtain ⟨c, rfl, q⟩ := h
    refine ⟨_, pss_one (ps_ret (pe_tup (pa_cons pe_str (pa_cons (pv 0) (pa_cons (pv 0) pa_nil))))), ?_⟩
    refine ⟨_, rfl, _, rfl, (by show 3 ≤ sizeLine; decide), fun p hp => ?_⟩
    exact q _ _ (same_new hp _) (.sg (SqT.of upd_same))
/-- what a mark makes of a piece -/
def mk2 (p : P4.Pat) (o : Option Nat) : P4.Pat := if o = some 42 then .agn p else if o = some 43 then .thn p (.agn p) else if o = some 63 then .alt p .emp else p
def spMarked (K : PySem.W.Frag) : Sp := fun vs H Q _ => ∃ v p z i, vs = [v, .str (chAt z i)] ∧ PatV K H v p ∧ ∀ v' H', Same H H' → PatV K H' v' (mk2 p (cod z)[i]?) → Q v' H'
theorem scMarked : FnScope ["piece", "mark"] ["piece", "mark"] (defScope sMarked) := ⟨rfl, rfl, rfl, by decide +kernel, rfl, by decide +kernel, by decide +kernel⟩
theorem ch_dec {z : Str} {i c : Nat} {s : Str} (hs : s = one c) : (V.str (chAt z i) = V.str s) ↔ (cod z)[i]? = some c := by
  rw [hs]
  exact ⟨fun h => (chAt_iff z i c).mp (by injection h), fun h => by rw [(chAt_iff z i c).mpr h]⟩
theorem ok_marked (F : Fun K "marked" "marked" sMarked f fd) (T : Txt K mg aE) : FnOk P w K mg base CX0 1 f fd ["piece", "mark"] (spMarked K) := by
  refine F.ok scMarked (fun vs H Q E h => ?_) (fun cdv A outer s H vs Q E hr h => ?_)
  · obtain ⟨v, p, z, i, rfl, _⟩ := h; rfl
  · obtain ⟨v, p, z, i, rfl, hv, q⟩ := h
    refine ⟨_, pss_cons (ps_if (pt_cmpR op_eq (pv 1) pe_str (nomark _)) (pss_one (ps_ret (pe_tup (pa_cons pe_str (pa_cons (pv 0) pa_nil))))) pss_nil)
      (pss_cons (ps_if (pt_cmpR op_eq (pv 1) pe_str (nomark _)) (pss_one (ps_ret (pe_tup (pa_cons pe_str (pa_cons (pv 0) (pa_cons (pe_tup (pa_cons pe_str (pa_cons (pv 0) pa_nil))) pa_nil)))))) pss_nil)
      (pss_cons (ps_if (pt_cmpR op_eq (pv 1) pe_str (nomark _)) (pss_one (ps_ret (pe_tup (pa_cons pe_str (pa_cons (pv 0) (pa_cons (pe_glob (v := .ref aE) rfl T.mgE rfl) pa_nil)))))) pss_nil)
      (pss_one (ps_ret (pv 0))))), ?_⟩
    refine ⟨_, rfl, rfl, _, rfl, ?_⟩
    refine ite2 (fun c => ?_) (fun c => ?_)
    · have c' := (ch_dec (c := 42) rfl).mp (of_decide_eq_true c)
      refine ⟨_, rfl, (by show 2 ≤ sizeLine; decide), fun a ha => ?_⟩
      refine q _ _ (same_new ha _) ?_
      rw [show mk2 p (cod z)[i]? = .agn p by unfold mk2; rw [if_pos c']]
      exact .agn (SqT.of upd_same) (hv.mono (Keeps.new ha))
    · have c1 : ¬ (cod z)[i]? = some 42 := fun e => c (decide_eq_true ((ch_dec (c := 42) rfl).mpr e))
      refine ⟨_, rfl, rfl, _, rfl, ?_⟩
      refine ite2 (fun c => ?_) (fun c => ?_)
      · have c' := (ch_dec (c := 43) rfl).mp (of_decide_eq_true c)
        refine ⟨_, rfl, _, rfl, (by show 2 ≤ sizeLine; decide), fun a ha => ?_⟩
        refine ⟨(by show 3 ≤ sizeLine; decide), fun b hb => ?_⟩
        refine q _ _ ((same_new ha _).trans (same_new hb _)) ?_
        rw [show mk2 p (cod z)[i]? = .thn p (.agn p) by unfold mk2; rw [if_neg c1, if_pos c']]
        have k1 : Keeps K H (upd H a (.tup [.str "again", v])) := Keeps.new ha
        have k2 : Keeps K (upd H a (.tup [.str "again", v])) (upd (upd H a (.tup [.str "again", v])) b (.tup [.str "then", v, .ref a])) := Keeps.new hb
        exact .thn (SqT.of upd_same) (hv.mono (k1.trans k2)) (.agn (k2 _ _ (SqT.of upd_same)) (hv.mono (k1.trans k2)))
      · have c2 : ¬ (cod z)[i]? = some 43 := fun e => c (decide_eq_true ((ch_dec (c := 43) rfl).mpr e))
        refine ⟨_, rfl, rfl, _, rfl, ?_⟩
        refine ite2 (fun c => ?_) (fun c => ?_)
        · have c' := (ch_dec (c := 63) rfl).mp (of_decide_eq_true c)
          refine ⟨_, rfl, (by show 3 ≤ sizeLine; decide), fun a ha => ?_⟩
          refine q _ _ (same_new ha _) ?_
          rw [show mk2 p (cod z)[i]? = .alt p .emp by unfold mk2; rw [if_neg c1, if_neg c2, if_pos c']]
          exact .alt (SqT.of upd_same) (hv.mono (Keeps.new ha)) (.emp (T.emp _))
        · have c3 : ¬ (cod z)[i]? = some 63 := fun e => c (decide_eq_true ((ch_dec (c := 63) rfl).mpr e))
          refine ⟨_, rfl, ?_⟩
          refine q _ _ (Same.refl _) ?_
          rw [show mk2 p (cod z)[i]? = p by unfold mk2; rw [if_neg c1, if_neg c2, if_neg c3]]
          exact hv

/-! ### nested -/
def Form (form : Str) (g : P4.Pat → P4.Pat → P4.Pat) : Prop := ∀ (K : PySem.W.Frag) (H : Hp) (a : Addr) (x y : V) (p q : P4.Pat), SqT K H a [.str form, x, y] → PatV K H x p → PatV K H y q → PatV K H (.ref a) (g p q)
theorem form_or : Form "or" .alt := fun _ _ _ _ _ _ _ h1 h2 h3 => .alt h1 h2 h3
theorem form_then : Form "then" .thn := fun _ _ _ _ _ _ _ h1 h2 h3 => .thn h1 h2 h3
def spNested (K : PySem.W.Frag) : Sp := fun vs H Q _ => ∃ form g a xs ps, vs = [.str form, .ref a] ∧ Form form g ∧ SqL K H a xs ∧ Pats K H xs ps ∧ xs ≠ [] ∧ ∀ v H', Same H H' → PatV K H' v (P4.nest g ps) → Q v H'
theorem scNested : FnScope ["form", "patterns", "whole", "one"] ["form", "patterns"] (defScope sNested) := ⟨rfl, rfl, rfl, by decide +kernel, rfl, by decide +kernel, by decide +kernel⟩
theorem ok_nested (F : Fun K "nested" "nested" sNested f fd) (T : Txt K mg aE) : FnOk P w K mg base CX0 1 f fd ["form", "patterns"] (spNested K) := by
  refine F.ok scNested (fun vs H Q E h => ?_) (fun cdv A outer s H vs Q E hr h => ?_)
  · obtain ⟨form, g, a, xs, ps, rfl, _⟩ := h; rfl
  · obtain ⟨form, g, a, xs, ps, rfl, hF, hS, hP, hne, q⟩ := h
    obtain ⟨ys, z, rfl⟩ : ∃ ys z, xs = ys ++ [z] := ⟨xs.dropLast, xs.getLast hne, (List.dropLast_concat_getLast hne).symm⟩
    obtain ⟨qs, pz, rfl, hQ, hz⟩ := Paired.snocInv hP
    rw [P4.nest_snoc] at q
    refine ⟨_, pss_cons (ps_set (i := 2) scNested.nd rfl (Or.inl rfl) (pe_ix ix_list (pv 1) (pe_un un_neg pe_int) (fun _ _ => rfl)))
      (pss_cons (ps_for PassesOwn.never rfl (pi_rev rfl T.rev (pa_cons (pe_slice sl_list (pv 1) po_none (po_some (pe_un un_neg pe_int))) pa_nil)) (pg_name (i := 3) scNested.nd rfl (Or.inl rfl))
        (pss_one (ps_set (i := 2) scNested.nd rfl (Or.inl rfl) (pe_tup (pa_cons (pv 0) (pa_cons (pv 3) (pa_cons (pv 2) pa_nil)))))))
      (pss_one (ps_ret (pv 2)))), ?_⟩
    refine ⟨_, rfl, 1, rfl, a, _, -1, z, rfl, rfl, hS, atI_last ys z, ?_⟩
    refine ⟨_, rfl, 1, rfl, -1, rfl, a, _, rfl, hS, fun p hp => ?_⟩
    have hlen : qs.length = ys.length := (Paired.length hQ).symm
    refine ⟨p, ys, rfl, SqL.of (by rw [upd_same, cut_init]), for_rev (K := K) (a := p) (xs := ys)
      (fun i σ H2 => ∃ wv o, σ = [some (.str form), some (.ref a), some wv, o] ∧ Same (upd H p (.lst (cutV (ys ++ [z]) none (some (-1))))) H2 ∧ PatV K H2 wv ((qs.drop (ys.length - i)).foldr g pz)) ?_ ?_ ?_ ?_⟩
    · refine ⟨z, none, rfl, Same.refl _, ?_⟩
      rw [Nat.sub_zero, ← hlen, List.drop_length]
      exact hz.mono (Keeps.new hp)
    · rintro i σ H2 _ ⟨wv, o, rfl, s2, _⟩
      exact SqL.of (s2 _ _ (by rw [upd_same, cut_init]))
    · rintro i x σ H2 hi hx ⟨wv, o, rfl, s2, hw⟩
      refine ⟨_, rfl, _, rfl, _, rfl, (by show 3 ≤ sizeLine; decide), fun t ht => ?_⟩
      refine ⟨.ref t, some x, rfl, s2.trans (same_new ht _), ?_⟩
      obtain ⟨px, hpx, hx'⟩ := Paired.get hQ hx
      have hi' : ys.length - (i + 1) < qs.length := by omega
      have e1 : ys.length - 1 - i = ys.length - (i + 1) := by omega
      rw [e1] at hpx
      have e2 : qs.drop (ys.length - (i + 1)) = px :: qs.drop (ys.length - i) := by
        rw [List.drop_eq_getElem_cons hi']
        congr 1
        · exact (List.getElem?_eq_some_iff.mp hpx).2
        · congr 1; omega
      rw [e2, List.foldr_cons]
      have k1 : Keeps K H2 (upd H2 t (.tup [.str form, x, wv])) := Keeps.new ht
      exact hF _ _ _ _ _ _ _ (SqT.of upd_same) (hx'.mono ((Keeps.same ((same_new hp _).trans s2)).trans k1)) (hw.mono k1)
    · rintro σ H2 ⟨wv, o, rfl, s2, hw⟩
      rw [Nat.sub_self, List.drop_zero] at hw
      exact ⟨_, rfl, q _ _ ((same_new hp _).trans s2) hw⟩

/-! ### rows_pattern -/
def Rws (K : PySem.W.Frag) (H : Hp) (rs : List (Addr × List V)) (lv : P4.Lvl) : Prop := Paired (fun (r : Addr × List V) row => Pats K H r.2 row) rs lv
def spRows (K : PySem.W.Frag) : Sp := fun vs H Q _ => ∃ l rs lv, vs = [.ref l] ∧ SqL K H l (refs rs) ∧ (∀ r ∈ rs, SqL K H r.1 r.2) ∧ Rws K H rs lv ∧ rs ≠ [] ∧ rs.length ≤ 1000000 ∧ ∀ v H', Same H H' → PatV K H' v (P4.rowsPat lv.reverse) → Q v H'
theorem scRows : FnScope ["rows"] ["rows"] (defScope sRowsPattern) := ⟨rfl, rfl, rfl, by decide +kernel, rfl, by decide +kernel, by decide +kernel⟩
theorem ok_rows (F : Fun K "rows_pattern" "rows_pattern" sRowsPattern f fd) (T : Txt K mg aE) (GN : Callee P w K mg base 1 "nested" ["form", "patterns"] (spNested K)) : FnOk P w K mg base CX0 2 f fd ["rows"] (spRows K) := by
  refine F.ok scRows (fun vs H Q E h => ?_) (fun cdv A outer s H vs Q E hr h => ?_)
  · obtain ⟨l, rs, lv, rfl, _⟩ := h; rfl
  · obtain ⟨l, rs, lv, rfl, hS, hR, hP, hne, hle, q⟩ := h
    refine ⟨_, pss_one (ps_ret (pe_def GN hr rfl (pa_cons pe_str (pa_cons (pe_comp rfl (pi_list (pv 0)) (by decide +kernel) (by decide +kernel) rfl (by decide +kernel) (by decide +kernel) (fun _ _ _ _ => pif_nil)
      (fun _ _ _ _ => pe_ifExp (pt_truthK K (pv 0) (fun _ => rfl)) (pe_def GN hr rfl (pa_cons pe_str (pa_cons (pv 0) pa_nil))) (pe_glob (v := .ref aE) rfl T.mgE rfl))) pa_nil)))), ?_⟩
    refine ⟨_, rfl, l, rfl, ⟨_, hS⟩, fun D hD => ?_⟩
    have hlv : lv.length = rs.length := (Paired.length hP).symm
    refine comp_list (K := K) (a := l) (xs := refs rs) (fun i ys H2 => Same H H2 ∧ H2 D = some (.lst ys) ∧ Pats K H2 ys ((lv.reverse.take i).map P4.rowPat)) ?_ ?_ ?_ ?_
    · exact ⟨same_new hD _, upd_same, .nil⟩
    · rintro i ys H2 _ ⟨s2, _⟩
      exact s2.seq hS
    · rintro i x ys H2 hx ⟨s2, hD2, hp2⟩
      have hlen : ys.length ≤ 1000000 := by
        have := Paired.length hp2
        rw [List.length_map, List.length_take, List.length_reverse] at this
        omega
      obtain ⟨r, hr', rfl⟩ : ∃ r, rs.reverse[i]? = some r ∧ x = .ref r.1 := by
        unfold refs at hx
        rw [List.getElem?_map] at hx
        cases e : rs.reverse[i]? with
        | none => rw [e] at hx; cases hx
        | some r => rw [e] at hx; exact ⟨r, rfl, (Option.some.inj hx).symm⟩
      obtain ⟨row, hrow, hpr⟩ := Paired.get (Paired.rev hP) hr'
      have hrm : r ∈ rs := List.mem_reverse.mp (List.mem_of_getElem? hr')
      have hrS : SqL K H2 r.1 r.2 := s2.seq (hR r hrm)
      have etake : (lv.reverse.take (i + 1)).map P4.rowPat = (lv.reverse.take i).map P4.rowPat ++ [P4.rowPat row] := by
        rw [List.take_add_one, hrow]; simp
      have fin : ∀ v H3, Same H2 H3 → PatV K H3 v (P4.rowPat row) → H3 D = some (.lst ys) ∧ ys.length < sizeLine ∧ (Same H (upd H3 D (.lst (ys ++ [v]))) ∧ upd H3 D (.lst (ys ++ [v])) D = some (.lst (ys ++ [v])) ∧ Pats K (upd H3 D (.lst (ys ++ [v]))) (ys ++ [v]) ((lv.reverse.take (i + 1)).map P4.rowPat)) := fun v H3 s3 hv => by
        have hD3 : H3 D = some (.lst ys) := s3 _ _ hD2
        have k : Keeps K H3 (upd H3 D (.lst (ys ++ [v]))) := Keeps.lst hD3
        refine ⟨hD3, small' hlen, fun b o e => ?_, upd_same, ?_⟩
        · rw [upd_ne (ne_of_none e hD)]; exact s3 _ _ (s2 _ _ e)
        · rw [etake]
          exact Paired.app (hp2.mono ((Keeps.same s3).trans k)) (.cons (hv.mono k) .nil)
      refine ⟨_, rfl, !r.2.isEmpty, .inl ⟨r.2, hrS, rfl⟩, ?_⟩
      cases e2 : r.2 with
      | nil =>
        refine iteF ?_
        have e3 : row = [] := by
          rw [e2] at hpr
          cases hpr
          rfl
        subst e3
        exact fin _ _ (Same.refl _) (.emp (T.emp _))
      | cons y0 ys0 =>
        refine iteT ?_
        refine ⟨_, rfl, "then", .thn, r.1, r.2, row, rfl, form_then, hrS, Pats.mono (Keeps.same s2) hpr, by rw [e2]; simp, fun v H3 s3 hv => ?_⟩
        have e3 : P4.rowPat row = P4.nest .thn row := by
          unfold P4.rowPat
          rw [if_neg]
          intro z
          rw [e2, z] at hpr
          cases hpr
        exact fin v H3 s3 (by rw [e3]; exact hv)
    · rintro ys H2 ⟨s2, hD2, hp2⟩
      have e1 : (refs rs).length = lv.reverse.length := by rw [refs_len, List.length_reverse, hlv]
      rw [e1, List.take_length] at hp2
      refine ⟨"or", .alt, D, ys, _, rfl, form_or, SqL.of hD2, hp2, fun z => ?_, fun v H3 s3 hv => q v H3 (s2.trans s3) hv⟩
      subst z
      have := Paired.length hp2
      rw [List.length_map, List.length_reverse, hlv] at this
      exact hne (List.length_eq_zero_iff.mp this.symm)
end
end K5

set_option Elab.async false
set_option linter.all false
set_option maxRecDepth 100000
set_option maxHeartbeats 4000000
namespace K5
open PySem L2 K4 PySem.W
def clsBody : Stmt → List Stmt
  | .ClassDef _ _ _ b _ _ _ _ _ _ _ => b
  | _ => []
def sInit : Stmt := (clsBody (top 2)).getD 0 (.Pass ⟨0, 0, 0, 0⟩)
abbrev bmVE : List Value := [.type "ValueError", .type "Exception", .type "BaseException", .type "object"]
abbrev cxP (P : Program) (w : World) : CXT := CX1 P w
/-- the class NoPattern (C) under WrightError (W), its __init__ (fI) -/
structure Np (K : Frag) (mg : Str → Option Value) (C W fI : Addr) : Prop where
  x : xIn K C fI bmVE "ValueError.__new__" = true
  kp : keepIn K (.ref C) = true
  mC : mg "NoPattern" = some (.ref C)
  mW : mg "WrightError" = some (.ref W)
  xc : ∃ cd, XC K C cd
  tk : takerIn K C "place" = some none
  bi : BI K W "ValueError.__init__"
  fn : ∃ oI, K.lookup fI = some oI ∧ oI.cls = .type "function"

section
variable {P : Program} {w : World} {K : Frag} {mg : Str → Option Value} {base : Heap} {aE f C W fI : Addr} {fd : FuncData}

/-! ### NoPattern.__init__ -/
def spInit (C : Addr) : Sp := fun vs H Q _ => ∃ (ea : Addr) (n : Nat), vs = [.ref ea, .int (n : Int)] ∧ n ≤ 1000000 ∧ H ea = some (newX ea C none) ∧ ∀ dx, H dx = none → dx ≠ ea → Q .non (upd (upd H dx (.xd [("place", .int (n : Int))])) ea (newX ea C (some dx)))
theorem scInit : FnScope ["self", "place"] ["self", "place"] (defScope sInit) := ⟨rfl, rfl, rfl, by decide +kernel, rfl, by decide +kernel, by decide +kernel⟩
theorem ok_init (F : Fun K "__init__" "NoPattern.__init__" sInit f fd) (N : Np K mg C W f) : FnOk P w K mg base CX0 1 f fd ["self", "place"] (spInit C) := by
  refine F.ok scInit (fun vs H Q E h => ?_) (fun cdv A outer s H vs Q E hr h => ?_)
  · obtain ⟨ea, n, rfl, _⟩ := h; rfl
  · obtain ⟨ea, n, rfl, hn, eH, q⟩ := h
    refine ⟨_, pss_cons (ps_expr (pe_binit PySem.F.excBase_ValueError N.bi rfl N.mW (pa_cons (pv 0) (pa_cons (pe_fmt (pv 1) (by decide +kernel) (by decide +kernel)) pa_nil))))
      (pss_one (ps_xfld (pv 0) (pv 1) rfl)), ?_⟩
    obtain ⟨cd, xc⟩ := N.xc
    refine ⟨_, rfl, _, rfl, _, rfl, ?_, fun y => ⟨ea, C, f, none, _, rfl, eH, N.x, ?_⟩⟩
    · show ((n : Int).natAbs).log2 < 1920
      have : (n : Int).natAbs = n := Int.natAbs_natCast n
      rw [this]
      by_cases z : n = 0
      · subst z; decide
      · exact (Nat.log2_lt z).mpr (Nat.lt_of_le_of_lt hn (Nat.lt_of_lt_of_le (show 1000000 < 2 ^ 20 by decide) (Nat.pow_le_pow_right (by decide) (by decide))))
    · exact ⟨_, rfl, _, rfl, ea, C, cd, rfl, eH, xc, N.tk, fun dx h1 h2 => q dx h1 h2⟩
end
end K5

set_option Elab.async false
set_option linter.all false
set_option maxRecDepth 100000
set_option maxHeartbeats 4000000
namespace K5
open K4
open PySem L2
section
variable {P : Program} {w : World} {K : PySem.W.Frag} {mg : Str → Option Value} {base : Heap} {aE f : Addr} {fd : FuncData}

theorem isg_cases {t : List Nat} {i c j : Nat} (h : P4.isg t i = some (c, j)) :
    (t[i]? = some c ∧ c ≠ 93 ∧ c ≠ 45 ∧ c ≠ 126 ∧ j = i + 1) ∨ (t[i]? = some 126 ∧ t[i + 1]? = some c ∧ (c = 93 ∨ c = 45 ∨ c = 126) ∧ j = i + 2) := by
  unfold P4.isg at h
  split at h
  · cases h
  · rename_i c' e
    split at h
    · cases h
    · rename_i n1
      split at h
      · rename_i n2
        cases h
        exact .inl ⟨e, fun z => n1 (.inl z), fun z => n1 (.inr z), n2, rfl⟩
      · rename_i n2
        have n2' : c' = 126 := Classical.not_not.mp n2
        subst n2'
        split at h
        · cases h
        · rename_i d e2
          split at h
          · rename_i n3
            cases h
            exact .inr ⟨e, e2, n3, rfl⟩
          · cases h

theorem orT {c : Bool} {A B : Prop} (hA : A) (hB : c = false → A → B) : if c = true then A else B := by
  cases c with
  | true => exact iteT hA
  | false => exact iteF (hB rfl hA)
/-! ### read_item_sign -/
def spIS (K : PySem.W.Frag) : Sp := fun vs H Q _ => ∃ (z : Str) (i c j : Nat), vs = [.str z, .int (i : Int)] ∧ z.length ≤ 1000000 ∧ P4.isg (cod z) i = some (c, j) ∧ ∀ a H', Same H H' → H' a = some (.tup [.str (one c), .int (j : Int)]) → Q (.ref a) H'
theorem scIS : FnScope ["text", "place"] ["text", "place"] (defScope sReadItemSign) := ⟨rfl, rfl, rfl, by decide +kernel, rfl, by decide +kernel, by decide +kernel⟩
theorem ok_is (F : Fun K "read_item_sign" "read_item_sign" sReadItemSign f fd) : FnOk P w K mg base CX0 1 f fd ["text", "place"] (spIS K) := by
  refine F.ok scIS (fun vs H Q E h => ?_) (fun cdv A outer s H vs Q E hr h => ?_)
  · obtain ⟨z, i, c, j, rfl, _⟩ := h; rfl
  · obtain ⟨z, i, c, j, rfl, hz, hg, q⟩ := h
    refine ⟨_, pss_cons (ps_if (pt_cmpR op_in_seq (pe_slice sl_str1 (pv 0) (po_some (pv 1)) (po_some (pe_op op_add (pv 1) pe_int))) (pe_tup (pa_cons pe_str (pa_cons pe_str (pa_cons pe_str pa_nil)))) rfl) (pss_one ps_never) pss_nil)
      (pss_cons (ps_if (pt_cmpR op_ne (pe_ix ix_str (pv 0) (pv 1) (fun _ _ => rfl)) pe_str (nomark _)) (pss_one (ps_ret (pe_tup (pa_cons (pe_ix ix_str (pv 0) (pv 1) (fun _ _ => rfl)) (pa_cons (pe_op op_add (pv 1) pe_int) pa_nil))))) pss_nil)
      (pss_cons (ps_if (pt_cmpR op_notIn_seq (pe_slice sl_str1 (pv 0) (po_some (pe_op op_add (pv 1) pe_int)) (po_some (pe_op op_add (pv 1) pe_int))) (pe_tup (pa_cons pe_str (pa_cons pe_str (pa_cons pe_str pa_nil)))) rfl) (pss_one ps_never) pss_nil)
      (pss_one (ps_ret (pe_tup (pa_cons (pe_ix ix_str (pv 0) (pe_op op_add (pv 1) pe_int) (fun _ _ => rfl)) (pa_cons (pe_op op_add (pv 1) pe_int) pa_nil))))))), ?_⟩
    refine ⟨_, rfl, _, rfl, _, rfl, _, rfl, _, _, rfl, rfl, _, rfl, z, i, rfl, rfl, rfl, (by show 3 ≤ sizeLine; decide), fun p hp => ⟨p, _, rfl, .inr (SqT.of upd_same), rfl, rfl, _, rfl, ?_⟩⟩
    have first : ∃ d, (cod z)[i]? = some d ∧ d ≠ 93 ∧ d ≠ 45 := by
      rcases isg_cases hg with ⟨h1, h2, h3, _⟩ | ⟨h1, _⟩
      · exact ⟨c, h1, h2, h3⟩
      · exact ⟨126, h1, by decide, by decide⟩
    obtain ⟨d, hd, d1, d2⟩ := first
    refine ite2 (fun cc => ?_) (fun _ => ?_)
    · exfalso
      have cc' : inV (.str (chAt z i)) [.str "", .str "]", .str "-"] = true := cc
      rw [in3, chAt_some hd] at cc'
      rcases cc' with e | e | e
      · have := congrArg cod e
        rw [cod_one] at this
        exact nomatch (show [d] = ([] : List Nat) from this)
      · exact d1 (one_inj (c := d) (d := 93) e)
      · exact d2 (one_inj (c := d) (d := 45) e)
    have s1 : Same H (upd H p (.tup [.str "", .str "]", .str "-"])) := same_new hp _
    refine ⟨_, rfl, _, rfl, z, _, d, rfl, rfl, small hz, item_at hd, rfl, _, rfl, ?_⟩
    rcases isg_cases hg with ⟨h1, h2, h3, h4, rfl⟩ | ⟨h1, h2, h3, rfl⟩
    · have e : c = d := Option.some.inj (h1.symm.trans hd)
      subst e
      refine ite2 (fun cc => ?_) (fun cc => ?_)
      · refine ⟨_, rfl, _, rfl, z, _, c, rfl, rfl, small hz, item_at hd, _, rfl, _, _, rfl, rfl, (by show 2 ≤ sizeLine; decide), fun t ht => ?_⟩
        exact q t _ (s1.trans (same_new ht _)) upd_same
      · exfalso
        apply cc
        show (!decide (V.str (one c) = V.str "~")) = true
        rw [decide_eq_false]
        · rfl
        · intro e; exact h4 ((one_eq c 126).mp e)
    · have e : 126 = d := Option.some.inj (h1.symm.trans hd)
      subst e
      refine ite2 (fun cc => ?_) (fun _ => ?_)
      · exfalso
        have cc' : (!decide (V.str (one 126) = V.str "~")) = true := cc
        rw [decide_eq_true (show V.str (one 126) = V.str "~" from rfl)] at cc'
        cases cc'
      refine ⟨_, rfl, _, rfl, _, _, rfl, rfl, _, rfl, _, rfl, _, _, rfl, rfl, _, rfl, z, i + 1, rfl, rfl, rfl, (by show 3 ≤ sizeLine; decide), fun p2 hp2 => ⟨p2, _, rfl, .inr (SqT.of upd_same), rfl, rfl, _, rfl, ?_⟩⟩
      refine ite2 (fun cc => ?_) (fun _ => ?_)
      · exfalso
        have cc' : (!inV (.str (chAt z (i + 1))) [.str "]", .str "-", .str "~"]) = true := cc
        have : inV (.str (chAt z (i + 1))) [.str "]", .str "-", .str "~"] = true := by
          rw [in3, chAt_some h2]
          rcases h3 with rfl | rfl | rfl
          · exact .inl rfl
          · exact .inr (.inl rfl)
          · exact .inr (.inr rfl)
        rw [this] at cc'
        cases cc'
      refine ⟨_, rfl, _, rfl, _, _, rfl, rfl, z, _, c, rfl, rfl, small hz, item_at (i := i + 1) h2, _, rfl, _, _, rfl, rfl, (by show 2 ≤ sizeLine; decide), fun t ht => ?_⟩
      exact q t _ (s1.trans ((same_new hp2 _).trans (same_new ht _))) upd_same

/-! ### read_item -/
def spItem (K : PySem.W.Frag) : Sp := fun vs H Q _ => ∃ (z : Str) (i j : Nat) (p : P4.Pat), vs = [.str z, .int (i : Int)] ∧ z.length ≤ 1000000 ∧ P4.itm (cod z) i = some (p, j) ∧
  ∀ a v H', Same H H' → H' a = some (.tup [v, .int (j : Int)]) → PatV K H' v p → Q (.ref a) H'
theorem scItem : FnScope ["text", "place", "low", "high"] ["text", "place"] (defScope sReadItem) := ⟨rfl, rfl, rfl, by decide +kernel, rfl, by decide +kernel, by decide +kernel⟩
theorem ok_item (F : Fun K "read_item" "read_item" sReadItem f fd) (GS : Callee P w K mg base 1 "read_item_sign" ["text", "place"] (spIS K)) (GO : Callee P w K mg base 1 "one_sign" ["sign"] (spOne K)) :
    FnOk P w K mg base CX0 2 f fd ["text", "place"] (spItem K) := by
  refine F.ok scItem (fun vs H Q E h => ?_) (fun cdv A outer s H vs Q E hr h => ?_)
  · obtain ⟨z, i, j, p, rfl, _⟩ := h; rfl
  · obtain ⟨z, i, j, p, rfl, hz, hi, q⟩ := h
    refine ⟨_, pss_cons (ps_set (i := 2) scItem.nd rfl (Or.inl rfl) (pe_def GS hr rfl (pa_cons (pv 0) (pa_cons (pv 1) pa_nil))))
      (pss_cons (ps_if (pt_cmpR op_ne (pe_slice sl_str1 (pv 0) (po_some (pe_ix ix_tup (pv 2) pe_int (fun _ _ => rfl))) (po_some (pe_op op_add (pe_ix ix_tup (pv 2) pe_int (fun _ _ => rfl)) pe_int))) pe_str (nomark _))
        (pss_one (ps_ret (pe_tup (pa_cons (pe_def GO hr rfl (pa_cons (pe_ix ix_tup (pv 2) pe_int (fun _ _ => rfl)) pa_nil)) (pa_cons (pe_ix ix_tup (pv 2) pe_int (fun _ _ => rfl)) pa_nil))))) pss_nil)
      (pss_cons (ps_set (i := 3) scItem.nd rfl (Or.inl rfl) (pe_def GS hr rfl (pa_cons (pv 0) (pa_cons (pe_op op_add (pe_ix ix_tup (pv 2) pe_int (fun _ _ => rfl)) pe_int) pa_nil))))
      (pss_cons (ps_if (pt_cmpR op_lt_str (pe_ix ix_tup (pv 3) pe_int (fun _ _ => rfl)) (pe_ix ix_tup (pv 2) pe_int (fun _ _ => rfl)) (nomark _)) (pss_one ps_never) pss_nil)
      (pss_one (ps_ret (pe_tup (pa_cons (pe_tup (pa_cons pe_str (pa_cons (pe_ix ix_tup (pv 2) pe_int (fun _ _ => rfl)) (pa_cons (pe_ix ix_tup (pv 3) pe_int (fun _ _ => rfl)) pa_nil)))) (pa_cons (pe_ix ix_tup (pv 3) pe_int (fun _ _ => rfl)) pa_nil)))))))), ?_⟩
    unfold P4.itm at hi
    split at hi
    · cases hi
    rename_i l k hl
    refine ⟨_, rfl, _, rfl, z, i, l, k, rfl, hz, hl, fun a1 H1 s1 e1 => ?_⟩
    refine ⟨_, rfl, _, rfl, a1, _, 1, _, rfl, rfl, SqT.of e1, rfl, _, rfl, _, rfl, a1, _, 1, _, rfl, rfl, SqT.of e1, rfl, _, _, rfl, rfl, _, rfl, z, k, rfl, rfl, rfl, rfl, _, rfl, ?_⟩
    split at hi
    · rename_i hn
      injection hi with hi
      injection hi with g1 g2
      subst g1
      subst g2
      refine ite2 (fun _ => ?_) (fun cc => ?_)
      · refine ⟨_, rfl, a1, _, 0, _, rfl, rfl, SqT.of e1, rfl, l, rfl, fun v H2 s2 hv => ?_⟩
        refine ⟨_, rfl, a1, _, 1, _, rfl, rfl, SqT.of (s2 _ _ e1), rfl, (by show 2 ≤ sizeLine; decide), fun t ht => ?_⟩
        exact q t v _ (s1.trans (s2.trans (same_new ht _))) upd_same (hv.mono (Keeps.new ht))
      · exfalso
        apply cc
        show (!decide (V.str (chAt z k) = V.str "-")) = true
        rw [decide_eq_false]
        · rfl
        · intro e; exact hn ((ch_dec (c := 45) rfl).mp e)
    · rename_i hn
      have hn' : (cod z)[k]? = some 45 := Classical.not_not.mp hn
      split at hi
      · cases hi
      rename_i hh k2 hh2
      split at hi
      · cases hi
      rename_i hlt
      injection hi with hi
      injection hi with g1 g2
      subst g1
      subst g2
      refine ite2 (fun cc => ?_) (fun _ => ?_)
      · exfalso
        have cc' : (!decide (V.str (chAt z k) = V.str "-")) = true := cc
        have hd : decide (V.str (chAt z k) = V.str "-") = true := decide_eq_true ((ch_dec (c := 45) rfl).mpr hn')
        rw [hd] at cc'
        cases cc'
      refine ⟨_, rfl, _, rfl, a1, _, 1, _, rfl, rfl, SqT.of e1, rfl, _, _, rfl, rfl, z, k + 1, hh, k2, rfl, hz, hh2, fun a2 H2 s2 e2 => ?_⟩
      have e1' := s2 _ _ e1
      refine ⟨_, rfl, a2, _, 0, _, rfl, rfl, SqT.of e2, rfl, _, rfl, a1, _, 0, _, rfl, rfl, SqT.of e1', rfl, _, _, rfl, rfl, _, rfl, ?_⟩
      refine ite2 (fun cc => ?_) (fun _ => ?_)
      · exfalso
        have cc' : cod (one hh) < cod (one l) := of_decide_eq_true cc
        rw [cod_one, cod_one] at cc'
        rcases List.cons_lt_cons_iff.mp cc' with h | ⟨_, h⟩
        · exact hlt h
        · exact absurd h (List.lt_irrefl _)
      refine ⟨_, rfl, a1, _, 0, _, rfl, rfl, SqT.of e1', rfl, _, rfl, a2, _, 0, _, rfl, rfl, SqT.of e2, rfl, (by show 3 ≤ sizeLine; decide), fun t ht => ?_⟩
      have e2' := same_new ht (.tup [.str "sign", .str (one l), .str (one hh)]) _ _ e2
      refine ⟨_, rfl, a2, _, 1, _, rfl, rfl, SqT.of e2', rfl, (by show 2 ≤ sizeLine; decide), fun t2 ht2 => ?_⟩
      exact q t2 (.ref t) _ (s1.trans (s2.trans ((same_new ht _).trans (same_new ht2 _)))) upd_same (.sg (Keeps.new ht2 _ _ (SqT.of upd_same)))

/-! ### read_items -/
def spItems (K : PySem.W.Frag) : Sp := fun vs H Q _ => ∃ (z : Str) (i j : Nat) (ps : List P4.Pat), vs = [.str z, .int (i : Int)] ∧ z.length ≤ 1000000 ∧ P4.Items (cod z) i ps j ∧
  ∀ a v H', Same H H' → H' a = some (.tup [v, .int ((j + 1 : Nat) : Int)]) → PatV K H' v (P4.nest .alt ps) → Q (.ref a) H'
theorem scItems : FnScope ["text", "place", "items", "read"] ["text", "place"] (defScope sReadItems) := ⟨rfl, rfl, rfl, by decide +kernel, rfl, by decide +kernel, by decide +kernel⟩
/-- what is still to be read -/
def Left (t : List Nat) (k : Nat) (rest : List P4.Pat) (j : Nat) (first : Bool) : Prop := (P4.Items t k rest j ∧ (first = true ∨ t[k]? ≠ some 93)) ∨ (rest = [] ∧ k = j ∧ t[k]? = some 93 ∧ first = false)
theorem Left.step {t : List Nat} {k j : Nat} {rest : List P4.Pat} {first : Bool} (h : P4.Items t k rest j) : ∃ p r' k', P4.itm t k = some (p, k') ∧ rest = p :: r' ∧ Left t k' r' j false ∧ k < k' ∧ k' ≤ t.length := by
  cases h with
  | one a b => exact ⟨_, _, _, a, rfl, .inr ⟨rfl, rfl, b, rfl⟩, (P4.itm_lt a).1, (P4.itm_lt a).2⟩
  | more a b c => exact ⟨_, _, _, a, rfl, .inl ⟨c, .inr b⟩, (P4.itm_lt a).1, (P4.itm_lt a).2⟩
theorem ok_items (F : Fun K "read_items" "read_items" sReadItems f fd) (T : Txt K mg aE) (GI : Callee P w K mg base 2 "read_item" ["text", "place"] (spItem K)) (GN : Callee P w K mg base 2 "nested" ["form", "patterns"] (spNested K)) :
    FnOk P w K mg base CX0 3 f fd ["text", "place"] (spItems K) := by
  refine F.ok scItems (fun vs H Q E h => ?_) (fun cdv A outer s H vs Q E hr h => ?_)
  · obtain ⟨z, i, j, ps, rfl, _⟩ := h; rfl
  · obtain ⟨z, i, j, ps, rfl, hz, hI, q⟩ := h
    refine ⟨_, pss_cons (ps_set (i := 2) scItems.nd rfl (Or.inl rfl) (pe_lst pa_nil))
      (pss_cons (ps_while PassesOwn.never (PW.pt (pw_or (pt_not (pt_truth (pv 2) (fun _ => rfl))) (pw_or1 (pt_cmpR op_ne (pe_slice sl_str1 (pv 0) (po_some (pv 1)) (po_some (pe_op op_add (pv 1) pe_int))) pe_str (nomark _)))))
        (pss_cons (ps_set (i := 3) scItems.nd rfl (Or.inl rfl) (pe_def GI hr rfl (pa_cons (pv 0) (pa_cons (pv 1) pa_nil))))
        (pss_cons (ps_expr (pe_bm PySem.F.plainAttrs_list PySem.F.slot_list_append PySem.F.type_list_append mt_append (pv 2) (pa_cons (pe_ix ix_tup (pv 3) pe_int (fun _ _ => rfl)) pa_nil)))
        (pss_one (ps_set (i := 1) scItems.nd rfl (Or.inl rfl) (pe_ix ix_tup (pv 3) pe_int (fun _ _ => rfl)))))))
      (pss_one (ps_ret (pe_tup (pa_cons (pe_def GN hr rfl (pa_cons pe_str (pa_cons (pv 2) pa_nil))) (pa_cons (pe_op op_add (pv 1) pe_int) pa_nil)))))), ?_⟩
    refine ⟨(by show 0 ≤ sizeLine; decide), fun b hb => ?_⟩
    have hlen0 : (cod z).length ≤ 1000000 := by rw [len_cod]; exact hz
    refine ⟨fun m σ H2 => ∃ (k : Nat) (vs : List V) (done rest : List P4.Pat) (o : Option V), σ = [some (.str z), some (.int (k : Int)), some (.ref b), o] ∧ m = (cod z).length - k ∧ k ≤ (cod z).length ∧ Same H H2 ∧ H2 b = some (.lst vs) ∧ Pats K H2 vs done ∧ done ++ rest = ps ∧ vs.length ≤ k ∧
      Left (cod z) k rest j vs.isEmpty, ⟨(cod z).length - i, i, [], [], ps, none, rfl, rfl, ?_, same_new hb _, upd_same, .nil, rfl, Nat.zero_le _, .inl ⟨hI, .inl rfl⟩⟩, ?_⟩
    · have := hI.lt; omega
    rintro m σ H2 ⟨k, vs, done, rest, o, rfl, rfl, hk, s2, hb2, hp2, hdr, hvl, hL⟩
    rcases hL with ⟨hI', hn⟩ | ⟨hr0, hkj, h93, hf⟩
    · refine ⟨_, rfl, !vs.isEmpty, .inl ⟨vs, SqL.of hb2, rfl⟩, ?_⟩
      refine orT ?_ (fun hc body => ?_)
      · refine iteT ?_
        obtain ⟨p, r', k', hit, hrr, hL', hkk, hk'⟩ := Left.step (first := true) hI'
        refine ⟨fun σ' H' => ∃ (k : Nat) (vs : List V) (done rest : List P4.Pat) (o : Option V), σ' = [some (.str z), some (.int (k : Int)), some (.ref b), o] ∧ k' = k ∧ Same H H' ∧ H' b = some (.lst vs) ∧ Pats K H' vs done ∧ done ++ rest = ps ∧ vs.length ≤ k ∧ Left (cod z) k rest j vs.isEmpty, ?_, ?_⟩
        · rintro σ' H' ⟨k1, vs1, done1, rest1, o1, rfl, rfl, s4, hb4, hp4, hd4, hv4, hL4⟩
          exact ⟨(cod z).length - k', by omega, k', vs1, done1, rest1, o1, rfl, rfl, hk', s4, hb4, hp4, hd4, hv4, hL4⟩
        refine ⟨_, rfl, _, rfl, z, k, k', p, rfl, hz, hit, fun a v H4 s4 e4 hv4 => ?_⟩
        have hb4 := s4 _ _ hb2
        refine ⟨_, rfl, .inl ⟨rfl, _, SqL.of hb4⟩, _, rfl, a, _, 0, _, rfl, rfl, SqT.of e4, rfl, b, vs, v, rfl, rfl, hb4, small' (by omega), ?_⟩
        have k5 : Keeps K H4 (upd H4 b (.lst (vs ++ [v]))) := Keeps.lst hb4
        refine ⟨_, rfl, a, _, 1, _, rfl, rfl, k5 _ _ (SqT.of e4), rfl, ?_⟩
        refine ⟨k', vs ++ [v], done ++ [p], r', _, rfl, rfl, fun c o e => ?_, upd_same, ?_, ?_, ?_, ?_⟩
        · rw [upd_ne (ne_of_none e hb)]; exact s4 _ _ (s2 _ _ e)
        · exact Paired.app (Pats.mono ((Keeps.same s4).trans k5) hp2) (.cons (hv4.mono k5) .nil)
        · rw [List.append_assoc]; show done ++ (p :: r') = ps; rw [← hrr]; exact hdr
        · rw [List.length_append, List.length_singleton]; omega
        · have : (vs ++ [v]).isEmpty = false := by simp
          rw [this]; exact hL'
      · have hv : vs.isEmpty = false := by simpa using hc
        have hn' : (cod z)[k]? ≠ some 93 := by
          rcases hn with hn | hn
          · rw [hv] at hn; cases hn
          · exact hn
        have e : (!decide (V.str (chAt z k) = V.str "]")) = true := by
          rw [decide_eq_false]
          · rfl
          · intro e; exact hn' ((ch_dec (c := 93) rfl).mp e)
        refine ⟨_, rfl, _, rfl, _, rfl, _, rfl, _, _, rfl, rfl, _, rfl, z, k, rfl, rfl, rfl, rfl, true, congrArg V.bl e, ?_⟩
        exact body
    · refine ⟨_, rfl, !vs.isEmpty, .inl ⟨vs, SqL.of hb2, rfl⟩, ?_⟩
      rw [hf]
      refine iteF ?_
      have e : (!decide (V.str (chAt z k) = V.str "]")) = false := by
        have hd : decide (V.str (chAt z k) = V.str "]") = true := decide_eq_true ((ch_dec (c := 93) rfl).mpr h93)
        rw [hd]
        rfl
      refine ⟨_, rfl, _, rfl, _, rfl, _, rfl, _, _, rfl, rfl, _, rfl, z, k, rfl, rfl, rfl, rfl, false, congrArg V.bl e, ?_⟩
      refine iteF ?_
      subst hr0 hkj
      rw [List.append_nil] at hdr
      subst hdr
      refine ⟨_, rfl, "or", .alt, b, vs, done, rfl, form_or, SqL.of hb2, hp2, ?_, fun v H3 s3 hv3 => ?_⟩
      · intro e; rw [e] at hf; cases hf
      refine ⟨_, rfl, _, _, rfl, rfl, (by show 2 ≤ sizeLine; decide), fun t ht => ?_⟩
      exact q t v _ (s2.trans (s3.trans (same_new ht _))) upd_same (hv3.mono (Keeps.new ht))
end
end K5

set_option Elab.async false
set_option linter.all false
set_option maxRecDepth 100000
set_option maxHeartbeats 4000000
namespace K5
open K4
open PySem L2
section
variable {P : Program} {w : World} {K : PySem.W.Frag} {mg : Str → Option Value} {base : Heap} {aE f : Addr} {fd : FuncData}
theorem str_ne {c d : Nat} (h : c ≠ d) : decide (V.str (one c) = V.str (one d)) = false := decide_eq_false fun e => h ((one_eq c d).mp e)
theorem in4 (x a b c d : Str) : inV (.str x) [.str a, .str b, .str c, .str d] = true ↔ x = a ∨ x = b ∨ x = c ∨ x = d := by
  simp only [inV, eqV, List.any_cons, List.any_nil, Bool.or_false, Bool.or_eq_true, beq_iff_eq]
  constructor
  · rintro (h | h | h | h)
    · exact .inl h.symm
    · exact .inr (.inl h.symm)
    · exact .inr (.inr (.inl h.symm))
    · exact .inr (.inr (.inr h.symm))
  · rintro (h | h | h | h)
    · exact .inl h.symm
    · exact .inr (.inl h.symm)
    · exact .inr (.inr (.inl h.symm))
    · exact .inr (.inr (.inr h.symm))

/-! ### read_piece -/
def spPiece (K : PySem.W.Frag) : Sp := fun vs H Q _ => ∃ (z : Str) (i e : Nat) (L : Addr) (ls : LS) (M M' : P4.Lvls) (p : P4.Pat), vs = [.str z, .int (i : Int), .ref L] ∧ z.length ≤ 1000000 ∧ P4.RP (cod z) i M p e M' ∧ At H L ls ∧ Rep K H ls M ∧ sz M ≤ 1000000 ∧ (∀ lv ∈ M, lv ≠ []) ∧
  ∀ a v ls' H', At H' L ls' → Rep K H' ls' M' → Frm H H' L ls ls' → H' a = some (.tup [v, .int (e : Int)]) → PatV K H' v p → Q (.ref a) H'
theorem scPiece : FnScope ["text", "place", "levels", "sign"] ["text", "place", "levels"] (defScope sReadPiece) := ⟨rfl, rfl, rfl, by decide +kernel, rfl, by decide +kernel, by decide +kernel⟩
theorem ok_piece (F : Fun K "read_piece" "read_piece" sReadPiece f fd) (T : Txt K mg aE) (GI : Callee P w K mg base 3 "read_items" ["text", "place"] (spItems K)) (GO : Callee P w K mg base 3 "one_sign" ["sign"] (spOne K)) (GR : Callee P w K mg base 3 "rows_pattern" ["rows"] (spRows K)) :
    FnOk P w K mg base CX0 4 f fd ["text", "place", "levels"] (spPiece K) := by
  refine F.ok scPiece (fun vs H Q E h => ?_) (fun cdv A outer s H vs Q E hr h => ?_)
  · obtain ⟨z, i, e, L, ls, M, M', p, rfl, _⟩ := h; rfl
  · obtain ⟨z, i, e, L, ls, M, M', p, rfl, hz, hP, hA, hR, hsz, hne, q⟩ := h
    refine ⟨_, pss_cons (ps_set (i := 3) scPiece.nd rfl (Or.inl rfl) (pe_ix ix_str (pv 0) (pv 1) (fun _ _ => rfl)))
      (pss_cons (ps_if (pt_cmpR op_eq (pv 3) pe_str (nomark _))
        (pss_cons (ps_if (pt_cmpR op_eq (pe_callB call_len_seq rfl T.len PySem.boot_len (pa_cons (pv 2) pa_nil)) pe_int (nomark _)) (pss_one ps_never) pss_nil)
        (pss_one (ps_ret (pe_tup (pa_cons (pe_def GR hr rfl (pa_cons (pe_bm0 PySem.F.plainAttrs_list PySem.F.slot_list_pop PySem.F.type_list_pop mt_pop (pv 2)) pa_nil)) (pa_cons (pe_op op_add (pv 1) pe_int) pa_nil)))))) pss_nil)
      (pss_cons (ps_if (pt_cmpR op_eq (pv 3) pe_str (nomark _)) (pss_one (ps_ret (pe_def GI hr rfl (pa_cons (pv 0) (pa_cons (pe_op op_add (pv 1) pe_int) pa_nil))))) pss_nil)
      (pss_cons (ps_if (pt_cmpR op_eq (pv 3) pe_str (nomark _))
        (pss_cons (ps_if (pt_cmpR op_eq (pe_op op_add (pv 1) pe_int) (pe_callB call_len_str rfl T.len PySem.boot_len (pa_cons (pv 0) pa_nil)) (nomark _)) (pss_one ps_never) pss_nil)
        (pss_one (ps_ret (pe_tup (pa_cons (pe_def GO hr rfl (pa_cons (pe_ix ix_str (pv 0) (pe_op op_add (pv 1) pe_int) (fun _ _ => rfl)) pa_nil)) (pa_cons (pe_op op_add (pv 1) pe_int) pa_nil)))))) pss_nil)
      (pss_cons (ps_if (pt_cmpR op_in_seq (pv 3) (pe_tup (pa_cons pe_str (pa_cons pe_str (pa_cons pe_str (pa_cons pe_str pa_nil))))) rfl) (pss_one ps_never) pss_nil)
      (pss_one (ps_ret (pe_tup (pa_cons (pe_def GO hr rfl (pa_cons (pv 3) pa_nil)) (pa_cons (pe_op op_add (pv 1) pe_int) pa_nil))))))))), ?_⟩
    cases hP with
    | @close lv m r h41 =>
      refine ⟨_, rfl, _, rfl, z, _, 41, rfl, rfl, small hz, item_at h41, ?_⟩
      refine ⟨_, rfl, rfl, true, rfl, ?_⟩
      refine iteT ?_
      cases hR with
      | @cons l1 _ ls1 _ hl1 hR1 =>
        cases hR1 with
        | @cons l2 _ ls2 _ hl2 hR2 =>
          have hlen := Paired.length hR2
          have hln : (refs (l1 :: l2 :: ls2)).length = ls2.length + 2 := by rw [refs_len]; rfl
          refine ⟨_, rfl, L, _, rfl, .inl (SqL.of hA.top), rfl, false, ?_, ?_⟩
          · refine congrArg V.bl (decide_eq_false fun z => ?_)
            injection z with z
            rw [hln] at z
            omega
          refine iteF ?_
          obtain ⟨A1, eL, eR⟩ := hA.pop
          have etop : refs (l1 :: l2 :: ls2) = refs (l2 :: ls2) ++ [.ref l1.1] := refs_cons _ _
          refine ⟨_, rfl, .inl ⟨rfl, _, SqL.of hA.top⟩, L, _, .ref l1.1, rfl, rfl, hA.top, ?_, ?_⟩
          · rw [etop]; simp
          have ed : (refs (l1 :: l2 :: ls2)).dropLast = refs (l2 :: ls2) := by rw [etop]; simp
          rw [ed]
          have f1 : Frm H (upd H L (.lst (refs (l2 :: ls2)))) L (l1 :: l2 :: ls2) (l2 :: ls2) := Frm.pop _
          have k1 : Keeps K H (upd H L (.lst (refs (l2 :: ls2)))) := Keeps.lst hA.top
          have hl1len := Paired.length hl1
          rw [sz_cons] at hsz
          have := len_lvl lv
          refine ⟨l1.1, l1.2, lv, rfl, SqL.of eL, fun r' hr' => SqL.of (eR r' hr'), Paired.mapP hl1 (fun _ _ q => Pats.mono k1 q), ?_, by omega, fun v H2 s2 hv => ?_⟩
          · intro e
            rw [e] at hl1len
            exact hne lv List.mem_cons_self (List.length_eq_zero_iff.mp hl1len.symm)
          refine ⟨_, rfl, _, _, rfl, rfl, (by show 2 ≤ sizeLine; decide), fun t ht => ?_⟩
          have s3 := s2.trans (same_new ht (.tup [v, .int ((i : Int) + 1)]))
          refine q t v _ _ (A1.same s3) (Rep.mono (k1.trans (Keeps.same s3)) (.cons hl2 hR2)) (f1.trans (Frm.same s3)) upd_same (hv.mono (Keeps.new ht))
    | @items j ps _ h91 hI =>
      refine ⟨_, rfl, _, rfl, z, _, 91, rfl, rfl, small hz, item_at h91, ?_⟩
      refine ⟨_, rfl, rfl, false, rfl, ?_⟩
      refine iteF ?_
      refine ⟨_, rfl, rfl, true, rfl, ?_⟩
      refine iteT ?_
      refine ⟨_, rfl, _, rfl, _, _, rfl, rfl, z, i + 1, j, ps, rfl, hz, hI, fun a v H2 s2 e2 hv => ?_⟩
      exact q a v _ _ (hA.same s2) (hR.mono (Keeps.same s2)) (Frm.same s2) e2 hv
    | @esc c _ h126 hc =>
      refine ⟨_, rfl, _, rfl, z, _, 126, rfl, rfl, small hz, item_at h126, ?_⟩
      refine ⟨_, rfl, rfl, false, rfl, ?_⟩
      refine iteF ?_
      refine ⟨_, rfl, rfl, false, rfl, ?_⟩
      refine iteF ?_
      refine ⟨_, rfl, rfl, true, rfl, ?_⟩
      refine iteT ?_
      have hlt : i + 1 < z.length := by rw [← len_cod]; exact (List.getElem?_eq_some_iff.mp hc).1
      refine ⟨_, rfl, _, _, rfl, rfl, _, rfl, z, rfl, small hz, rfl, false, ?_, ?_⟩
      · refine congrArg V.bl (decide_eq_false fun z => ?_)
        injection z with z
        omega
      refine iteF ?_
      refine ⟨_, rfl, _, rfl, _, _, rfl, rfl, z, _, c, rfl, rfl, small hz, item_at (i := i + 1) hc, c, rfl, fun v H2 s2 hv => ?_⟩
      refine ⟨_, rfl, _, _, rfl, rfl, (by show 2 ≤ sizeLine; decide), fun t ht => ?_⟩
      have s3 := s2.trans (same_new ht (.tup [v, .int ((i : Int) + 2)]))
      exact q t v _ _ (hA.same s3) (hR.mono (Keeps.same s3)) (Frm.same s3) upd_same (hv.mono (Keeps.new ht))
    | @plain c _ hc hs =>
      unfold P4.special at hs
      refine ⟨_, rfl, _, rfl, z, _, c, rfl, rfl, small hz, item_at hc, ?_⟩
      refine ⟨_, rfl, rfl, false, congrArg V.bl (str_ne (d := 41) (by omega)), ?_⟩
      refine iteF ?_
      refine ⟨_, rfl, rfl, false, congrArg V.bl (str_ne (d := 91) (by omega)), ?_⟩
      refine iteF ?_
      refine ⟨_, rfl, rfl, false, congrArg V.bl (str_ne (d := 126) (by omega)), ?_⟩
      refine iteF ?_
      refine ⟨_, rfl, (by show 4 ≤ sizeLine; decide), fun p hp => ⟨p, _, rfl, .inr (SqT.of upd_same), rfl, rfl, _, rfl, ?_⟩⟩
      refine ite2 (fun cc => ?_) (fun _ => ?_)
      · exfalso
        have cc' : inV (.str (one c)) [.str "]", .str "*", .str "+", .str "?"] = true := cc
        rw [in4] at cc'
        rcases cc' with e | e | e | e
        · have := one_inj (c := c) (d := 93) e; omega
        · have := one_inj (c := c) (d := 42) e; omega
        · have := one_inj (c := c) (d := 43) e; omega
        · have := one_inj (c := c) (d := 63) e; omega
      have s1 : Same H (upd H p (.tup [.str "]", .str "*", .str "+", .str "?"])) := same_new hp _
      refine ⟨_, rfl, c, rfl, fun v H2 s2 hv => ?_⟩
      refine ⟨_, rfl, _, _, rfl, rfl, (by show 2 ≤ sizeLine; decide), fun t ht => ?_⟩
      have s3 := s1.trans (s2.trans (same_new ht (.tup [v, .int ((i : Int) + 1)])))
      exact q t v _ _ (hA.same s3) (hR.mono (Keeps.same s3)) (Frm.same s3) upd_same (hv.mono (Keeps.new ht))

/-! ### read_sign -/
theorem RS_ne {t : List Nat} {i j : Nat} {M M' : P4.Lvls} (h : P4.RS t i M j M') (hne : ∀ lv ∈ M, lv ≠ []) : ∀ lv ∈ M', lv ≠ [] := by
  have one : ∀ {e : Nat} {p : P4.Pat} {row : P4.Row} {rows : P4.Lvl} {r : P4.Lvls} (q : P4.Pat), P4.RP t i M p e ((row :: rows) :: r) → ∀ lv ∈ (((row ++ [q]) :: rows) :: r), lv ≠ [] := by
    intro e p row rows r q hp lv hlv
    rcases List.mem_cons.mp hlv with rfl | hlv
    · simp
    · cases hp with
      | close _ => exact hne lv (List.mem_cons_of_mem _ (List.mem_cons_of_mem _ hlv))
      | items _ _ => exact hne lv (List.mem_cons_of_mem _ hlv)
      | esc _ _ => exact hne lv (List.mem_cons_of_mem _ hlv)
      | plain _ _ => exact hne lv (List.mem_cons_of_mem _ hlv)
  cases h with
  | opn _ =>
    intro lv hlv
    rcases List.mem_cons.mp hlv with rfl | hlv
    · simp
    · exact hne lv hlv
  | bar _ =>
    intro lv hlv
    rcases List.mem_cons.mp hlv with rfl | hlv
    · simp
    · exact hne lv (List.mem_cons_of_mem _ hlv)
  | pce hp _ => exact one _ hp
  | mrk hp _ _ => exact one _ hp
def spSign (K : PySem.W.Frag) : Sp := fun vs H Q _ => ∃ (z : Str) (i j : Nat) (L : Addr) (ls : LS) (M M' : P4.Lvls), vs = [.str z, .int (i : Int), .ref L] ∧ z.length ≤ 1000000 ∧ P4.RS (cod z) i M j M' ∧ At H L ls ∧ Rep K H ls M ∧ sz M ≤ 900000 ∧ (∀ lv ∈ M, lv ≠ []) ∧
  ∀ ls' H', At H' L ls' → Rep K H' ls' M' → Frm H H' L ls ls' → Q (.int (j : Int)) H'
theorem scSign : FnScope ["text", "place", "levels", "sign", "read", "end", "mark"] ["text", "place", "levels"] (defScope sReadSign) := ⟨rfl, rfl, rfl, by decide +kernel, rfl, by decide +kernel, by decide +kernel⟩
theorem last_ref {α : Type} (x : Addr × α) (xs : List (Addr × α)) : atI (refs (x :: xs)) (-1) = some (.ref x.1) := by rw [refs_cons]; exact atI_last _ _
theorem rp_head {t : List Nat} {i e : Nat} {M M' : P4.Lvls} {p : P4.Pat} (h : P4.RP t i M p e M') : t[i]? ≠ some 40 ∧ t[i]? ≠ some 124 := by
  cases h with
  | close a => rw [a]; exact ⟨by decide, by decide⟩
  | items a _ => rw [a]; exact ⟨by decide, by decide⟩
  | esc a _ => rw [a]; exact ⟨by decide, by decide⟩
  | plain a b => rw [a]; unfold P4.special at b; exact ⟨fun z => by have := Option.some.inj z; omega, fun z => by have := Option.some.inj z; omega⟩
theorem RS_split {t : List Nat} {i j : Nat} {M M' : P4.Lvls} (h : P4.RS t i M j M') : (t[i]? = some 40 ∧ j = i + 1 ∧ M' = [[]] :: M) ∨ (t[i]? = some 124 ∧ j = i + 1 ∧ ∃ lv r, M = lv :: r ∧ M' = ([] :: lv) :: r) ∨
    ∃ c p e row rows r, t[i]? = some c ∧ c ≠ 40 ∧ c ≠ 124 ∧ P4.RP t i M p e ((row :: rows) :: r) ∧ M' = ((row ++ [mk2 p t[e]?]) :: rows) :: r ∧ j = if t[e]? = some 42 ∨ t[e]? = some 43 ∨ t[e]? = some 63 then e + 1 else e := by
  have hd : ∀ {p : P4.Pat} {e : Nat} {M' : P4.Lvls}, P4.RP t i M p e M' → ∃ c, t[i]? = some c ∧ c ≠ 40 ∧ c ≠ 124 := fun {p e M'} hp => by
    have h := rp_head hp
    have : ∃ c, t[i]? = some c := by
      cases hp with
      | close a => exact ⟨_, a⟩
      | items a _ => exact ⟨_, a⟩
      | esc a _ => exact ⟨_, a⟩
      | plain a _ => exact ⟨_, a⟩
    obtain ⟨c, hc⟩ := this
    exact ⟨c, hc, fun z => h.1 (z ▸ hc), fun z => h.2 (z ▸ hc)⟩
  cases h with
  | opn a => exact .inl ⟨a, rfl, rfl⟩
  | bar a => exact .inr (.inl ⟨a, rfl, _, _, rfl, rfl⟩)
  | @pce _ p e row rows r hp hn =>
    obtain ⟨c, h1, h2, h3⟩ := hd hp
    have n : ∀ m, P4.isMark m → ¬ t[j]? = some m := fun m hm e => hn m e hm
    refine .inr (.inr ⟨c, p, _, row, rows, r, h1, h2, h3, hp, ?_, ?_⟩)
    · unfold mk2
      rw [if_neg (n 42 (.inl rfl)), if_neg (n 43 (.inr (.inl rfl))), if_neg (n 63 (.inr (.inr rfl)))]
    · rw [if_neg]
      rintro (e | e | e)
      · exact n 42 (.inl rfl) e
      · exact n 43 (.inr (.inl rfl)) e
      · exact n 63 (.inr (.inr rfl)) e
  | @mrk _ p e m row rows r hp hm hM =>
    obtain ⟨c, h1, h2, h3⟩ := hd hp
    refine .inr (.inr ⟨c, p, e, row, rows, r, h1, h2, h3, hp, ?_, ?_⟩)
    · rw [hm]
      rcases hM with rfl | rfl | rfl
      · rfl
      · rfl
      · rfl
    · rw [hm, if_pos]
      rcases hM with rfl | rfl | rfl
      · exact .inl rfl
      · exact .inr (.inl rfl)
      · exact .inr (.inr rfl)
theorem ok_sign (F : Fun K "read_sign" "read_sign" sReadSign f fd) (T : Txt K mg aE) (GP : Callee P w K mg base 4 "read_piece" ["text", "place", "levels"] (spPiece K)) (GM : Callee P w K mg base 4 "marked" ["piece", "mark"] (spMarked K)) :
    FnOk P w K mg base CX0 5 f fd ["text", "place", "levels"] (spSign K) := by
  refine F.ok scSign (fun vs H Q E h => ?_) (fun cdv A outer s H vs Q E hr h => ?_)
  · obtain ⟨z, i, j, L, ls, M, M', rfl, _⟩ := h; rfl
  · obtain ⟨z, i, j, L, ls, M, M', rfl, hz, hS, hA, hR, hsz, hne, q⟩ := h
    refine ⟨_, pss_cons (ps_set (i := 3) scSign.nd rfl (Or.inl rfl) (pe_ix ix_str (pv 0) (pv 1) (fun _ _ => rfl)))
      (pss_cons (ps_if (pt_cmpR op_eq (pv 3) pe_str (nomark _))
        (pss_cons (ps_expr (pe_bm PySem.F.plainAttrs_list PySem.F.slot_list_append PySem.F.type_list_append mt_append (pv 2) (pa_cons (pe_lst (pa_cons (pe_lst pa_nil) pa_nil)) pa_nil)))
        (pss_one (ps_ret (pe_op op_add (pv 1) pe_int)))) pss_nil)
      (pss_cons (ps_if (pt_cmpR op_eq (pv 3) pe_str (nomark _))
        (pss_cons (ps_expr (pe_bm PySem.F.plainAttrs_list PySem.F.slot_list_append PySem.F.type_list_append mt_append (pe_ix ix_list (pv 2) (pe_un un_neg pe_int) (fun _ _ => rfl)) (pa_cons (pe_lst pa_nil) pa_nil)))
        (pss_one (ps_ret (pe_op op_add (pv 1) pe_int)))) pss_nil)
      (pss_cons (ps_set (i := 4) scSign.nd rfl (Or.inl rfl) (pe_def GP hr rfl (pa_cons (pv 0) (pa_cons (pv 1) (pa_cons (pv 2) pa_nil)))))
      (pss_cons (ps_set (i := 5) scSign.nd rfl (Or.inl rfl) (pe_ix ix_tup (pv 4) pe_int (fun _ _ => rfl)))
      (pss_cons (ps_set (i := 6) scSign.nd rfl (Or.inl rfl) (pe_slice sl_str1 (pv 0) (po_some (pv 5)) (po_some (pe_op op_add (pv 5) pe_int))))
      (pss_cons (ps_if (pt_cmpR op_in_seq (pv 6) (pe_tup (pa_cons pe_str (pa_cons pe_str (pa_cons pe_str pa_nil)))) rfl) (pss_one (ps_aug (i := 5) scSign.nd rfl (Or.inl rfl) pe_int ip_add)) pss_nil)
      (pss_cons (ps_expr (pe_bm PySem.F.plainAttrs_list PySem.F.slot_list_append PySem.F.type_list_append mt_append (pe_ix ix_list (pe_ix ix_list (pv 2) (pe_un un_neg pe_int) (fun _ _ => rfl)) (pe_un un_neg pe_int) (fun _ _ => rfl))
        (pa_cons (pe_def GM hr rfl (pa_cons (pe_ix ix_tup (pv 4) pe_int (fun _ _ => rfl)) (pa_cons (pv 6) pa_nil))) pa_nil)))
      (pss_one (ps_ret (pv 5)))))))))), ?_⟩
    rcases RS_split hS with ⟨h40, rfl, rfl⟩ | ⟨h124, rfl, lv, r, rfl, rfl⟩ | ⟨c, p, e, row, rows, r, hc, c1, c2, hP, rfl, hj⟩
    · refine ⟨_, rfl, _, rfl, z, _, 40, rfl, rfl, small hz, item_at h40, ?_⟩
      refine ⟨_, rfl, rfl, true, rfl, ?_⟩
      refine iteT ?_
      have hlen := Paired.length hR
      have := len_lvls M
      refine ⟨_, rfl, .inl ⟨rfl, _, SqL.of hA.top⟩, (by show 0 ≤ sizeLine; decide), fun r hr' => ⟨(by show 1 ≤ sizeLine; decide), fun l hl => ?_⟩⟩
      have nL : ∀ b, H b = none → b ≠ L := fun b hb z => by rw [z, hA.top] at hb; cases hb
      have hlr : l ≠ r := fun z => by rw [z, upd_same] at hl; cases hl
      have hl' : H l = none := by rw [upd_ne hlr] at hl; exact hl
      have eT : upd (upd H r (.lst [])) l (.lst [.ref r]) L = some (.lst (refs ls)) := by rw [upd_ne (nL l hl').symm, upd_ne (nL r hr').symm]; exact hA.top
      refine ⟨L, _, .ref l, rfl, rfl, eT, small' (by rw [refs_len]; omega), ?_⟩
      refine ⟨_, rfl, _, _, rfl, rfl, ?_⟩
      have A' := hA.push hr' hl
      have F' := Frm.push hA hr' hl (.lst (refs ls ++ [.ref l]))
      exact q _ _ A' (.cons (.cons .nil .nil) (hR.mono (hA.keeps F'))) F'
    · refine ⟨_, rfl, _, rfl, z, _, 124, rfl, rfl, small hz, item_at h124, ?_⟩
      refine ⟨_, rfl, rfl, false, rfl, ?_⟩
      refine iteF ?_
      refine ⟨_, rfl, rfl, true, rfl, ?_⟩
      refine iteT ?_
      cases hR with
      | @cons l1 _ ls1 _ hl1 hR1 =>
        obtain ⟨l, rs⟩ := l1
        have hlen := Paired.length hl1
        rw [sz_cons] at hsz
        have := len_lvl lv
        have eL := hA.lvl _ List.mem_cons_self
        refine ⟨_, rfl, 1, rfl, L, _, -1, _, rfl, rfl, SqL.of hA.top, last_ref _ _, .inl ⟨rfl, _, SqL.of eL⟩, (by show 0 ≤ sizeLine; decide), fun r' hr' => ?_⟩
        have nl : l ≠ r' := fun z => by rw [← z] at hr'; rw [hr'] at eL; cases eL
        have eL' : upd H r' (.lst []) l = some (.lst (refs rs)) := by rw [upd_ne nl]; exact eL
        refine ⟨l, _, .ref r', rfl, rfl, eL', small' (by rw [refs_len]; have h2 : rs.length = lv.length := hlen; omega), ?_⟩
        refine ⟨_, rfl, _, _, rfl, rfl, ?_⟩
        have A' := hA.bar hr'
        have F' := Frm.bar (l := l) (rs := rs) (rest := ls1) (L := L) hr' (.lst (refs rs ++ [.ref r']))
        have k := hA.keeps (K := K) F'
        exact q _ _ A' (.cons (.cons .nil (Paired.mapP hl1 fun _ _ q => Pats.mono k q)) (Rep.mono k hR1)) F'
    · refine ⟨_, rfl, _, rfl, z, _, c, rfl, rfl, small hz, item_at hc, ?_⟩
      refine ⟨_, rfl, rfl, false, congrArg V.bl (str_ne (d := 40) c1), ?_⟩
      refine iteF ?_
      refine ⟨_, rfl, rfl, false, congrArg V.bl (str_ne (d := 124) c2), ?_⟩
      refine iteF ?_
      refine ⟨_, rfl, _, rfl, _, rfl, z, i, e, L, ls, M, _, p, rfl, hz, hP, hA, hR, by omega, hne, fun a v ls1 H1 A1 R1 F1 e1 hv => ?_⟩
      refine ⟨_, rfl, a, _, 1, _, rfl, rfl, SqT.of e1, rfl, ?_⟩
      refine ⟨_, rfl, _, rfl, _, rfl, _, rfl, _, _, rfl, rfl, _, rfl, z, e, rfl, rfl, rfl, ?_⟩
      refine ⟨_, rfl, (by show 3 ≤ sizeLine; decide), fun p2 hp2 => ⟨p2, _, rfl, .inr (SqT.of upd_same), rfl, rfl, _, rfl, ?_⟩⟩
      have s2 : Same H1 (upd H1 p2 (.tup [.str "*", .str "+", .str "?"])) := same_new hp2 _
      generalize hH2 : upd H1 p2 (.tup [.str "*", .str "+", .str "?"]) = H2 at s2
      have hin : inV (.str (chAt z e)) [.str "*", .str "+", .str "?"] = true ↔ ((cod z)[e]? = some 42 ∨ (cod z)[e]? = some 43 ∨ (cod z)[e]? = some 63) := by
        rw [in3, ← chAt_iff, ← chAt_iff, ← chAt_iff]
        exact Iff.rfl
      have A2 := A1.same s2
      have e2 := s2 _ _ e1
      have hv2 := hv.mono (Keeps.same (K := K) s2)
      have R2 := R1.mono (Keeps.same (K := K) s2)
      cases R2 with
      | @cons l1 _ ls2 _ hl1 hR1 =>
        obtain ⟨l, rs0⟩ := l1
        cases hl1 with
        | @cons r1 _ rs _ hr1 hl2 =>
          obtain ⟨r0, vs⟩ := r1
          have eL := A2.lvl _ List.mem_cons_self
          have eR := A2.row _ List.mem_cons_self _ List.mem_cons_self
          have hszr : vs.length ≤ 1000000 := by
            have h1 := Paired.length hr1
            have h2 := RS_sz hS
            rw [sz_cons, szl_cons, List.length_append] at h2
            have h3 : vs.length = row.length := h1
            omega
          -- the last two statements
          have fin : ∀ (k : Nat), k = j → ∀ v' H3, Same H2 H3 → PatV K H3 v' (mk2 p (cod z)[e]?) → H3 r0 = some (.lst vs) ∧ Q (.int (k : Int)) (upd H3 r0 (.lst (vs ++ [v']))) := fun k hk v' H3 s3 hv3 => by
            have A3 := A2.same s3
            have eR3 := s3 _ _ eR
            have A4 := A3.piece (vs ++ [v'])
            have F4 : Frm H3 (upd H3 r0 (.lst (vs ++ [v']))) L ((l, (r0, vs) :: rs) :: ls2) ((l, (r0, vs ++ [v']) :: rs) :: ls2) := Frm.piece _
            have k4 : Keeps K H3 (upd H3 r0 (.lst (vs ++ [v']))) := Keeps.lst eR3
            have k24 := (Keeps.same (K := K) s3).trans k4
            refine ⟨eR3, ?_⟩
            rw [hk]
            refine q _ _ A4 (.cons (.cons (Paired.app (Pats.mono k24 hr1) (.cons (hv3.mono k4) .nil)) (Paired.mapP hl2 fun _ _ q => Pats.mono k24 q)) (Rep.mono k24 hR1)) ?_
            exact F1.trans ((Frm.same (s2.trans s3)).trans F4)
          have last : ∀ (k : Nat), k = j → tSeq (tDrop (tBM K "list" rAppend (tOp (rIxL K) (tOp (rIxL K) (tVar 2) (tUn (rU fun i => .int (-i)) (tC (.int 1)))) (tUn (rU fun i => .int (-i)) (tC (.int 1))))
              (tCons (tCall (spMarked K) [] E0 (tCons (tOp (rIxT K) (tVar 4) (tC (.int 0))) (tCons (tVar 6) tNil))) tNil))) (tRet (tVar 5)) { nx := fun _ H' => Q .non H', rt := Q }
              [some (.str z), some (.int (i : Int)), some (.ref L), some (.str (one c)), some (.ref a), some (.int (k : Int)), some (.str (chAt z e))] H2 := fun k hk => by
            refine ⟨_, rfl, 1, rfl, L, _, -1, _, rfl, rfl, SqL.of A2.top, last_ref _ _, 1, rfl, l, _, -1, _, rfl, rfl, SqL.of eL, last_ref _ _, .inl ⟨rfl, _, SqL.of eR⟩, _, rfl, a, _, 0, _, rfl, rfl, SqT.of e2, rfl, _, rfl, v, p, z, e, rfl, hv2, fun v' H3 s3 hv3 => ?_⟩
            obtain ⟨eR3, fq⟩ := fin k hk v' H3 s3 hv3
            exact ⟨r0, vs, v', rfl, rfl, eR3, small' hszr, _, rfl, fq⟩
          refine ite2 (fun cc => ?_) (fun cc => ?_)
          · have cc' : inV (.str (chAt z e)) [.str "*", .str "+", .str "?"] = true := cc
            rw [hin] at cc'
            rw [if_pos cc'] at hj
            refine ⟨_, rfl, _, _, rfl, rfl, ?_⟩
            exact last (e + 1) hj.symm
          · have cc' : ¬ inV (.str (chAt z e)) [.str "*", .str "+", .str "?"] = true := cc
            rw [hin] at cc'
            rw [if_neg cc'] at hj
            exact last e hj.symm

/-! ### read_pattern -/
def spRead (K : PySem.W.Frag) : Sp := fun vs H Q _ => ∃ (z : Str) (lv : P4.Lvl), vs = [.str z] ∧ z.length ≤ 100000 ∧ P4.RR (cod z) 0 P4.init (cod z).length [lv] ∧ ∀ v H', Same H H' → PatV K H' v (P4.rowsPat lv.reverse) → Q v H'
theorem scRead : FnScope ["text", "levels", "place"] ["text"] (defScope sReadPattern) := ⟨rfl, rfl, rfl, by decide +kernel, rfl, by decide +kernel, by decide +kernel⟩
theorem ok_read (F : Fun K "read_pattern" "read_pattern" sReadPattern f fd) (T : Txt K mg aE) (GS : Callee P w K mg base 5 "read_sign" ["text", "place", "levels"] (spSign K)) (GR : Callee P w K mg base 5 "rows_pattern" ["rows"] (spRows K)) :
    FnOk P w K mg base CX0 6 f fd ["text"] (spRead K) := by
  refine F.ok scRead (fun vs H Q E h => ?_) (fun cdv A outer s H vs Q E hr h => ?_)
  · obtain ⟨z, lv, rfl, _⟩ := h; rfl
  · obtain ⟨z, lv, rfl, hz, hRR, q⟩ := h
    refine ⟨_, pss_cons (ps_set (i := 1) scRead.nd rfl (Or.inl rfl) (pe_lst (pa_cons (pe_lst (pa_cons (pe_lst pa_nil) pa_nil)) pa_nil)))
      (pss_cons (ps_set (i := 2) scRead.nd rfl (Or.inl rfl) pe_int)
      (pss_cons (ps_while PassesOwn.never (pt_cmpR op_lt (pv 2) (pe_callB call_len_str rfl T.len PySem.boot_len (pa_cons (pv 0) pa_nil)) (nomark _))
        (pss_one (ps_set (i := 2) scRead.nd rfl (Or.inl rfl) (pe_def GS hr rfl (pa_cons (pv 0) (pa_cons (pv 2) (pa_cons (pv 1) pa_nil)))))))
      (pss_cons (ps_if (pt_cmpR op_gt (pe_callB call_len_seq rfl T.len PySem.boot_len (pa_cons (pv 1) pa_nil)) pe_int (nomark _)) (pss_one ps_never) pss_nil)
      (pss_one (ps_ret (pe_def GR hr rfl (pa_cons (pe_ix ix_list (pv 1) pe_int (fun _ _ => rfl)) pa_nil))))))), ?_⟩
    refine ⟨(by show 0 ≤ sizeLine; decide), fun r hr' => ⟨(by show 1 ≤ sizeLine; decide), fun l hl => ⟨(by show 1 ≤ sizeLine; decide), fun L hL => ?_⟩⟩⟩
    have A0 := At.init hr' hl hL
    have s0 : Same H (upd (upd (upd H r (.lst [])) l (.lst [.ref r])) L (.lst [.ref l])) := (same_new hr' _).trans ((same_new hl _).trans (same_new hL _))
    have new0 : ∀ b ∈ adr L [(l, [(r, [])])], H b = none := fun b hb => by
      have e : adr L [(l, [(r, [])])] = [L, l, r] := rfl
      rw [e] at hb
      rcases List.mem_cons.mp hb with rfl | hb
      · exact (same_new hr' _).free ((same_new hl _).free hL)
      · rcases List.mem_cons.mp hb with rfl | hb
        · exact (same_new hr' _).free hl
        · rw [List.mem_singleton.mp hb]; exact hr'
    have hlz := len_cod z
    refine ⟨fun m σ H2 => ∃ (k : Nat) (ls : LS) (M : P4.Lvls), σ = [some (.str z), some (.ref L), some (.int (k : Int))] ∧ m = (cod z).length - k ∧ k ≤ (cod z).length ∧ P4.RR (cod z) k M (cod z).length [lv] ∧ At H2 L ls ∧ Rep K H2 ls M ∧ (∀ lv ∈ M, lv ≠ []) ∧ sz M ≤ 3 + 2 * k ∧ Same H H2 ∧ ∀ b ∈ adr L ls, H b = none,
      ⟨_, 0, _, P4.init, rfl, rfl, Nat.zero_le _, hRR, A0, .cons (.cons .nil .nil) .nil, by simp, by decide, s0, new0⟩, ?_⟩
    rintro m σ H2 ⟨k, ls, M, rfl, rfl, hk, hR, A2, R2, hne, hsz, s2, new2⟩
    refine ⟨_, rfl, _, rfl, z, rfl, small (by omega), _, _, rfl, rfl, _, rfl, ?_⟩
    cases hR with
    | @step _ _ j M' _ _ st hR' =>
      have hlt := st.lt
      refine ite2 (fun _ => ?_) (fun cc => ?_)
      · refine ⟨fun σ' H' => ∃ (ls' : LS), σ' = [some (.str z), some (.ref L), some (.int (j : Int))] ∧ At H' L ls' ∧ Rep K H' ls' M' ∧ Same H H' ∧ ∀ b ∈ adr L ls', H b = none, ?_, ?_⟩
        · rintro σ' H' ⟨ls', rfl, A3, R3, s3, new3⟩
          have := RS_sz st
          exact ⟨(cod z).length - j, by omega, j, ls', M', rfl, rfl, hlt.2, hR', A3, R3, RS_ne st hne, by omega, s3, new3⟩
        refine ⟨_, rfl, _, rfl, _, rfl, z, k, j, L, ls, M, M', rfl, by omega, st, A2, R2, by omega, hne, fun ls' H3 A3 R3 F3 => ?_⟩
        refine ⟨ls', rfl, A3, R3, fun b o e => F3.keep b o (s2 _ _ e) fun hb => ?_, fun b hb => ?_⟩
        · have := new2 b hb; rw [this] at e; cases e
        · rcases F3.new b hb with h | h
          · exact new2 b h
          · exact s2.free h
      · exfalso
        apply cc
        refine decide_eq_true ?_
        omega
    | nil =>
      refine ite2 (fun cc => ?_) (fun _ => ?_)
      · exfalso
        have := of_decide_eq_true cc
        omega
      cases R2 with
      | @cons l1 _ ls1 _ hl1 hR1 =>
        cases hR1
        have eL := A2.lvl l1 List.mem_cons_self
        refine ⟨_, rfl, L, _, rfl, .inl (SqL.of A2.top), _, _, rfl, rfl, _, rfl, ?_⟩
        refine ite2 (fun cc => ?_) (fun _ => ?_)
        · exfalso
          have := of_decide_eq_true cc
          rw [refs_len] at this
          simp at this
        have hlen := Paired.length hl1
        have h2 := len_lvl lv
        rw [sz_cons] at hsz
        refine ⟨_, rfl, L, _, 0, .ref l1.1, rfl, rfl, SqL.of A2.top, rfl, l1.1, l1.2, lv, rfl, SqL.of eL, fun r' hr' => SqL.of (A2.row l1 List.mem_cons_self r' hr'), hl1, ?_, by omega, fun v H3 s3 hv => q v H3 (s2.trans s3) hv⟩
        intro e
        rw [e] at hlen
        exact hne lv List.mem_cons_self (List.length_eq_zero_iff.mp hlen.symm)
end
end K5

set_option Elab.async false
set_option linter.all false
set_option maxRecDepth 100000
set_option maxHeartbeats 4000000
namespace L2
open PySem PySem.Spec PyProof.Rows PySem.W
/-- an expression's reading, made monotone -/
def tMono (te : TE) : TE := fun σ H Q => ∃ R : VK, te σ H R ∧ ∀ v H1, R v H1 → Q v H1
theorem PE.mono {X : Cx} {e : Expr} {te : TE} (h : PE X e te) : PE X e (tMono te) := fun pins s σ H Q I ⟨R, q, m⟩ => thn (h pins s σ H R I q) fun u s1 ⟨x, H1, I1, r1, q1⟩ => ⟨x, H1, I1, r1, m _ _ q1⟩
section
variable {P : Program} {w : World} {K : Frag} {mg : Str → Option Value} {base : Heap} {CX : CXT} {k : Nat} {f : Addr} {fd : FuncData} {ps : List Str} {sp sp' : Sp}
/-- what never raises may be said to raise anything -/
theorem FnOk.ex (G : FnOk P w K mg base CX0 k f fd ps sp) : FnOk P w K mg base CX k f fd ps sp :=
  ⟨G.len, fun A outer s H args us vs Q E hr he hb hv hs => codeAny_mono (G.run A outer s H args us vs Q E hr he hb hv hs) fun r s' z => by
    cases r with
    | error e => exact False.elim z
    | ok fl => cases fl <;> exact z⟩
theorem FnOk.or (G : FnOk P w K mg base CX k f fd ps sp) (G' : FnOk P w K mg base CX k f fd ps sp') : FnOk P w K mg base CX k f fd ps (fun vs H Q E => sp vs H Q E ∨ sp' vs H Q E) :=
  ⟨fun vs H Q E h => h.elim (G.len vs H Q E) (G'.len vs H Q E), fun A outer s H args us vs Q E hr he hb hv hs => hs.elim (G.run A outer s H args us vs Q E hr he hb hv) (G'.run A outer s H args us vs Q E hr he hb hv)⟩
end
end L2
namespace K5
open PySem L2 K4 PySem.W
/-- all that raising NoPattern needs -/
def Rz (P : Program) (w : World) (K : Frag) (mg : Str → Option Value) (base : Heap) (C : Addr) : Prop :=
  ∃ W fI fd, Np K mg C W fI ∧ FnOk P w K mg base CX0 1 fI fd ["self", "place"] (spInit C) ∧ Binds K fd ["self", "place"] []
/-- the exception told: NoPattern with this place -/
def Tell (C : Addr) (H : Hp) (E : XK) (n : Nat) : Prop := ∀ dx H', Same H H' → H' dx = some (.xd [("place", .int (n : Int))]) → E (.ref C) (some dx) H'
theorem Tell.mono {C : Addr} {H H1 : Hp} {E : XK} {n : Nat} (h : Tell C H E n) (s : Same H H1) : Tell C H1 E n := fun dx H' s' e => h dx H' (s.trans s') e
section
variable {P : Program} {w : World} {K : Frag} {mg : Str → Option Value} {base : Heap} {N : List Str} {qual : Str} {scope : Scope} {f C : Addr} {cd : Value} {A : Around} {outer : List Env} {s₀ : Shared} {H₀ : Hp} {E : XK}
def tRz (C : Addr) (E : XK) (te : TE) : TS := fun _ σ H => te σ H fun v H1 => ∃ n : Nat, v = .int (n : Int) ∧ n ≤ 1000000 ∧ Tell C H1 E n
theorem ps_rz {e : Expr} {te : TE} {p cp pos : Pos} (R : Rz P w K mg base C) (hr : Room 2 (cxOf (CX1 P w) P w K mg base N qual scope f cd A outer s₀ H₀ E).A) (hg : Gl (cxOf (CX1 P w) P w K mg base N qual scope f cd A outer s₀ H₀ E) "NoPattern")
    (he : PE (cxOf (CX1 P w) P w K mg base N qual scope f cd A outer s₀ H₀ E) e te) (hst : starEach [e] (cxOf (CX1 P w) P w K mg base N qual scope f cd A outer s₀ H₀ E).env = (false, eval e (cxOf (CX1 P w) P w K mg base N qual scope f cd A outer s₀ H₀ E).env) :: starEach [] (cxOf (CX1 P w) P w K mg base N qual scope f cd A outer s₀ H₀ E).env := by rfl) :
    PS (cxOf (CX1 P w) P w K mg base N qual scope f cd A outer s₀ H₀ E) (.Raise (some (.Call (.Name "NoPattern" p) [e] [] cp)) none pos) (tRz C E te) := by
  obtain ⟨W, fI, fd, Nn, G, b⟩ := R
  obtain ⟨oI, lk, hfc⟩ := Nn.fn
  have raise := ps_raise (pos := pos) (pe_mx (p := p) (pos := cp) PySem.F.excBase_ValueError Nn.x lk hfc Nn.kp G (by decide) hr hg Nn.mC b pass0 (pa_cons he.mono pa_nil hst) (by decide) hst rfl)
  intro pins s σ H D I h
  refine raise pins s σ H D I ⟨_, h, fun v H1 ⟨n, ev, hn, q⟩ => ?_⟩
  subst ev
  intro ea h1 h2
  refine ⟨ea, n, rfl, hn, upd_same, fun dx d1 d2 => ⟨rfl, ea, C, some dx, fI, bmVE, _, rfl, upd_same, h2, Nn.x, by decide, ?_⟩⟩
  have hd : H1 dx = none := by rw [upd_ne d2] at d1; exact d1
  refine q dx _ (fun c o e => ?_) ?_
  · have n1 : c ≠ ea := ne_of_none e h1
    have n2 : c ≠ dx := ne_of_none e hd
    rw [upd_ne n1, upd_ne n1, upd_ne n2, upd_ne n1]
    exact e
  · rw [upd_ne d2, upd_ne d2, upd_same]
end
end K5

set_option Elab.async false
set_option linter.all false
set_option maxRecDepth 100000
set_option maxHeartbeats 4000000
namespace P4
/-! ### where reading fails -/
def isgF (t : List Nat) (i : Nat) : Nat := match t[i]? with
  | none => i
  | some c => if c = 93 ∨ c = 45 then i else i + 1
def itmF (t : List Nat) (i : Nat) : Nat := match isg t i with
  | none => isgF t i
  | some (_, j) => match isg t (j + 1) with
    | none => isgF t (j + 1)
    | some (_, k) => k - 1
inductive ItemsF (t : List Nat) : Nat → Nat → Prop
  | here {i} : itm t i = none → ItemsF t i (itmF t i)
  | more {i k p q} : itm t i = some (p, k) → t[k]? ≠ some 93 → ItemsF t k q → ItemsF t i q
inductive RPF (t : List Nat) : Nat → Lvls → Nat → Prop
  | close {i lv} : t[i]? = some 41 → RPF t i [lv] i
  | items {i L q} : t[i]? = some 91 → ItemsF t (i + 1) q → RPF t i L q
  | esc {i L} : t[i]? = some 126 → t[i + 1]? = none → RPF t i L (i + 1)
  | bad {i L c} : t[i]? = some c → (c = 93 ∨ c = 42 ∨ c = 43 ∨ c = 63) → RPF t i L i
inductive RRF (t : List Nat) : Nat → Prop
  | sign {k L q} : RR t 0 init k L → RPF t k L q → RRF t q
  | open_ {lv m r} : RR t 0 init t.length (lv :: m :: r) → RRF t t.length
end P4
namespace K5
open PySem L2 K4 PySem.W PyProof.Rows
section
variable {P : Program} {w : World} {K : Frag} {mg : Str → Option Value} {base : Heap} {aE f C : Addr} {fd : FuncData}
/-- a def that is called by its name and may raise -/
def CalleX (P : Program) (w : World) (K : PySem.W.Frag) (mg : Str → Option Value) (base : Heap) (k : Nat) (x : Str) (ps : List Str) (sp : Sp) : Prop :=
  ∃ f fd, FnOk P w K mg base (CX1 P w) k f fd ps sp ∧ Binds K fd ps [] ∧ PySem.W.keepIn K (.ref f) = true ∧ mg x = some (.ref f)
theorem CalleX.mono {j k : Nat} {x : Str} {ps : List Str} {sp : Sp} (c : CalleX P w K mg base j x ps sp) (h : j ≤ k) : CalleX P w K mg base k x ps sp :=
  let ⟨f, fd, a, b⟩ := c; ⟨f, fd, a.mono h, b⟩
/-- a call in a body that may raise, too -/
theorem pe_defX {N : List Str} {qual : Str} {scope : Scope} {g : Addr} {cd : Value} {A : Around} {outer : List Env} {s₀ : Shared} {H₀ : Hp} {E : XK} {k : Nat} {x : Str} {ps : List Str} {sp : Sp} {e : Expr} {es : List Expr} {t : TA} {p pos : Pos} (c : CalleX P w K mg base k x ps sp)
    (hr : Room k (cxOf (CX1 P w) P w K mg base N qual scope g cd A outer s₀ H₀ E).A) (hg : Gl (cxOf (CX1 P w) P w K mg base N qual scope g cd A outer s₀ H₀ E) x) (ha : PA (cxOf (CX1 P w) P w K mg base N qual scope g cd A outer s₀ H₀ E) (e :: es) t)
    (hdb : (x == ("__debug__" : Str)) = false := by decide) (he : starEach (e :: es) (cxOf (CX1 P w) P w K mg base N qual scope g cd A outer s₀ H₀ E).env = (false, eval e (cxOf (CX1 P w) P w K mg base N qual scope g cd A outer s₀ H₀ E).env) :: starEach es (cxOf (CX1 P w) P w K mg base N qual scope g cd A outer s₀ H₀ E).env := by rfl)
    (hpl : (backTo pos (starEach es (cxOf (CX1 P w) P w K mg base N qual scope g cd A outer s₀ H₀ E).env)).any (·.1) = false := by rfl) :
    PE (cxOf (CX1 P w) P w K mg base N qual scope g cd A outer s₀ H₀ E) (.Call (.Name x p) (e :: es) [] pos) (tCall sp [] E t) := by
  obtain ⟨f, fd, G, b, kp, m⟩ := c
  exact pe_call G hr hg m kp b .nil (pass1 fun _ _ _ z => z) ha hdb he hpl
/-- THE RULE for a def that may raise -/
theorem okX {x qual : Str} {st : Stmt} {N ps : List Str} {k : Nat} {sp : Sp} (F : Fun K x qual st f fd) (S : FnScope N ps (defScope st)) (len : ∀ vs H Q E, sp vs H Q E → vs.length = ps.length)
    (hbody : ∀ (cdv : Value) (A : Around) (outer : List Env) (s : Shared) (H : Hp) (vs : List V) (Q : VK) (E : XK), Room k (A.deeper (envOfC qual (defScope st) s.heap.objs.size f cdv)) → sp vs H Q E →
      ∃ t, PSs (cxOf (CX1 P w) P w K mg base N qual (defScope st) f cdv A outer s H E) (defBody st) t ∧ t { nx := fun _ H' => Q .non H', rt := Q } (start N vs) H) : FnOk P w K mg base (CX1 P w) (k + 1) f fd ps sp := by
  obtain ⟨oc, od, kV, doc, pm, an, cdv, ct, osl, rfl, lk, hcd⟩ := F.ex
  exact fn_of lk hcd S len fun A outer s H vs Q E hr hsp => hbody cdv A outer s H vs Q E hr hsp

/-! ### read_item_sign, where it fails -/
def spISF (C : Addr) : Sp := fun vs H _ E => ∃ (z : Str) (i : Nat), vs = [.str z, .int (i : Int)] ∧ z.length ≤ 1000 ∧ i ≤ 2000 ∧ P4.isg (cod z) i = none ∧ Tell C H E (P4.isgF (cod z) i)
theorem ok_isF (F : Fun K "read_item_sign" "read_item_sign" sReadItemSign f fd) (R : Rz P w K mg base C) : FnOk P w K mg base (CX1 P w) 3 f fd ["text", "place"] (spISF C) := by
  refine okX F scIS (fun vs H Q E h => ?_) (fun cdv A outer s H vs Q E hr h => ?_)
  · obtain ⟨z, i, rfl, _⟩ := h; rfl
  · obtain ⟨z, i, rfl, hz, hi, hg, q⟩ := h
    have hz6 : z.length ≤ 1000000 := by omega
    refine ⟨_, pss_cons (ps_if (pt_cmpR op_in_seq (pe_slice sl_str1 (pv 0) (po_some (pv 1)) (po_some (pe_op op_add (pv 1) pe_int))) (pe_tup (pa_cons pe_str (pa_cons pe_str (pa_cons pe_str pa_nil)))) rfl) (pss_one (ps_rz R hr rfl (pv 1))) pss_nil)
      (pss_cons (ps_if (pt_cmpR op_ne (pe_ix ix_str (pv 0) (pv 1) (fun _ _ => rfl)) pe_str (nomark _)) (pss_one ps_never) pss_nil)
      (pss_cons (ps_if (pt_cmpR op_notIn_seq (pe_slice sl_str1 (pv 0) (po_some (pe_op op_add (pv 1) pe_int)) (po_some (pe_op op_add (pv 1) pe_int))) (pe_tup (pa_cons pe_str (pa_cons pe_str (pa_cons pe_str pa_nil)))) rfl) (pss_one (ps_rz R hr rfl (pe_op op_add (pv 1) pe_int))) pss_nil)
      (pss_one ps_never))), ?_⟩
    refine ⟨_, rfl, _, rfl, _, rfl, _, rfl, _, _, rfl, rfl, _, rfl, z, i, rfl, rfl, rfl, (by show 3 ≤ sizeLine; decide), fun p hp => ⟨p, _, rfl, .inr (SqT.of upd_same), rfl, rfl, _, rfl, ?_⟩⟩
    have s1 : Same H (upd H p (.tup [.str "", .str "]", .str "-"])) := same_new hp _
    have fst : inV (.str (chAt z i)) [.str "", .str "]", .str "-"] = true ↔ ((cod z)[i]? = none ∨ (cod z)[i]? = some 93 ∨ (cod z)[i]? = some 45) := by
      rw [in3]
      cases e : (cod z)[i]? with
      | none => rw [chAt_none e]; exact ⟨fun _ => .inl rfl, fun _ => .inl rfl⟩
      | some d =>
        rw [chAt_some e]
        constructor
        · rintro (h | h | h)
          · exact absurd (congrArg cod h) (by rw [cod_one]; exact fun z => nomatch (show [d] = ([] : List Nat) from z))
          · exact .inr (.inl (by rw [K4.one_inj (c := d) (d := 93) h]))
          · exact .inr (.inr (by rw [K4.one_inj (c := d) (d := 45) h]))
        · rintro (h | h | h)
          · cases h
          · cases h; exact .inr (.inl rfl)
          · cases h; exact .inr (.inr rfl)
    refine ite2 (fun cc => ?_) (fun cc => ?_)
    · have cc' := fst.mp cc
      refine ⟨_, rfl, i, rfl, by omega, ?_⟩
      have e : P4.isgF (cod z) i = i := by
        unfold P4.isgF
        rcases cc' with h | h | h <;> rw [h] <;> simp
      rw [e] at q
      exact q.mono s1
    · have cc' : ¬ ((cod z)[i]? = none ∨ (cod z)[i]? = some 93 ∨ (cod z)[i]? = some 45) := fun z' => cc (fst.mpr z')
      cases ed : (cod z)[i]? with
      | none => exact absurd (.inl ed) cc'
      | some d =>
        have d1 : d ≠ 93 := fun z' => cc' (.inr (.inl (z' ▸ ed)))
        have d2 : d ≠ 45 := fun z' => cc' (.inr (.inr (z' ▸ ed)))
        have hg' := hg
        unfold P4.isg at hg'
        rw [ed] at hg'
        dsimp only at hg'
        rw [if_neg (fun h => h.elim d1 d2)] at hg'
        have e : P4.isgF (cod z) i = i + 1 := by
          unfold P4.isgF
          rw [ed]
          dsimp only
          rw [if_neg (fun h => h.elim d1 d2)]
        rw [e] at q
        by_cases d3 : d = 126
        · subst d3
          rw [if_neg (by simp)] at hg'
          refine ⟨_, rfl, _, rfl, z, _, 126, rfl, rfl, small hz6, item_at ed, rfl, _, rfl, ?_⟩
          refine iteNS rfl ?_
          refine ⟨_, rfl, _, rfl, _, _, rfl, rfl, _, rfl, _, rfl, _, _, rfl, rfl, _, rfl, z, i + 1, rfl, rfl, rfl, (by show 3 ≤ sizeLine; decide), fun p2 hp2 => ⟨p2, _, rfl, .inr (SqT.of upd_same), rfl, rfl, _, rfl, ?_⟩⟩
          have no : inV (.str (chAt z (i + 1))) [.str "]", .str "-", .str "~"] = false := by
            rw [Bool.eq_false_iff]
            intro h
            rw [in3] at h
            cases e2 : (cod z)[i + 1]? with
            | none =>
              rw [chAt_none e2] at h
              rcases h with h | h | h <;> exact absurd (congrArg cod h) (fun z => nomatch z)
            | some d' =>
              rw [e2] at hg'
              dsimp only at hg'
              rw [chAt_some e2] at h
              have : d' = 93 ∨ d' = 45 ∨ d' = 126 := by
                rcases h with h | h | h
                · exact .inl (K4.one_inj (c := d') (d := 93) h)
                · exact .inr (.inl (K4.one_inj (c := d') (d := 45) h))
                · exact .inr (.inr (K4.one_inj (c := d') (d := 126) h))
              rw [if_pos this] at hg'
              cases hg'
          show if (!inV (.str (chAt z (i + 1))) [.str "]", .str "-", .str "~"]) = true then _ else _
          rw [no]
          refine iteT ?_
          exact ⟨_, rfl, _, _, rfl, rfl, i + 1, rfl, by omega, q.mono (s1.trans (same_new hp2 _))⟩
        · rw [if_pos d3] at hg'
          cases hg'
end
end K5

set_option Elab.async false
set_option linter.all false
set_option maxRecDepth 100000
set_option maxHeartbeats 4000000
namespace K5
open PySem L2 K4 PySem.W PyProof.Rows
section
variable {P : Program} {w : World} {K : Frag} {mg : Str → Option Value} {base : Heap} {aE f C : Addr} {fd : FuncData}
abbrev spISX (K : Frag) (C : Addr) : Sp := fun vs H Q E => spIS K vs H Q E ∨ spISF C vs H Q E
/-! ### read_item, where it fails -/
def spItemF (C : Addr) : Sp := fun vs H _ E => ∃ (z : Str) (i : Nat), vs = [.str z, .int (i : Int)] ∧ z.length ≤ 1000 ∧ i ≤ 2000 ∧ P4.itm (cod z) i = none ∧ Tell C H E (P4.itmF (cod z) i)
theorem ok_itemF (F : Fun K "read_item" "read_item" sReadItem f fd) (R : Rz P w K mg base C) (GS : CalleX P w K mg base 3 "read_item_sign" ["text", "place"] (spISX K C)) :
    FnOk P w K mg base (CX1 P w) 4 f fd ["text", "place"] (spItemF C) := by
  refine okX F scItem (fun vs H Q E h => ?_) (fun cdv A outer s H vs Q E hr h => ?_)
  · obtain ⟨z, i, rfl, _⟩ := h; rfl
  · obtain ⟨z, i, rfl, hz, hi, hn, q⟩ := h
    have hz6 : z.length ≤ 1000000 := by omega
    have hr2 : Room 2 (A.deeper (envOfC "read_item" (defScope sReadItem) s.heap.objs.size f cdv)) := hr.mono (by decide)
    refine ⟨_, pss_cons (ps_set (i := 2) scItem.nd rfl (Or.inl rfl) (pe_defX GS hr rfl (pa_cons (pv 0) (pa_cons (pv 1) pa_nil))))
      (pss_cons (ps_if (pt_cmpR op_ne (pe_slice sl_str1 (pv 0) (po_some (pe_ix ix_tup (pv 2) pe_int (fun _ _ => rfl))) (po_some (pe_op op_add (pe_ix ix_tup (pv 2) pe_int (fun _ _ => rfl)) pe_int))) pe_str (nomark _)) (pss_one ps_never) pss_nil)
      (pss_cons (ps_set (i := 3) scItem.nd rfl (Or.inl rfl) (pe_defX GS hr rfl (pa_cons (pv 0) (pa_cons (pe_op op_add (pe_ix ix_tup (pv 2) pe_int (fun _ _ => rfl)) pe_int) pa_nil))))
      (pss_cons (ps_if (pt_cmpR op_lt_str (pe_ix ix_tup (pv 3) pe_int (fun _ _ => rfl)) (pe_ix ix_tup (pv 2) pe_int (fun _ _ => rfl)) (nomark _)) (pss_one (ps_rz R hr2 rfl (pe_op op_sub (pe_ix ix_tup (pv 3) pe_int (fun _ _ => rfl)) pe_int))) pss_nil)
      (pss_one ps_never)))), ?_⟩
    unfold P4.itmF at q
    unfold P4.itm at hn
    cases e1 : P4.isg (cod z) i with
    | none =>
      rw [e1] at q
      exact ⟨_, rfl, _, rfl, .inr ⟨z, i, rfl, hz, hi, e1, q⟩⟩
    | some lj =>
      obtain ⟨l, j⟩ := lj
      rw [e1] at q hn
      dsimp only at q hn
      have lj := P4.isg_lt e1
      have lz : (cod z).length ≤ 1000 := by rw [len_cod]; exact hz
      by_cases h45 : (cod z)[j]? = some 45
      · rw [if_neg (fun z => z h45)] at hn
        refine ⟨_, rfl, _, rfl, .inl ⟨z, i, l, j, rfl, hz6, e1, fun a1 H1 s1 ea1 => ?_⟩⟩
        refine ⟨_, rfl, _, rfl, a1, _, 1, _, rfl, rfl, SqT.of ea1, rfl, _, rfl, _, rfl, a1, _, 1, _, rfl, rfl, SqT.of ea1, rfl, _, _, rfl, rfl, _, rfl, z, j, rfl, rfl, rfl, rfl, _, rfl, ?_⟩
        refine iteNS ((ch_dec (c := 45) rfl).mpr h45) ?_
        refine ⟨_, rfl, _, rfl, a1, _, 1, _, rfl, rfl, SqT.of ea1, rfl, _, _, rfl, rfl, ?_⟩
        cases e2 : P4.isg (cod z) (j + 1) with
        | none =>
          rw [e2] at q
          exact .inr ⟨z, j + 1, rfl, hz, by omega, e2, q.mono s1⟩
        | some hk =>
          obtain ⟨h, k⟩ := hk
          rw [e2] at q hn
          dsimp only at q hn
          have lk := P4.isg_lt e2
          refine .inl ⟨z, j + 1, h, k, rfl, hz6, e2, fun a2 H2 s2 ea2 => ?_⟩
          have ea1' := s2 _ _ ea1
          refine ⟨_, rfl, a2, _, 0, _, rfl, rfl, SqT.of ea2, rfl, _, rfl, a1, _, 0, _, rfl, rfl, SqT.of ea1', rfl, _, _, rfl, rfl, _, rfl, ?_⟩
          refine ite2 (fun cc => ?_) (fun cc => ?_)
          · refine ⟨_, rfl, a2, _, 1, _, rfl, rfl, SqT.of ea2, rfl, _, _, rfl, rfl, k - 1, congrArg V.int (by omega), by omega, q.mono (s1.trans s2)⟩
          · exfalso
            by_cases hl : h < l
            · exact cc (decide_eq_true (show ([h] : List Nat) < [l] from List.cons_lt_cons_iff.mpr (.inl hl)))
            · rw [if_neg hl] at hn
              cases hn
      · rw [if_pos h45] at hn
        cases hn

/-! ### read_items, where it fails -/
abbrev spItemX (K : Frag) (C : Addr) : Sp := fun vs H Q E => spItem K vs H Q E ∨ spItemF C vs H Q E
def spItemsF (C : Addr) : Sp := fun vs H _ E => ∃ (z : Str) (i p : Nat), vs = [.str z, .int (i : Int)] ∧ z.length ≤ 1000 ∧ i ≤ 1001 ∧ P4.ItemsF (cod z) i p ∧ Tell C H E p
theorem ok_itemsF (F : Fun K "read_items" "read_items" sReadItems f fd) (R : Rz P w K mg base C) (GI : CalleX P w K mg base 4 "read_item" ["text", "place"] (spItemX K C)) :
    FnOk P w K mg base (CX1 P w) 5 f fd ["text", "place"] (spItemsF C) := by
  refine okX F scItems (fun vs H Q E h => ?_) (fun cdv A outer s H vs Q E hr h => ?_)
  · obtain ⟨z, i, p, rfl, _⟩ := h; rfl
  · obtain ⟨z, i, p, rfl, hz, hi, hI, q⟩ := h
    have hz6 : z.length ≤ 1000000 := by omega
    have lz : (cod z).length ≤ 1000 := by rw [len_cod]; exact hz
    refine ⟨_, pss_cons (ps_set (i := 2) scItems.nd rfl (Or.inl rfl) (pe_lst pa_nil))
      (pss_cons (ps_while PassesOwn.leaving (PW.pt (pw_or (pt_not (pt_truth (pv 2) (fun _ => rfl))) (pw_or1 (pt_cmpR op_ne (pe_slice sl_str1 (pv 0) (po_some (pv 1)) (po_some (pe_op op_add (pv 1) pe_int))) pe_str (nomark _)))))
        (pss_cons (ps_set (i := 3) scItems.nd rfl (Or.inl rfl) (pe_defX GI hr rfl (pa_cons (pv 0) (pa_cons (pv 1) pa_nil))))
        (pss_cons (ps_expr (pe_bm PySem.F.plainAttrs_list PySem.F.slot_list_append PySem.F.type_list_append mt_append (pv 2) (pa_cons (pe_ix ix_tup (pv 3) pe_int (fun _ _ => rfl)) pa_nil)))
        (pss_one (ps_set (i := 1) scItems.nd rfl (Or.inl rfl) (pe_ix ix_tup (pv 3) pe_int (fun _ _ => rfl)))))))
      (pss_one ps_never)), ?_⟩
    refine ⟨(by show 0 ≤ sizeLine; decide), fun b hb => ?_⟩
    refine ⟨fun m σ H2 => ∃ (k : Nat) (vs : List V) (o : Option V), σ = [some (.str z), some (.int (k : Int)), some (.ref b), o] ∧ m = 2000 - k ∧ k ≤ 1001 ∧ Same H H2 ∧ H2 b = some (.lst vs) ∧ vs.length ≤ k ∧ P4.ItemsF (cod z) k p ∧ (vs = [] ∨ (cod z)[k]? ≠ some 93),
      ⟨_, i, [], none, rfl, rfl, hi, same_new hb _, upd_same, Nat.zero_le _, hI, .inl rfl⟩, ?_⟩
    rintro m σ H2 ⟨k, vs, o, rfl, rfl, hk, s2, hb2, hvl, hF, hne⟩
    refine ⟨_, rfl, !vs.isEmpty, .inl ⟨vs, SqL.of hb2, rfl⟩, ?_⟩
    refine orT ?_ (fun hc body => ?_)
    · refine iteT ?_
      refine ⟨fun σ' H' => ∃ (k' : Nat) (vs' : List V) (o' : Option V), σ' = [some (.str z), some (.int (k' : Int)), some (.ref b), o'] ∧ k < k' ∧ k' ≤ 1000 ∧ Same H H' ∧ H' b = some (.lst vs') ∧ vs'.length ≤ k' ∧ P4.ItemsF (cod z) k' p ∧ (cod z)[k']? ≠ some 93, ?_, ?_⟩
      · rintro σ' H' ⟨k', vs', o', rfl, h1, h2, h3, h4, h5, h6, h7⟩
        exact ⟨2000 - k', by omega, k', vs', o', rfl, rfl, by omega, h3, h4, h5, h6, .inr h7⟩
      cases hF with
      | here hn => exact ⟨_, rfl, _, rfl, .inr ⟨z, k, rfl, hz, by omega, hn, q.mono s2⟩⟩
      | @more _ k' pt _ hit h93 hF' =>
        have lk := P4.itm_lt hit
        refine ⟨_, rfl, _, rfl, .inl ⟨z, k, k', pt, rfl, hz6, hit, fun a v H4 s4 e4 hv4 => ?_⟩⟩
        have hb4 := s4 _ _ hb2
        refine ⟨_, rfl, .inl ⟨rfl, _, SqL.of hb4⟩, _, rfl, a, _, 0, _, rfl, rfl, SqT.of e4, rfl, b, vs, v, rfl, rfl, hb4, small' (by omega), ?_⟩
        have k5 : Keeps K H4 (upd H4 b (.lst (vs ++ [v]))) := Keeps.lst hb4
        refine ⟨_, rfl, a, _, 1, _, rfl, rfl, k5 _ _ (SqT.of e4), rfl, ?_⟩
        refine ⟨k', vs ++ [v], _, rfl, lk.1, by omega, fun c o e => ?_, upd_same, ?_, hF', h93⟩
        · rw [upd_ne (ne_of_none e hb)]; exact s4 _ _ (s2 _ _ e)
        · rw [List.length_append]; show vs.length + 1 ≤ _; omega
    · have h93 : (cod z)[k]? ≠ some 93 := by
        rcases hne with e | e
        · rw [e] at hc; cases hc
        · exact e
      have e : (!decide (V.str (chAt z k) = V.str "]")) = true := by
        rw [decide_eq_false]
        · rfl
        · intro e; exact h93 ((ch_dec (c := 93) rfl).mp e)
      refine ⟨_, rfl, _, rfl, _, rfl, _, rfl, _, _, rfl, rfl, _, rfl, z, k, rfl, rfl, rfl, rfl, true, congrArg V.bl e, ?_⟩
      exact body
end
end K5

set_option Elab.async false
set_option linter.all false
set_option maxRecDepth 100000
set_option maxHeartbeats 4000000
namespace P4
theorem RPF.at {t : List Nat} {i q : Nat} {L : Lvls} (h : RPF t i L q) : ∃ c, t[i]? = some c ∧ c ≠ 40 ∧ c ≠ 124 ∧ (c = 41 ∨ c = 91 ∨ c = 126 ∨ c = 93 ∨ c = 42 ∨ c = 43 ∨ c = 63) := by
  cases h with
  | close a => exact ⟨_, a, by decide, by decide, .inl rfl⟩
  | items a _ => exact ⟨_, a, by decide, by decide, .inr (.inl rfl)⟩
  | esc a _ => exact ⟨_, a, by decide, by decide, .inr (.inr (.inl rfl))⟩
  | bad a c => exact ⟨_, a, by omega, by omega, .inr (.inr (.inr c))⟩
end P4
namespace K5
open PySem L2 K4 PySem.W PyProof.Rows
section
variable {P : Program} {w : World} {K : Frag} {mg : Str → Option Value} {base : Heap} {aE f C : Addr} {fd : FuncData}
abbrev spItemsX (K : Frag) (C : Addr) : Sp := fun vs H Q E => spItems K vs H Q E ∨ spItemsF C vs H Q E
theorem len_of {z : Str} {i c : Nat} (h : (cod z)[i]? = some c) (hz : z.length ≤ 1000) : i < z.length ∧ i < 1000 := by
  have := (List.getElem?_eq_some_iff.mp h).1
  rw [len_cod] at this
  omega
/-! ### read_piece, where it fails -/
def spPieceF (K : Frag) (C : Addr) : Sp := fun vs H _ E => ∃ (z : Str) (i q : Nat) (L : Addr) (ls : LS) (M : P4.Lvls), vs = [.str z, .int (i : Int), .ref L] ∧ z.length ≤ 1000 ∧ P4.RPF (cod z) i M q ∧ At H L ls ∧ Rep K H ls M ∧ Tell C H E q
theorem ok_pieceF (F : Fun K "read_piece" "read_piece" sReadPiece f fd) (T : Txt K mg aE) (R : Rz P w K mg base C) (GI : CalleX P w K mg base 5 "read_items" ["text", "place"] (spItemsX K C)) :
    FnOk P w K mg base (CX1 P w) 6 f fd ["text", "place", "levels"] (spPieceF K C) := by
  refine okX F scPiece (fun vs H Q E h => ?_) (fun cdv A outer s H vs Q E hr h => ?_)
  · obtain ⟨z, i, q, L, ls, M, rfl, _⟩ := h; rfl
  · obtain ⟨z, i, q, L, ls, M, rfl, hz, hF, hA, hR, te⟩ := h
    have hz6 : z.length ≤ 1000000 := by omega
    have hr2 : Room 2 (A.deeper (envOfC "read_piece" (defScope sReadPiece) s.heap.objs.size f cdv)) := hr.mono (by decide)
    refine ⟨_, pss_cons (ps_set (i := 3) scPiece.nd rfl (Or.inl rfl) (pe_ix ix_str (pv 0) (pv 1) (fun _ _ => rfl)))
      (pss_cons (ps_if (pt_cmpR op_eq (pv 3) pe_str (nomark _))
        (pss_cons (ps_if (pt_cmpR op_eq (pe_callB call_len_seq rfl T.len PySem.boot_len (pa_cons (pv 2) pa_nil)) pe_int (nomark _)) (pss_one (ps_rz R hr2 rfl (pv 1))) pss_nil) pss_never) pss_nil)
      (pss_cons (ps_if (pt_cmpR op_eq (pv 3) pe_str (nomark _)) (pss_one (ps_ret (pe_defX GI hr rfl (pa_cons (pv 0) (pa_cons (pe_op op_add (pv 1) pe_int) pa_nil))))) pss_nil)
      (pss_cons (ps_if (pt_cmpR op_eq (pv 3) pe_str (nomark _))
        (pss_cons (ps_if (pt_cmpR op_eq (pe_op op_add (pv 1) pe_int) (pe_callB call_len_str rfl T.len PySem.boot_len (pa_cons (pv 0) pa_nil)) (nomark _)) (pss_one (ps_rz R hr2 rfl (pe_op op_add (pv 1) pe_int))) pss_nil) pss_never) pss_nil)
      (pss_cons (ps_if (pt_cmpR op_in_seq (pv 3) (pe_tup (pa_cons pe_str (pa_cons pe_str (pa_cons pe_str (pa_cons pe_str pa_nil))))) rfl) (pss_one (ps_rz R hr2 rfl (pv 1))) pss_nil) pss_never)))), ?_⟩
    cases hF with
    | @close lv h41 =>
      have li := len_of h41 hz
      refine ⟨_, rfl, _, rfl, z, _, 41, rfl, rfl, small hz6, item_at h41, ?_⟩
      refine ⟨_, rfl, rfl, true, rfl, iteT ?_⟩
      cases hR with
      | @cons l1 _ ls1 _ hl1 hR1 =>
        cases hR1
        refine ⟨_, rfl, L, _, rfl, .inl (SqL.of hA.top), rfl, true, rfl, iteT ?_⟩
        exact ⟨_, rfl, i, rfl, by omega, te⟩
    | items h91 hI =>
      have li := len_of h91 hz
      refine ⟨_, rfl, _, rfl, z, _, 91, rfl, rfl, small hz6, item_at h91, ?_⟩
      refine ⟨_, rfl, rfl, false, rfl, iteF ?_⟩
      refine ⟨_, rfl, rfl, true, rfl, iteT ?_⟩
      exact ⟨_, rfl, _, rfl, _, _, rfl, rfl, .inr ⟨z, i + 1, q, rfl, hz, by omega, hI, te⟩⟩
    | esc h126 hn =>
      have li := len_of h126 hz
      have len : z.length = i + 1 := by
        have := List.getElem?_eq_none_iff.mp hn
        rw [len_cod] at this
        omega
      refine ⟨_, rfl, _, rfl, z, _, 126, rfl, rfl, small hz6, item_at h126, ?_⟩
      refine ⟨_, rfl, rfl, false, rfl, iteF ?_⟩
      refine ⟨_, rfl, rfl, false, rfl, iteF ?_⟩
      refine ⟨_, rfl, rfl, true, rfl, iteT ?_⟩
      refine ⟨_, rfl, _, _, rfl, rfl, _, rfl, z, rfl, small hz6, rfl, true, congrArg V.bl (decide_eq_true (congrArg V.int (by rw [len]; rfl))), iteT ?_⟩
      exact ⟨_, rfl, _, _, rfl, rfl, i + 1, rfl, by omega, te⟩
    | @bad _ c hc hb =>
      have li := len_of hc hz
      have n41 : c ≠ 41 := by omega
      have n91 : c ≠ 91 := by omega
      have n126 : c ≠ 126 := by omega
      refine ⟨_, rfl, _, rfl, z, _, c, rfl, rfl, small hz6, item_at hc, ?_⟩
      refine ⟨_, rfl, rfl, false, congrArg V.bl (str_ne (d := 41) n41), iteF ?_⟩
      refine ⟨_, rfl, rfl, false, congrArg V.bl (str_ne (d := 91) n91), iteF ?_⟩
      refine ⟨_, rfl, rfl, false, congrArg V.bl (str_ne (d := 126) n126), iteF ?_⟩
      refine ⟨_, rfl, (by show 4 ≤ sizeLine; decide), fun p hp => ⟨p, _, rfl, .inr (SqT.of upd_same), rfl, rfl, _, rfl, ?_⟩⟩
      have yes : inV (.str (one c)) [.str "]", .str "*", .str "+", .str "?"] = true := by
        rw [in4]
        rcases hb with rfl | rfl | rfl | rfl
        · exact .inl rfl
        · exact .inr (.inl rfl)
        · exact .inr (.inr (.inl rfl))
        · exact .inr (.inr (.inr rfl))
      show if inV (.str (one c)) [.str "]", .str "*", .str "+", .str "?"] = true then _ else _
      rw [yes]
      exact iteT ⟨_, rfl, i, rfl, by omega, te.mono (same_new hp _)⟩

/-! ### read_sign, where it fails -/
abbrev spPieceX (K : Frag) (C : Addr) : Sp := fun vs H Q E => spPiece K vs H Q E ∨ spPieceF K C vs H Q E
def spSignF (K : Frag) (C : Addr) : Sp := spPieceF K C
theorem ok_signF (F : Fun K "read_sign" "read_sign" sReadSign f fd) (GP : CalleX P w K mg base 6 "read_piece" ["text", "place", "levels"] (spPieceX K C)) :
    FnOk P w K mg base (CX1 P w) 7 f fd ["text", "place", "levels"] (spSignF K C) := by
  refine okX F scSign (fun vs H Q E h => ?_) (fun cdv A outer s H vs Q E hr h => ?_)
  · obtain ⟨z, i, q, L, ls, M, rfl, _⟩ := h; rfl
  · obtain ⟨z, i, q, L, ls, M, rfl, hz, hF, hA, hR, te⟩ := h
    have hz6 : z.length ≤ 1000000 := by omega
    refine ⟨_, pss_cons (ps_set (i := 3) scSign.nd rfl (Or.inl rfl) (pe_ix ix_str (pv 0) (pv 1) (fun _ _ => rfl)))
      (pss_cons (ps_if (pt_cmpR op_eq (pv 3) pe_str (nomark _)) pss_never pss_nil)
      (pss_cons (ps_if (pt_cmpR op_eq (pv 3) pe_str (nomark _)) pss_never pss_nil)
      (pss_cons (ps_set (i := 4) scSign.nd rfl (Or.inl rfl) (pe_defX GP hr rfl (pa_cons (pv 0) (pa_cons (pv 1) (pa_cons (pv 2) pa_nil))))) pss_never))), ?_⟩
    obtain ⟨c, hc, c1, c2, _⟩ := hF.at
    refine ⟨_, rfl, _, rfl, z, _, c, rfl, rfl, small hz6, item_at hc, ?_⟩
    refine ⟨_, rfl, rfl, false, congrArg V.bl (str_ne (d := 40) c1), iteF ?_⟩
    refine ⟨_, rfl, rfl, false, congrArg V.bl (str_ne (d := 124) c2), iteF ?_⟩
    exact ⟨_, rfl, _, rfl, _, rfl, .inr ⟨z, i, q, L, ls, M, rfl, hz, hF, hA, hR, te⟩⟩
end
end K5

set_option Elab.async false
set_option linter.all false
set_option maxRecDepth 100000
set_option maxHeartbeats 4000000
namespace P4
/-- what is left to do until it fails at q -/
def Fails (t : List Nat) (k : Nat) (M : Lvls) (q : Nat) : Prop := (∃ k' M', RR t k M k' M' ∧ RPF t k' M' q) ∨ (∃ lv m r, RR t k M t.length (lv :: m :: r) ∧ q = t.length)
theorem RRF.fails {t : List Nat} {q : Nat} (h : RRF t q) : Fails t 0 init q := by
  cases h with
  | sign a b => exact .inl ⟨_, _, a, b⟩
  | open_ a => exact .inr ⟨_, _, _, a, rfl⟩
end P4
namespace K5
open PySem L2 K4 PySem.W PyProof.Rows
section
variable {P : Program} {w : World} {K : Frag} {mg : Str → Option Value} {base : Heap} {aE f C : Addr} {fd : FuncData}
abbrev spSignX (K : Frag) (C : Addr) : Sp := fun vs H Q E => spSign K vs H Q E ∨ spSignF K C vs H Q E
def spReadF (C : Addr) : Sp := fun vs H _ E => ∃ (z : Str) (q : Nat), vs = [.str z] ∧ z.length ≤ 1000 ∧ P4.RRF (cod z) q ∧ Tell C H E q
theorem ok_readF (F : Fun K "read_pattern" "read_pattern" sReadPattern f fd) (T : Txt K mg aE) (R : Rz P w K mg base C) (GS : CalleX P w K mg base 7 "read_sign" ["text", "place", "levels"] (spSignX K C)) :
    FnOk P w K mg base (CX1 P w) 8 f fd ["text"] (spReadF C) := by
  refine okX F scRead (fun vs H Q E h => ?_) (fun cdv A outer s H vs Q E hr h => ?_)
  · obtain ⟨z, q, rfl, _⟩ := h; rfl
  · obtain ⟨z, q, rfl, hz, hF, te⟩ := h
    have hr2 : Room 2 (A.deeper (envOfC "read_pattern" (defScope sReadPattern) s.heap.objs.size f cdv)) := hr.mono (by decide)
    refine ⟨_, pss_cons (ps_set (i := 1) scRead.nd rfl (Or.inl rfl) (pe_lst (pa_cons (pe_lst (pa_cons (pe_lst pa_nil) pa_nil)) pa_nil)))
      (pss_cons (ps_set (i := 2) scRead.nd rfl (Or.inl rfl) pe_int)
      (pss_cons (ps_while PassesOwn.leaving (pt_cmpR op_lt (pv 2) (pe_callB call_len_str rfl T.len PySem.boot_len (pa_cons (pv 0) pa_nil)) (nomark _))
        (pss_one (ps_set (i := 2) scRead.nd rfl (Or.inl rfl) (pe_defX GS hr rfl (pa_cons (pv 0) (pa_cons (pv 2) (pa_cons (pv 1) pa_nil)))))))
      (pss_cons (ps_if (pt_cmpR op_gt (pe_callB call_len_seq rfl T.len PySem.boot_len (pa_cons (pv 1) pa_nil)) pe_int (nomark _)) (pss_one (ps_rz R hr2 rfl (pv 2))) pss_nil) pss_never))), ?_⟩
    refine ⟨(by show 0 ≤ sizeLine; decide), fun r hr' => ⟨(by show 1 ≤ sizeLine; decide), fun l hl => ⟨(by show 1 ≤ sizeLine; decide), fun L hL => ?_⟩⟩⟩
    have A0 := At.init hr' hl hL
    have s0 : Same H (upd (upd (upd H r (.lst [])) l (.lst [.ref r])) L (.lst [.ref l])) := (same_new hr' _).trans ((same_new hl _).trans (same_new hL _))
    have new0 : ∀ b ∈ adr L [(l, [(r, [])])], H b = none := fun b hb => by
      have e : adr L [(l, [(r, [])])] = [L, l, r] := rfl
      rw [e] at hb
      rcases List.mem_cons.mp hb with rfl | hb
      · exact (same_new hr' _).free ((same_new hl _).free hL)
      · rcases List.mem_cons.mp hb with rfl | hb
        · exact (same_new hr' _).free hl
        · rw [List.mem_singleton.mp hb]; exact hr'
    have hlz := len_cod z
    refine ⟨fun m σ H2 => ∃ (k : Nat) (ls : LS) (M : P4.Lvls), σ = [some (.str z), some (.ref L), some (.int (k : Int))] ∧ m = (cod z).length - k ∧ k ≤ (cod z).length ∧ P4.Fails (cod z) k M q ∧ At H2 L ls ∧ Rep K H2 ls M ∧ (∀ lv ∈ M, lv ≠ []) ∧ sz M ≤ 3 + 2 * k ∧ Same H H2 ∧ ∀ b ∈ adr L ls, H b = none,
      ⟨_, 0, _, P4.init, rfl, rfl, Nat.zero_le _, hF.fails, A0, .cons (.cons .nil .nil) .nil, by simp, by decide, s0, new0⟩, ?_⟩
    rintro m σ H2 ⟨k, ls, M, rfl, rfl, hk, hR, A2, R2, hne, hsz, s2, new2⟩
    refine ⟨_, rfl, _, rfl, z, rfl, small (by omega), _, _, rfl, rfl, _, rfl, ?_⟩
    have now : (∃ j M', P4.RS (cod z) k M j M' ∧ P4.Fails (cod z) j M' q) ∨ P4.RPF (cod z) k M q ∨ (k = (cod z).length ∧ q = (cod z).length ∧ ∃ lv m r, M = lv :: m :: r) := by
      rcases hR with ⟨k', M', a, b⟩ | ⟨lv, m, r, a, e⟩
      · cases a with
        | nil => exact .inr (.inl b)
        | step st a' => exact .inl ⟨_, _, st, .inl ⟨_, _, a', b⟩⟩
      · generalize hM : (lv :: m :: r : P4.Lvls) = M1 at a
        generalize hl : (cod z).length = n1 at a
        cases a with
        | nil => exact .inr (.inr ⟨rfl, e.trans hl, lv, m, r, hM.symm⟩)
        | step st a' => exact .inl ⟨_, _, st, .inr ⟨lv, m, r, by rw [hM, hl]; exact a', e⟩⟩
    rcases now with ⟨j, M', st, hR'⟩ | hP | ⟨hkl, hq, lv, m, r, hM⟩
    · have hlt := st.lt
      refine ite2 (fun _ => ?_) (fun cc => ?_)
      · refine ⟨fun σ' H' => ∃ (ls' : LS), σ' = [some (.str z), some (.ref L), some (.int (j : Int))] ∧ At H' L ls' ∧ Rep K H' ls' M' ∧ Same H H' ∧ ∀ b ∈ adr L ls', H b = none, ?_, ?_⟩
        · rintro σ' H' ⟨ls', rfl, A3, R3, s3, new3⟩
          have := RS_sz st
          exact ⟨(cod z).length - j, by omega, j, ls', M', rfl, rfl, hlt.2, hR', A3, R3, RS_ne st hne, by omega, s3, new3⟩
        refine ⟨_, rfl, _, rfl, _, rfl, .inl ⟨z, k, j, L, ls, M, M', rfl, by omega, st, A2, R2, by omega, hne, fun ls' H3 A3 R3 F3 => ?_⟩⟩
        refine ⟨ls', rfl, A3, R3, fun b o e => F3.keep b o (s2 _ _ e) fun hb => ?_, fun b hb => ?_⟩
        · have := new2 b hb; rw [this] at e; cases e
        · rcases F3.new b hb with h | h
          · exact new2 b h
          · exact s2.free h
      · exfalso
        apply cc
        refine decide_eq_true ?_
        omega
    · obtain ⟨c, hc, _⟩ := hP.at
      have lc := len_of hc hz
      refine ite2 (fun _ => ?_) (fun cc => ?_)
      · refine ⟨fun _ _ => False, fun _ _ z => z.elim, ?_⟩
        exact ⟨_, rfl, _, rfl, _, rfl, .inr ⟨z, k, q, L, ls, M, rfl, hz, hP, A2, R2, te.mono s2⟩⟩
      · exfalso
        apply cc
        refine decide_eq_true ?_
        omega
    · refine ite2 (fun cc => ?_) (fun _ => ?_)
      · exfalso
        have := of_decide_eq_true cc
        omega
      subst hM
      cases R2 with
      | @cons l1 _ ls1 _ hl1 hR1 =>
        cases hR1 with
        | @cons l2 _ ls2 _ hl2 hR2 =>
          refine ⟨_, rfl, L, _, rfl, .inl (SqL.of A2.top), _, _, rfl, rfl, _, rfl, ?_⟩
          refine ite2 (fun _ => ?_) (fun cc => ?_)
          · refine ⟨_, rfl, k, rfl, by omega, ?_⟩
            rw [hkl, ← hq]
            exact te.mono s2
          · exfalso
            apply cc
            refine decide_eq_true ?_
            rw [refs_len]
            show (1 : Int) < ((ls2.length + 2 : Nat) : Int)
            omega
end
end K5

set_option Elab.async false
set_option linter.all false
set_option maxHeartbeats 4000000
namespace P5
open P4
/-- where one goes along a text sign by sign -/
inductive A where
  | row | piece | behind | stroke | first | item | items | esc | second | secesc | bad
  deriving DecidableEq
def A.outer (a : A) : Bool := a == .row || a == .piece || a == .behind || a == .stroke
def A.fine (a : A) : Bool := a == .row || a == .piece || a == .behind
def mk (c : Nat) : Bool := c == 42 || c == 43 || c == 63
def e3 (c : Nat) : Bool := c == 93 || (c == 45 || c == 126)
def e2 (c : Nat) : Bool := c == 93 || c == 45
def out (a : A) (c : Nat) (d : Int) : A × Int :=
  if a = .stroke then (.piece, d)
  else if mk c = true then (if a = .piece then .behind else .bad, d)
  else if c = 40 then (.row, d + 1)
  else if c = 41 then (if 0 < d then .piece else .bad, d - 1)
  else if c = 124 then (.row, d)
  else if c = 93 then (.bad, d)
  else (if c = 91 then .first else if c = 126 then .stroke else .piece, d)
def inb (a : A) (c : Nat) (l : List Nat) : A × List Nat :=
  if a = .esc then (if e3 c = true then (.item, [c]) else (.bad, []))
  else if a = .secesc then (if e3 c = true ∧ ¬ [c] < l then (.items, []) else (.bad, []))
  else if a = .second then (if c = 126 then (.secesc, l) else if e2 c = true ∨ [c] < l then (.bad, []) else (.items, []))
  else if a = .item ∧ c = 45 then (.second, l)
  else if a ≠ .first ∧ c = 93 then (.piece, [])
  else if c = 126 then (.esc, [])
  else if e2 c = true then (.bad, [])
  else (.item, [c])
def run : List Nat → Nat → A → Int → List Nat → Int
  | [], k, a, d, _ => if 0 < d ∨ a.fine = false then (k : Int) else -1
  | c :: r, k, a, d, l =>
    if a.outer = true then (if (out a c d).1 = .bad then (k : Int) else run r (k + 1) (out a c d).1 (out a c d).2 l)
    else (if (inb a c l).1 = .bad then (k : Int) else run r (k + 1) (inb a c l).1 d (inb a c l).2)
def R (t : List Nat) (k : Nat) (a : A) (d : Int) (l : List Nat) : Int := run (t.drop k) k a d l
variable {t : List Nat} {k c : Nat} {a : A} {d : Int} {l : List Nat}
theorem R_none (h : t[k]? = none) : R t k a d l = if 0 < d ∨ a.fine = false then (k : Int) else -1 := by
  unfold R
  rw [List.drop_eq_nil_of_le (List.getElem?_eq_none_iff.mp h)]
  rfl
theorem R_out (h : t[k]? = some c) (o : a.outer = true) : R t k a d l = if (out a c d).1 = .bad then (k : Int) else R t (k + 1) (out a c d).1 (out a c d).2 l := by
  obtain ⟨h1, h2⟩ := List.getElem?_eq_some_iff.mp h
  unfold R
  rw [List.drop_eq_getElem_cons h1, h2]
  show (if a.outer = true then _ else _) = _
  rw [if_pos o]
theorem R_in (h : t[k]? = some c) (o : a.outer = false) : R t k a d l = if (inb a c l).1 = .bad then (k : Int) else R t (k + 1) (inb a c l).1 d (inb a c l).2 := by
  obtain ⟨h1, h2⟩ := List.getElem?_eq_some_iff.mp h
  unfold R
  rw [List.drop_eq_getElem_cons h1, h2]
  show (if a.outer = true then _ else _) = _
  rw [if_neg (by rw [o]; decide)]
theorem lt1 (a b : Nat) : ([a] < [b]) ↔ a < b := by
  rw [List.cons_lt_cons_iff]
  constructor
  · rintro (h | ⟨_, h⟩)
    · exact h
    · exact absurd h (List.lt_irrefl _)
  · exact .inl

theorem itm_a {i j lo : Nat} (h : isg t i = some (lo, j)) (h45 : t[j]? = some 45) (g : isg t (j + 1) = none) : itm t i = none ∧ itmF t i = isgF t (j + 1) := by
  unfold itm itmF
  simp only [h, h45, g]
  exact ⟨rfl, trivial⟩
theorem itm_b {i j lo x k : Nat} (h : isg t i = some (lo, j)) (h45 : t[j]? = some 45) (g : isg t (j + 1) = some (x, k)) (lt : x < lo) : itm t i = none ∧ itmF t i = k - 1 := by
  unfold itm itmF
  simp only [h, h45, g, lt]
  exact ⟨rfl, trivial⟩
theorem itm_c {i j lo x k : Nat} (h : isg t i = some (lo, j)) (h45 : t[j]? = some 45) (g : isg t (j + 1) = some (x, k)) (lt : ¬ x < lo) : itm t i = some (.sg lo x, k) := by
  unfold itm
  simp [h, h45, g, lt]
/-- behind one sign of an item: the tail of the item -/
theorem tail_ok {i j lo : Nat} (h : isg t i = some (lo, j)) :
    (∃ p j' s l', itm t i = some (p, j') ∧ R t j .item d [lo] = R t j' s d l' ∧ (s = .items ∨ (s = .item ∧ t[j']? ≠ some 45))) ∨ (itm t i = none ∧ R t j .item d [lo] = (itmF t i : Int)) := by
  by_cases h45 : t[j]? = some 45
  · have r1 : R t j .item d [lo] = R t (j + 1) .second d [lo] := by rw [R_in h45 rfl]; rfl
    rw [r1]
    cases e1 : t[j + 1]? with
    | none =>
      have g : isg t (j + 1) = none := by unfold isg; rw [e1]
      refine .inr ⟨(itm_a h h45 g).1, ?_⟩
      have : isgF t (j + 1) = j + 1 := by unfold isgF; rw [e1]
      rw [R_none e1, (itm_a h h45 g).2, this, if_pos (.inr rfl)]
    | some x =>
      by_cases hx : x = 126
      · subst hx
        have r2 : R t (j + 1) .second d [lo] = R t (j + 1 + 1) .secesc d [lo] := by rw [R_in e1 rfl]; rfl
        rw [r2]
        have gf : isgF t (j + 1) = j + 1 + 1 := by unfold isgF; rw [e1]; rfl
        cases e2' : t[j + 1 + 1]? with
        | none =>
          have g : isg t (j + 1) = none := by unfold isg; rw [e1]; dsimp only; rw [if_neg (by decide), if_neg (by decide), e2']
          refine .inr ⟨(itm_a h h45 g).1, ?_⟩
          rw [R_none e2', (itm_a h h45 g).2, gf, if_pos (.inr rfl)]
        | some y =>
          rw [R_in e2' rfl]
          by_cases hy : e3 y = true
          · have g : isg t (j + 1) = some (y, j + 1 + 2) := by
              unfold isg; rw [e1]; dsimp only; rw [if_neg (by decide), if_neg (by decide), e2']; dsimp only
              rw [if_pos]
              simpa [e3] using hy
            by_cases lt : y < lo
            · refine .inr ⟨(itm_b h h45 g lt).1, ?_⟩
              have : (inb .secesc y [lo]).1 = .bad := by
                show (if e3 y = true ∧ ¬ [y] < [lo] then ((.items, []) : A × List Nat) else (.bad, [])).1 = .bad
                rw [if_neg (fun z => z.2 ((lt1 y lo).mpr lt))]
              rw [if_pos this, (itm_b h h45 g lt).2]
              rfl
            · refine .inl ⟨_, _, .items, [], itm_c h h45 g lt, ?_, .inl rfl⟩
              have : inb .secesc y [lo] = (.items, []) := by
                show (if e3 y = true ∧ ¬ [y] < [lo] then ((.items, []) : A × List Nat) else (.bad, [])) = _
                rw [if_pos ⟨hy, fun z => lt ((lt1 y lo).mp z)⟩]
              rw [this, if_neg (by decide)]
          · have g : isg t (j + 1) = none := by
              unfold isg; rw [e1]; dsimp only; rw [if_neg (by decide), if_neg (by decide), e2']; dsimp only
              rw [if_neg]
              simpa [e3] using hy
            refine .inr ⟨(itm_a h h45 g).1, ?_⟩
            have : (inb .secesc y [lo]).1 = .bad := by
              show (if e3 y = true ∧ ¬ [y] < [lo] then ((.items, []) : A × List Nat) else (.bad, [])).1 = .bad
              rw [if_neg (fun z => hy z.1)]
            rw [if_pos this, (itm_a h h45 g).2, gf]
      · rw [R_in e1 rfl]
        have inn : inb .second x [lo] = if e2 x = true ∨ [x] < [lo] then (.bad, []) else (.items, []) := by
          show (if x = 126 then ((.secesc, [lo]) : A × List Nat) else _) = _
          rw [if_neg hx]
        by_cases h2 : e2 x = true
        · have hx2 : x = 93 ∨ x = 45 := by simpa [e2] using h2
          have g : isg t (j + 1) = none := by unfold isg; rw [e1]; dsimp only; rw [if_pos hx2]
          have gf : isgF t (j + 1) = j + 1 := by unfold isgF; rw [e1]; dsimp only; rw [if_pos hx2]
          refine .inr ⟨(itm_a h h45 g).1, ?_⟩
          have b : inb .second x [lo] = (.bad, []) := inn.trans (if_pos (Or.inl h2))
          rw [b, if_pos rfl, (itm_a h h45 g).2, gf]
        · have hx2 : ¬ (x = 93 ∨ x = 45) := by simpa [e2] using h2
          have g : isg t (j + 1) = some (x, j + 1 + 1) := by unfold isg; rw [e1]; dsimp only; rw [if_neg hx2, if_pos hx]
          by_cases lt : x < lo
          · refine .inr ⟨(itm_b h h45 g lt).1, ?_⟩
            have b : inb .second x [lo] = (.bad, []) := inn.trans (if_pos (Or.inr ((lt1 x lo).mpr lt)))
            rw [b, if_pos rfl, (itm_b h h45 g lt).2]
            rfl
          · refine .inl ⟨_, _, .items, [], itm_c h h45 g lt, ?_, .inl rfl⟩
            have b : inb .second x [lo] = (.items, []) := inn.trans (if_neg (fun z => z.elim h2 fun y => lt ((lt1 x lo).mp y)))
            rw [b, if_neg (by decide)]
  · refine .inl ⟨.sg lo lo, j, .item, [lo], ?_, rfl, .inr ⟨rfl, h45⟩⟩
    unfold itm; rw [h]; dsimp only; rw [if_pos h45]

/-- one item -/
theorem item_ok {i : Nat} {s : A} (hi : i ≤ t.length) (hs : s = .first ∨ ((s = .items ∨ (s = .item ∧ t[i]? ≠ some 45)) ∧ t[i]? ≠ some 93)) :
    (∃ p j s' l', itm t i = some (p, j) ∧ R t i s d l = R t j s' d l' ∧ (s' = .items ∨ (s' = .item ∧ t[j]? ≠ some 45))) ∨ (itm t i = none ∧ R t i s d l = (itmF t i : Int)) := by
  have so : s.outer = false := by rcases hs with rfl | ⟨rfl | ⟨rfl, _⟩, _⟩ <;> rfl
  have sf : s.fine = false := by rcases hs with rfl | ⟨rfl | ⟨rfl, _⟩, _⟩ <;> rfl
  have nf : ∀ x, t[i]? = some x → inb s x l = if x = 126 then (.esc, []) else if e2 x = true then (.bad, []) else (.item, [x]) := fun x ex => by
    rcases hs with rfl | ⟨rfl | ⟨rfl, h45⟩, h93⟩
    · rfl
    · have : x ≠ 93 := fun z => h93 (z ▸ ex)
      unfold inb
      simp [this]
    · have : x ≠ 93 := fun z => h93 (z ▸ ex)
      have h : x ≠ 45 := fun z => h45 (z ▸ ex)
      unfold inb
      simp [this, h]
  cases ex : t[i]? with
  | none =>
    have g : isg t i = none := by unfold isg; rw [ex]
    have gf : isgF t i = i := by unfold isgF; rw [ex]
    refine .inr ⟨by unfold itm; rw [g], ?_⟩
    rw [R_none ex, if_pos (.inr sf)]
    unfold itmF
    rw [g]
    dsimp only
    rw [gf]
  | some x =>
    rw [R_in ex so, nf x ex]
    by_cases hx : x = 126
    · subst hx
      rw [if_pos rfl, if_neg (by decide)]
      have gf : isgF t i = i + 1 := by unfold isgF; rw [ex]; rfl
      cases ey : t[i + 1]? with
      | none =>
        have g : isg t i = none := by unfold isg; rw [ex]; dsimp only; rw [if_neg (by decide), if_neg (by decide), ey]
        refine .inr ⟨by unfold itm; rw [g], ?_⟩
        show R t (i + 1) .esc d [] = _
        rw [R_none ey, if_pos (.inr rfl)]
        unfold itmF
        rw [g]
        dsimp only
        rw [gf]
      | some y =>
        show (∃ p j s' l', _ ∧ R t (i + 1) .esc d [] = _ ∧ _) ∨ (_ ∧ R t (i + 1) .esc d [] = _)
        rw [R_in ey rfl]
        by_cases hy : e3 y = true
        · have g : isg t i = some (y, i + 2) := by
            unfold isg; rw [ex]; dsimp only; rw [if_neg (by decide), if_neg (by decide), ey]; dsimp only
            rw [if_pos]
            simpa [e3] using hy
          have inn : inb .esc y [] = (.item, [y]) := by
            show (if e3 y = true then ((.item, [y]) : A × List Nat) else (.bad, [])) = _
            rw [if_pos hy]
          rw [inn, if_neg (fun z => by cases z)]
          exact tail_ok (d := d) g
        · have g : isg t i = none := by
            unfold isg; rw [ex]; dsimp only; rw [if_neg (by decide), if_neg (by decide), ey]; dsimp only
            rw [if_neg]
            simpa [e3] using hy
          have inn : inb .esc y [] = (.bad, []) := by
            show (if e3 y = true then ((.item, [y]) : A × List Nat) else (.bad, [])) = _
            rw [if_neg hy]
          refine .inr ⟨by unfold itm; rw [g], ?_⟩
          rw [inn, if_pos rfl]
          unfold itmF
          rw [g]
          dsimp only
          rw [gf]
    · rw [if_neg hx]
      by_cases h2 : e2 x = true
      · have hx2 : x = 93 ∨ x = 45 := by simpa [e2] using h2
        have g : isg t i = none := by unfold isg; rw [ex]; dsimp only; rw [if_pos hx2]
        have gf : isgF t i = i := by unfold isgF; rw [ex]; dsimp only; rw [if_pos hx2]
        refine .inr ⟨by unfold itm; rw [g], ?_⟩
        rw [if_pos h2, if_pos rfl]
        unfold itmF
        rw [g]
        dsimp only
        rw [gf]
      · have hx2 : ¬ (x = 93 ∨ x = 45) := by simpa [e2] using h2
        have g : isg t i = some (x, i + 1) := by unfold isg; rw [ex]; dsimp only; rw [if_neg hx2, if_pos hx]
        rw [if_neg h2, if_neg (fun z => by cases z)]
        exact tail_ok (d := d) g

/-- items to their end -/
theorem items_ok : ∀ (n i : Nat) (s : A) (l : List Nat), t.length - i ≤ n → i ≤ t.length → (s = .first ∨ ((s = .items ∨ (s = .item ∧ t[i]? ≠ some 45)) ∧ t[i]? ≠ some 93)) →
    (∃ ps j, Items t i ps j ∧ R t i s d l = R t (j + 1) .piece d []) ∨ (∃ q, ItemsF t i q ∧ R t i s d l = (q : Int))
  | n, i, s, l, hn, hi, hs => by
    rcases item_ok (d := d) (l := l) hi hs with ⟨p, j, s', l', e, er, hs'⟩ | ⟨e, er⟩
    · have lt := itm_lt e
      by_cases h93 : t[j]? = some 93
      · refine .inl ⟨[p], j, .one e h93, er.trans ?_⟩
        have so : s'.outer = false := by rcases hs' with rfl | ⟨rfl, _⟩ <;> rfl
        have inn : inb s' 93 l' = (.piece, []) := by rcases hs' with rfl | ⟨rfl, _⟩ <;> rfl
        rw [R_in h93 so, inn, if_neg (fun z => by cases z)]
      · cases n with
        | zero => omega
        | succ n =>
          rcases items_ok n j s' l' (by omega) lt.2 (.inr ⟨hs', h93⟩) with ⟨ps, j2, hI, e2⟩ | ⟨q, hF, e2⟩
          · exact .inl ⟨p :: ps, j2, .more e h93 hI, er.trans e2⟩
          · exact .inr ⟨q, .more e h93 hF, er.trans e2⟩
    · exact .inr ⟨_, .here e, er⟩

/-- the reader and the walk between two signs -/
def Sync (t : List Nat) (k : Nat) (M : Lvls) (a : A) (d : Int) : Prop := (∃ row rows r, M = (row :: rows) :: r ∧ d = (r.length : Int)) ∧ (∀ lv ∈ M, lv ≠ []) ∧ (a = .row ∨ a = .behind ∨ (a = .piece ∧ ∀ m, t[k]? = some m → ¬ isMark m))
def Ends (t : List Nat) (k : Nat) (M : Lvls) (v : Int) : Prop := (∃ lv, RR t k M t.length [lv] ∧ v = -1) ∨ (∃ q, Fails t k M q ∧ v = (q : Int))
theorem Ends.step {t : List Nat} {k j : Nat} {M M' : Lvls} {v : Int} (s : RS t k M j M') (h : Ends t j M' v) : Ends t k M v := by
  rcases h with ⟨lv, a, b⟩ | ⟨q, (⟨k', M1, a, b⟩ | ⟨lv, m, r, a, b⟩), c⟩
  · exact .inl ⟨lv, .step s a, b⟩
  · exact .inr ⟨q, .inl ⟨k', M1, .step s a, b⟩, c⟩
  · exact .inr ⟨q, .inr ⟨lv, m, r, .step s a, b⟩, c⟩
theorem mk_iff (c : Nat) : mk c = true ↔ isMark c := by simp [mk, isMark, or_assoc]
theorem main : ∀ (n k : Nat) (M : Lvls) (a : A) (d : Int) (l : List Nat), t.length - k ≤ n → k ≤ t.length → Sync t k M a d → Ends t k M (R t k a d l)
  | n, k, M, a, d, l, hn, hk, ⟨⟨row, rows, r, hM, hd⟩, hne, ha⟩ => by
    subst hM
    have ao : a.outer = true := by rcases ha with rfl | rfl | ⟨rfl, _⟩ <;> rfl
    have af : a.fine = true := by rcases ha with rfl | rfl | ⟨rfl, _⟩ <;> rfl
    have ns : a ≠ .stroke := by rcases ha with rfl | rfl | ⟨rfl, _⟩ <;> exact fun z => by cases z
    -- behind a piece
    have after : ∀ {p e row' rows' r' l'}, RP t k ((row :: rows) :: r) p e ((row' :: rows') :: r') → (∀ lv ∈ (row' :: rows') :: r', lv ≠ []) → Ends t k ((row :: rows) :: r) (R t e .piece (r'.length : Int) l') := fun {p e row' rows' r' l'} hp hn' => by
      have le := hp.lt
      cases n with
      | zero => omega
      | succ n =>
        by_cases hm : ∃ m, t[e]? = some m ∧ isMark m
        · obtain ⟨m, em, hm⟩ := hm
          have lt := (List.getElem?_eq_some_iff.mp em).1
          refine Ends.step (.mrk hp em hm) ?_
          rw [R_out em rfl]
          have o : out .piece m (r'.length : Int) = (.behind, (r'.length : Int)) := by
            unfold out
            rw [if_neg (fun z => by cases z), if_pos ((mk_iff m).mpr hm), if_pos rfl]
          rw [o, if_neg (fun z => by cases z)]
          refine main n (e + 1) _ _ _ _ (by omega) (by omega) ⟨⟨_, _, _, rfl, rfl⟩, fun lv h => ?_, .inr (.inl rfl)⟩
          rcases List.mem_cons.mp h with rfl | h
          · exact fun z => by cases z
          · exact hn' lv (List.mem_cons_of_mem _ h)
        · have hm' : ∀ m, t[e]? = some m → ¬ isMark m := fun m em hm2 => hm ⟨m, em, hm2⟩
          refine Ends.step (.pce hp hm') ?_
          refine main n e _ _ _ _ (by omega) le.2 ⟨⟨_, _, _, rfl, rfl⟩, fun lv h => ?_, .inr (.inr ⟨rfl, hm'⟩)⟩
          rcases List.mem_cons.mp h with rfl | h
          · exact fun z => by cases z
          · exact hn' lv (List.mem_cons_of_mem _ h)
    cases ec : t[k]? with
    | none =>
      have kl : k = t.length := by have := List.getElem?_eq_none_iff.mp ec; omega
      rw [R_none ec]
      cases r with
      | nil =>
        rw [if_neg (by rw [hd, af]; simp)]
        exact .inl ⟨row :: rows, by rw [← kl]; exact RR.nil, rfl⟩
      | cons m r =>
        rw [if_pos (.inl (by rw [hd]; simp))]
        exact .inr ⟨k, .inr ⟨_, m, r, by rw [← kl]; exact .nil, kl⟩, rfl⟩
    | some c =>
      have lt := (List.getElem?_eq_some_iff.mp ec).1
      rw [R_out ec ao]
      by_cases hm : isMark c
      · have ap : a ≠ .piece := fun z => by
          rcases ha with y | y | ⟨_, y⟩
          · rw [z] at y; cases y
          · rw [z] at y; cases y
          · exact y c ec hm
        have o : (out a c d).1 = .bad := by
          unfold out
          rw [if_neg ns, if_pos ((mk_iff c).mpr hm), if_neg ap]
        rw [if_pos o]
        refine .inr ⟨k, .inl ⟨k, _, .nil, .bad ec ?_⟩, rfl⟩
        rcases hm with h | h | h
        · exact .inr (.inl h)
        · exact .inr (.inr (.inl h))
        · exact .inr (.inr (.inr h))
      have hm' : ¬ mk c = true := fun z => hm ((mk_iff c).mp z)
      have o0 : out a c d = if c = 40 then (.row, d + 1) else if c = 41 then (if 0 < d then .piece else .bad, d - 1) else if c = 124 then (.row, d) else if c = 93 then (.bad, d) else (if c = 91 then .first else if c = 126 then .stroke else .piece, d) := by
        show (if a = .stroke then _ else if mk c = true then _ else _) = _
        rw [if_neg ns, if_neg hm']
      rw [o0]
      by_cases h40 : c = 40
      · subst h40
        cases n with
        | zero => omega
        | succ n =>
          rw [if_pos rfl, if_neg (fun z => by cases z)]
          refine Ends.step (.opn ec) (main n (k + 1) _ _ _ _ (by omega) (by omega) ⟨⟨[], [], _, rfl, by rw [hd]; simp⟩, fun lv h => ?_, .inl rfl⟩)
          rcases List.mem_cons.mp h with rfl | h
          · exact fun z => by cases z
          · exact hne lv h
      rw [if_neg h40]
      by_cases h41 : c = 41
      · subst h41
        rw [if_pos rfl]
        cases r with
        | nil =>
          rw [if_neg (show ¬ (0 : Int) < d by rw [hd]; simp), if_pos rfl]
          exact .inr ⟨k, .inl ⟨k, _, .nil, .close ec⟩, rfl⟩
        | cons m r =>
          rw [if_pos (show (0 : Int) < d by rw [hd]; simp), if_neg (fun z => by cases z)]
          cases m with
          | nil => exact absurd rfl (hne [] (by simp))
          | cons row2 rows2 =>
            have e : d - 1 = (r.length : Int) := by rw [hd]; simp
            show Ends t k _ (R t (k + 1) .piece (d - 1) l)
            rw [e]
            exact after (.close ec) fun lv h => hne lv (List.mem_cons_of_mem _ h)
      rw [if_neg h41]
      by_cases h124 : c = 124
      · subst h124
        cases n with
        | zero => omega
        | succ n =>
          rw [if_pos rfl, if_neg (fun z => by cases z)]
          refine Ends.step (.bar ec) (main n (k + 1) _ _ _ _ (by omega) (by omega) ⟨⟨[], _, _, rfl, hd⟩, fun lv h => ?_, .inl rfl⟩)
          rcases List.mem_cons.mp h with rfl | h
          · exact fun z => by cases z
          · exact hne lv (List.mem_cons_of_mem _ h)
      rw [if_neg h124]
      by_cases h93 : c = 93
      · rw [if_pos h93, if_pos rfl]
        exact .inr ⟨k, .inl ⟨k, _, .nil, .bad ec (.inl h93)⟩, rfl⟩
      rw [if_neg h93]
      by_cases h91 : c = 91
      · subst h91
        rw [if_pos rfl, if_neg (fun z => by cases z)]
        show Ends t k _ (R t (k + 1) .first d l)
        rcases items_ok (d := d) (t.length - (k + 1)) (k + 1) .first l (Nat.le_refl _) (by omega) (.inl rfl) with ⟨ps, j, hI, e⟩ | ⟨q, hF, e⟩
        · rw [e, hd]
          exact after (.items ec hI) hne
        · exact .inr ⟨q, .inl ⟨k, _, .nil, .items ec hF⟩, e⟩
      rw [if_neg h91]
      by_cases h126 : c = 126
      · subst h126
        rw [if_pos rfl, if_neg (fun z => by cases z)]
        show Ends t k _ (R t (k + 1) .stroke d l)
        cases e1 : t[k + 1]? with
        | none =>
          rw [R_none e1, if_pos (.inr rfl)]
          exact .inr ⟨k + 1, .inl ⟨k, _, .nil, .esc ec e1⟩, rfl⟩
        | some x =>
          rw [R_out e1 rfl]
          have o : out .stroke x d = (.piece, d) := rfl
          rw [o, if_neg (fun z => by cases z), hd]
          exact after (.esc ec e1) hne
      rw [if_neg h126, if_neg (fun z => by cases z)]
      show Ends t k _ (R t (k + 1) .piece d l)
      rw [hd]
      refine after (.plain ec fun z => ?_) hne
      have h1 := fun z => hm (Or.inl z)
      have h2 := fun z => hm (Or.inr (Or.inl z))
      have h3 := fun z => hm (Or.inr (Or.inr z))
      rcases z with z | z | z | z | z | z | z | z | z
      · exact h40 z
      · exact h41 z
      · exact h91 z
      · exact h93 z
      · exact h124 z
      · exact h1 z
      · exact h2 z
      · exact h3 z
      · exact h126 z
theorem all_ok (t : List Nat) : Ends t 0 init (R t 0 .row 0 []) := main t.length 0 _ _ _ _ (by omega) (by omega) ⟨⟨[], [], [], rfl, rfl⟩, by simp [init], .inl rfl⟩
end P5

set_option Elab.async false
set_option linter.all false
set_option maxRecDepth 100000
namespace L2
open PySem PySem.Spec PyProof.Rows

/-! ### lists of pairs as tables -/
section
variable {κ : Type} [DecidableEq κ]
def valV (kvs : List (κ × V)) (k : κ) : Option V := (kvs.find? fun kv => decide (kv.1 = k)).map (·.2)
/-- in its place, or at the end -/
def putK (kvs : List (κ × V)) (k : κ) (v : V) : List (κ × V) :=
  if (kvs.any fun kv => decide (kv.1 = k)) = true then kvs.map (fun kv => if kv.1 = k then (kv.1, v) else kv) else kvs ++ [(k, v)]
def dropK (kvs : List (κ × V)) (k : κ) : List (κ × V) := kvs.filter fun kv => decide (kv.1 ≠ k)

theorem valV_nil {k : κ} : valV ([] : List (κ × V)) k = none := rfl
theorem valV_pos {p : κ × V} {r : List (κ × V)} {k : κ} (e : p.1 = k) : valV (p :: r) k = some p.2 := by simp [valV, List.find?_cons, e]
theorem valV_neg {p : κ × V} {r : List (κ × V)} {k : κ} (e : ¬ p.1 = k) : valV (p :: r) k = valV r k := by simp [valV, List.find?_cons, e]
theorem valV_any (k : κ) : ∀ kvs : List (κ × V), (kvs.any fun kv => decide (kv.1 = k)) = (valV kvs k).isSome
  | [] => rfl
  | p :: r => by
    rw [List.any_cons]
    by_cases e : p.1 = k
    · simp only [valV_pos e, decide_eq_true e, Bool.true_or, Option.isSome_some]
    · rw [valV_neg e, decide_eq_false e, Bool.false_or]; exact valV_any k r
theorem valV_map (k j : κ) (y : V) : ∀ kvs : List (κ × V), valV (kvs.map fun kv => if kv.1 = k then (kv.1, y) else kv) j = (valV kvs j).map fun x => if j = k then y else x
  | [] => rfl
  | p :: r => by
    have ih := valV_map k j y r
    rw [List.map_cons]
    by_cases h : p.1 = k
    · rw [if_pos h]
      by_cases e : p.1 = j
      · rw [valV_pos (p := (p.1, y)) e, valV_pos e, Option.map_some, if_pos (e.symm.trans h)]
      · rw [valV_neg (p := (p.1, y)) e, valV_neg e, ih]
    · rw [if_neg h]
      by_cases e : p.1 = j
      · rw [valV_pos (p := p) e, valV_pos e, Option.map_some, if_neg (fun z => h (e.trans z))]
      · rw [valV_neg (p := p) e, valV_neg e, ih]
theorem valV_snoc (k j : κ) (y : V) : ∀ kvs : List (κ × V), valV kvs k = none → valV (kvs ++ [(k, y)]) j = if j = k then some y else valV kvs j
  | [], _ => by
    by_cases e : k = j
    · rw [if_pos e.symm]; exact valV_pos (p := (k, y)) e
    · rw [if_neg (fun z => e z.symm)]; exact valV_neg (p := (k, y)) e
  | p :: r, hn => by
    rw [List.cons_append]
    have hk : ¬ p.1 = k := fun z => by rw [valV_pos z] at hn; cases hn
    rw [valV_neg hk] at hn
    have ih := valV_snoc k j y r hn
    by_cases e : p.1 = j
    · rw [valV_pos e, valV_pos e, if_neg (fun z => hk (e.trans z))]
    · rw [valV_neg e, valV_neg e, ih]
theorem valV_put (kvs : List (κ × V)) (k j : κ) (y : V) : valV (putK kvs k y) j = if j = k then some y else valV kvs j := by
  unfold putK
  by_cases a : (kvs.any fun kv => decide (kv.1 = k)) = true
  · rw [if_pos a, valV_map]
    rw [valV_any] at a
    by_cases e : j = k
    · obtain ⟨x, hx⟩ := Option.isSome_iff_exists.mp a
      rw [if_pos e, e, hx, Option.map_some, if_pos rfl]
    · rw [if_neg e]
      cases valV kvs j with
      | none => rfl
      | some x => rw [Option.map_some, if_neg e]
  · rw [if_neg a]
    refine valV_snoc k j y kvs ?_
    rw [valV_any] at a
    cases q : valV kvs k with
    | none => rfl
    | some x => rw [q] at a; exact (a rfl).elim
theorem length_putK (kvs : List (κ × V)) (k : κ) (v : V) : (putK kvs k v).length ≤ kvs.length + 1 := by
  unfold putK
  split
  · rw [List.length_map]; omega
  · rw [List.length_append, List.length_cons, List.length_nil]; omega
theorem putK_new {kvs : List (κ × V)} {k : κ} (v : V) (h : valV kvs k = none) : putK kvs k v = kvs ++ [(k, v)] := by
  unfold putK
  rw [valV_any, h]
  exact if_neg (by decide)

theorem RelO.isSome_eq {o : Option V} {u : Option Value} (r : RelO o u) : o.isSome = u.isSome := by
  cases o with
  | none => cases u with
    | none => rfl
    | some _ => exact (show False from r).elim
  | some _ => cases u with
    | none => exact (show False from r).elim
    | some _ => rfl
theorem RelO.getD {o : Option V} {u : Option Value} {d : V} {d' : Value} (r : RelO o u) (rd : RelV d d') : RelV (o.getD d) (u.getD d') := by
  cases o with
  | none => cases u with
    | none => exact rd
    | some _ => exact (show False from r).elim
  | some _ => cases u with
    | none => exact (show False from r).elim
    | some _ => exact r

/-- raw tables of the same keys -/
theorem KV.val {kvs : List (κ × V)} {vs : List (κ × Value)} (r : KV kvs vs) (k : κ) : RelO (valV kvs k) (valueAt vs k) := by
  unfold KV at r
  induction r with
  | nil => exact True.intro
  | @cons p q ps qs h t ih =>
    obtain ⟨h1, h2⟩ := h
    by_cases e : p.1 = k
    · have e' : q.1 = k := h1.symm.trans e
      have b : valueAt (q :: qs) k = some q.2 := by simp [valueAt, List.find?_cons, e']
      rw [valV_pos e, b]; exact h2
    · have e' : ¬ q.1 = k := fun z => e (h1.trans z)
      have b : valueAt (q :: qs) k = valueAt qs k := by simp [valueAt, List.find?_cons, e']
      rw [valV_neg e, b]; exact ih
theorem KV.any {kvs : List (κ × V)} {vs : List (κ × Value)} (r : KV kvs vs) (k : κ) : (kvs.any fun kv => decide (kv.1 = k)) = vs.any fun kv => decide (kv.1 = k) := by
  unfold KV at r
  induction r with
  | nil => rfl
  | cons h t ih => rw [List.any_cons, List.any_cons, ih, h.1]
theorem KV.repl {kvs : List (κ × V)} {vs : List (κ × Value)} (r : KV kvs vs) (k : κ) {y : V} {u : Value} (ry : RelV y u) :
    KV (kvs.map fun kv => if kv.1 = k then (kv.1, y) else kv) (vs.map fun kv => if kv.1 = k then (kv.1, u) else kv) := by
  unfold KV at r ⊢
  induction r with
  | nil => exact .nil
  | @cons p q ps qs h t ih =>
    rw [List.map_cons, List.map_cons]
    refine .cons ?_ ih
    obtain ⟨h1, h2⟩ := h
    by_cases e : p.1 = k
    · rw [if_pos e, if_pos (h1.symm.trans e)]; exact ⟨h1, ry⟩
    · rw [if_neg e, if_neg (fun z => e (h1.trans z))]; exact ⟨h1, h2⟩
theorem KV.put {kvs : List (κ × V)} {vs : List (κ × Value)} (r : KV kvs vs) (k : κ) {y : V} {u : Value} (ry : RelV y u) : KV (putK kvs k y) (stored vs k u) := by
  unfold putK stored
  rw [r.any k]
  by_cases e : (vs.any fun kv => decide (kv.1 = k)) = true
  · rw [if_pos e, if_pos e]; exact r.repl k ry
  · rw [if_neg e, if_neg e]; exact Paired.snoc r ⟨rfl, ry⟩
theorem KV.drop {kvs : List (κ × V)} {vs : List (κ × Value)} (r : KV kvs vs) (k : κ) : KV (dropK kvs k) (without vs k) := by
  unfold KV at r ⊢
  unfold dropK without
  induction r with
  | nil => exact .nil
  | @cons p q ps qs h t ih =>
    obtain ⟨h1, h2⟩ := h
    rw [List.filter_cons, List.filter_cons]
    by_cases e : p.1 = k
    · have a : ¬ decide (p.1 ≠ k) = true := by simp [e]
      have b : ¬ decide (q.1 ≠ k) = true := by simp [h1.symm.trans e]
      rw [if_neg a, if_neg b]; exact ih
    · have e' : ¬ q.1 = k := fun z => e (h1.trans z)
      have a : decide (p.1 ≠ k) = true := by simp [e]
      have b : decide (q.1 ≠ k) = true := by simp [e']
      rw [if_pos a, if_pos b]; exact .cons ⟨h1, h2⟩ ih
theorem KV.keys {kvs : List (κ × V)} {vs : List (κ × Value)} (r : KV kvs vs) : kvs.map (·.1) = vs.map (·.1) := by
  unfold KV at r
  induction r with
  | nil => rfl
  | cons h t ih => rw [List.map_cons, List.map_cons, ih, h.1]
theorem KV.length {kvs : List (κ × V)} {vs : List (κ × Value)} (r : KV kvs vs) : kvs.length = vs.length := Paired.length r
theorem dropK_le (kvs : List (κ × V)) (k : κ) : (dropK kvs k).length ≤ kvs.length := List.length_filter_le _ _
end


/-! ### a tracked dict, its keys ints and texts or tuples of these -/
theorem kV_is {P : Program} {w : World} {k : Key} {u : Value} (r : RelV (kV k) u) : (mixKind P w).is k u = true := by
  cases k with
  | inl i => obtain ⟨t, e⟩ := (show ∃ t, u = Value.int i t from r); subst e; exact mixKind_int P w i t
  | inr x => obtain ⟨t, e⟩ := (show ∃ t, u = Value.str x t from r); subst e; exact mixKind_str P w x t
theorem kV_inj {a b : Key} (e : kV a = kV b) : a = b := by
  cases a with
  | inl i => cases b with
    | inl j => have e' : V.int i = V.int j := e; injection e' with e'; rw [e']
    | inr y => exact nomatch (show V.int i = V.str y from e)
  | inr x => cases b with
    | inl j => exact nomatch (show V.str x = V.int j from e)
    | inr y => have e' : V.str x = V.str y := e; injection e' with e'; rw [e']
theorem kVs_inj : ∀ {a b : List Key}, a.map kV = b.map kV → a = b
  | [], [], _ => rfl
  | [], _ :: _, e => by simp at e
  | _ :: _, [], e => by simp at e
  | x :: xs, y :: ys, e => by
    rw [List.map_cons, List.map_cons] at e
    injection e with e1 e2
    rw [kV_inj e1, kVs_inj e2]
theorem items_are {P : Program} {w : World} : ∀ {ks : List Key} {us : List Value}, Vals (ks.map kV) us → ItemsAre (mixKind P w) ks us
  | [], _, r => by rw [List.map_nil] at r; cases r; exact .nil
  | k :: ks, _, r => by
    rw [List.map_cons] at r
    cases r with
    | cons h t => exact .cons (kV_is h) (items_are t)

/-- raw entries of a dict with tuple keys -/
abbrev KT (H : Hp) : List (List Key × V) → List (List Key × Addr × Value) → Prop := Paired fun p q => p.1 = q.1 ∧ H q.2.1 = some (.tup (p.1.map kV)) ∧ RelV p.2 q.2.2
theorem KT.val {H : Hp} {kvs : List (List Key × V)} {xs : List (List Key × Addr × Value)} (r : KT H kvs xs) (k : List Key) : RelO (valV kvs k) ((atKey xs k).map (·.2)) := by
  induction r with
  | nil => exact True.intro
  | @cons p q ps qs h t ih =>
    obtain ⟨h1, _, h2⟩ := h
    by_cases e : p.1 = k
    · have e' : q.1 = k := h1.symm.trans e
      have b : atKey (q :: qs) k = some q.2 := by simp [atKey, List.find?_cons, e']
      rw [valV_pos e, b]; exact h2
    · have e' : ¬ q.1 = k := fun z => e (h1.trans z)
      have b : atKey (q :: qs) k = atKey qs k := by simp [atKey, List.find?_cons, e']
      rw [valV_neg e, b]; exact ih
theorem KT.repl {H : Hp} {kvs : List (List Key × V)} {xs : List (List Key × Addr × Value)} (r : KT H kvs xs) (k : List Key) {y : V} {u : Value} (ry : RelV y u) :
    KT H (kvs.map fun kv => if kv.1 = k then (kv.1, y) else kv) (xs.map (putAt k u)) := by
  induction r with
  | nil => exact .nil
  | @cons p q ps qs h t ih =>
    rw [List.map_cons, List.map_cons]
    refine .cons ?_ ih
    obtain ⟨h1, h2, h3⟩ := h
    unfold putAt
    by_cases e : p.1 = k
    · rw [if_pos e, if_pos (h1.symm.trans e)]; exact ⟨h1, h2, ry⟩
    · rw [if_neg e, if_neg (fun z => e (h1.trans z))]; exact ⟨h1, h2, h3⟩
theorem KT.put {H : Hp} {kvs : List (List Key × V)} {xs : List (List Key × Addr × Value)} (r : KT H kvs xs) (k : List Key) {b : Addr} {y : V} {u : Value} (hb : H b = some (.tup (k.map kV))) (ry : RelV y u) :
    KT H (putK kvs k y) (storedH xs k b u) := by
  have e : (kvs.any fun kv => decide (kv.1 = k)) = (atKey xs k).isSome := by
    rw [valV_any, (r.val k).isSome_eq, Option.isSome_map]
  unfold putK storedH
  rw [e]
  by_cases q : (atKey xs k).isSome = true
  · rw [if_pos q, if_pos q]; exact r.repl k ry
  · rw [if_neg q, if_neg q]; exact Paired.snoc r ⟨rfl, hb, ry⟩
theorem KT.keeps {H H' : Hp} {kvs : List (List Key × V)} {xs : List (List Key × Addr × Value)} (r : KT H kvs xs) (ht : ∀ b ys, H b = some (.tup ys) → H' b = some (.tup ys)) : KT H' kvs xs :=
  Paired.mapP r fun _ _ z => ⟨z.1, ht _ _ z.2.1, z.2.2⟩

section
variable {P : Program} {w : World} {H : Hp} {h : Heap} {a : Addr}
theorem rd_of {u : HO} (ok : HOk P w H h) (e : Rd H a u) : ObjOk P w H h a u := e.ok ok
theorem dk_rd {kvs : List (Key × V)} (ok : HOk P w H h) (e : Rd H a (.dK kvs)) : kvs.length ≤ sizeLine ∧ (a == sysModules) = false ∧ ∃ vs, KV kvs vs ∧ h.DictOf (mixKind P w) a vs :=
  show ObjOk P w H h a (.dK kvs) from rd_of ok e
theorem dk_of {kvs : List (Key × V)} (ok : HOk P w H h) (e : H a = some (.dK kvs)) : kvs.length ≤ sizeLine ∧ (a == sysModules) = false ∧ ∃ vs, KV kvs vs ∧ h.DictOf (mixKind P w) a vs := dk_rd ok (.inl e)
/-- a tracked tuple of ints and texts is a key -/
theorem key_of {ks : List Key} (ok : HOk P w H h) (e : H a = some (.tup (ks.map kV))) : (tupleKind (mixKind P w)).is h ks a := by
  obtain ⟨_, its, r, o, h1, h2, n, h3⟩ := (show ObjOk P w H h a (.tup (ks.map kV)) from ok a _ e)
  exact ⟨o, its.toArray, n, h1, h2, h3, by simpa using items_are r⟩
theorem dt_rd {kvs : List (List Key × V)} (ok : HOk P w H h) (e : Rd H a (.dT kvs)) : kvs.length ≤ sizeLine ∧ (a == sysModules) = false ∧
    ∃ xs, KT H kvs xs ∧ h.DictOfH (tupleKind (mixKind P w)) a xs := by
  obtain ⟨z, y, xs, r, o, es, ep, h1, h2, h3, h4, h5⟩ := (show ObjOk P w H h a (.dT kvs) from rd_of ok e)
  refine ⟨z, y, xs, r, o, es, ep, h1, h2, h3, h4, fun x hx => ?_, h5⟩
  have all : ∀ {l : List (List Key × V)} {m : List (List Key × Addr × Value)}, KT H l m → ∀ x ∈ m, (tupleKind (mixKind P w)).is h x.1 x.2.1 := by
    intro l m q
    induction q with
    | nil => intro x hx; exact nomatch hx
    | @cons p q ps qs hq t ih =>
      intro x hx
      rcases List.mem_cons.mp hx with e | hx
      · subst e
        exact key_of ok (by rw [← hq.1]; exact hq.2.1)
      · exact ih x hx
  exact all r x hx
theorem dt_of {kvs : List (List Key × V)} (ok : HOk P w H h) (e : H a = some (.dT kvs)) : kvs.length ≤ sizeLine ∧ (a == sysModules) = false ∧
    ∃ xs, KT H kvs xs ∧ h.DictOfH (tupleKind (mixKind P w)) a xs := dt_rd ok (.inl e)
end

/-- what the dict at a holds at the key y -/
def DGet (H : Hp) (a : Addr) (y : V) (r : Option V) : Prop :=
  (∃ kvs k, Rd H a (.dK kvs) ∧ y = kV k ∧ r = valV kvs k) ∨ ∃ kvs k b, Rd H a (.dT kvs) ∧ y = .ref b ∧ H b = some (.tup (k.map kV)) ∧ r = valV kvs k
/-- the heap behind a[y] = v -/
def DPut (H : Hp) (a : Addr) (y v : V) (H' : Hp) : Prop :=
  (∃ kvs k, H a = some (.dK kvs) ∧ y = kV k ∧ kvs.length < sizeLine ∧ H' = upd H a (.dK (putK kvs k v))) ∨
  ∃ kvs k b, H a = some (.dT kvs) ∧ y = .ref b ∧ H b = some (.tup (k.map kV)) ∧ kvs.length < sizeLine ∧ H' = upd H a (.dT (putK kvs k v))
theorem DGet.k {H : Hp} {a : Addr} {kvs : List (Key × V)} {k : Key} (e : H a = some (.dK kvs)) : DGet H a (kV k) (valV kvs k) := .inl ⟨kvs, k, .inl e, rfl, rfl⟩
theorem DGet.t {H : Hp} {a b : Addr} {kvs : List (List Key × V)} {k : List Key} (e : H a = some (.dT kvs)) (eb : H b = some (.tup (k.map kV))) : DGet H a (.ref b) (valV kvs k) := .inr ⟨kvs, k, b, .inl e, rfl, eb, rfl⟩
theorem DPut.k {H : Hp} {a : Addr} {kvs : List (Key × V)} {k : Key} {v : V} (e : H a = some (.dK kvs)) (hl : kvs.length < sizeLine) : DPut H a (kV k) v (upd H a (.dK (putK kvs k v))) := .inl ⟨kvs, k, e, rfl, hl, rfl⟩
theorem DPut.t {H : Hp} {a b : Addr} {kvs : List (List Key × V)} {k : List Key} {v : V} (e : H a = some (.dT kvs)) (eb : H b = some (.tup (k.map kV))) (hl : kvs.length < sizeLine) :
    DPut H a (.ref b) v (upd H a (.dT (putK kvs k v))) := .inr ⟨kvs, k, b, e, rfl, eb, hl, rfl⟩


section
variable {X : Cx} {pins : List (Addr × Obj)} {σ : St} {H : Hp} {s : Shared} {a : Addr} {y v : V} {u r : Value} {o : Option V} {A : Around} {E : Value → Shared → Prop}

theorem Inv.big (I : Inv X pins σ H s) : sysModules < s.heap.objs.size := by
  have h : mainGlobals < s.heap.objs.size := (I.mod.glob.keeps I.bk).lt
  exact Nat.lt_trans (by decide) h

/-- d[y], there -/
theorem d_getItem {Q : Value → Shared → Prop} (hu : A.units + 1 < cLine) (I : Inv X pins σ H s) (g : DGet H a y (some v)) (ry : RelV y u) (h : ∀ w' s', Inv X pins σ H s' → RelV v w' → Q w' s') :
    wpAny (model X.prog X.w) A (getItem (.ref a) u) Q E s := by
  rcases g with ⟨kvs, k, e, ey, l⟩ | ⟨kvs, k, b, e, ey, eb, l⟩
  · subst ey
    obtain ⟨z, hd, vs, rel, dd⟩ := dk_rd I.hok e
    obtain ⟨w', hw, rw'⟩ := RelO.some_of (v := v) (o := valueAt vs k) (by rw [l]; exact rel.val k)
    exact wpAny_getItem_of (kV_is ry) dd.mapOf hw (h w' _ (I.tok _) rw')
  · subst ey
    cases (show u = Value.ref b from ry)
    obtain ⟨z, hd, xs, rel, dd⟩ := dt_rd I.hok e
    obtain ⟨w', hw, rw'⟩ := RelO.some_of (v := v) (o := (atKey xs k).map (·.2)) (by rw [l]; exact rel.val k)
    obtain ⟨p, hp, hp2⟩ := Option.map_eq_some_iff.mp hw
    refine wpAny_getItem_heap (tupleKind_room_in1 hu) (key_of I.hok eb) dd hp ?_
    rw [hp2]
    exact h w' _ (I.tok _) rw'
/-- y in d -/
theorem d_in {Q : Value → Shared → Prop} (hu : A.units + 1 < cLine) (I : Inv X pins σ H s) (g : DGet H a y o) (ry : RelV y u) (h : ∀ s', Inv X pins σ H s' → Q (.bool o.isSome) s') :
    wpAny (model X.prog X.w) A (compareOp .In u (.ref a)) Q E s := by
  rcases g with ⟨kvs, k, e, ey, l⟩ | ⟨kvs, k, b, e, ey, eb, l⟩
  · subst ey
    obtain ⟨z, hd, vs, rel, dd⟩ := dk_rd I.hok e
    refine wpAny_in_of (kV_is ry) hd dd.mapOf ?_
    rw [← (rel.val k).isSome_eq, ← l]
    exact h _ (I.tok _)
  · subst ey
    cases (show u = Value.ref b from ry)
    obtain ⟨z, hd, xs, rel, dd⟩ := dt_rd I.hok e
    refine wpAny_in_heap (tupleKind_room_in1 hu) (key_of I.hok eb) hd dd ?_
    have q := (rel.val k).isSome_eq
    rw [Option.isSome_map] at q
    rw [← q, ← l]
    exact h _ (I.tok _)
theorem d_notIn {Q : Value → Shared → Prop} (hu : A.units + 1 < cLine) (I : Inv X pins σ H s) (g : DGet H a y o) (ry : RelV y u) (h : ∀ s', Inv X pins σ H s' → Q (.bool (!o.isSome)) s') :
    wpAny (model X.prog X.w) A (compareOp .NotIn u (.ref a)) Q E s := by
  rcases g with ⟨kvs, k, e, ey, l⟩ | ⟨kvs, k, b, e, ey, eb, l⟩
  · subst ey
    obtain ⟨z, hd, vs, rel, dd⟩ := dk_rd I.hok e
    refine wpAny_notIn_of (kV_is ry) hd dd.mapOf ?_
    rw [← (rel.val k).isSome_eq, ← l]
    exact h _ (I.tok _)
  · subst ey
    cases (show u = Value.ref b from ry)
    obtain ⟨z, hd, xs, rel, dd⟩ := dt_rd I.hok e
    refine wpAny_notIn_heap (tupleKind_room_in1 hu) (key_of I.hok eb) hd dd ?_
    have q := (rel.val k).isSome_eq
    rw [Option.isSome_map] at q
    rw [← q, ← l]
    exact h _ (I.tok _)
/-- a dict's object is replaced -/
theorem d_write {h' : Heap} {t' : Nat} {ob : HO} (I : Inv X pins σ H s) (mu : Mut (H a)) (hs : Heap.SameBut a s.heap h') (he : ∃ q, h'.get? a = some q) (new : ObjOk X.prog X.w (upd H a ob) h' a ob) :
    Inv X pins σ (upd H a ob) { s with heap := h', toks := t' } :=
  I.write (x := a) (e := a) mu (.inl rfl) (fun b q hb z => (hs.2 b hb).trans z) he new
theorem dk_new {P : Program} {w : World} {H' : Hp} {h' : Heap} {kvs : List (Key × V)} {vs : List (Key × Value)} (z : kvs.length ≤ sizeLine) (hd : (a == sysModules) = false) (rel : KV kvs vs) (dd : h'.DictOf (mixKind P w) a vs) :
    ObjOk P w H' h' a (.dK kvs) := ⟨z, hd, vs, rel, dd⟩
/-- d[y] = v -/
theorem d_setItem {H' : Hp} {Q : Unit → Shared → Prop} (hu : A.units + 1 < cLine) (I : Inv X pins σ H s) (g : DPut H a y v H') (ry : RelV y u) (rv : RelV v r) (h : ∀ s', Inv X pins σ H' s' → Q () s') :
    wpAny (model X.prog X.w) A (setItem (.ref a) u r) Q E s := by
  rcases g with ⟨kvs, k, e, ey, l, eH⟩ | ⟨kvs, k, b, e, ey, eb, l, eH⟩
  · subst ey eH
    obtain ⟨z, hd, vs, rel, dd⟩ := dk_of I.hok e
    have hz : vs.length ≤ sizeLine := by rw [← rel.length]; exact z
    have hl : (putK kvs k v).length ≤ sizeLine := by have := length_putK kvs k v; omega
    refine wpAny_setItem_pairs (hsz := hz) (kV_is ry) dd fun h' dd' hs => h _ ?_
    have he : ∃ q, h'.get? a = some q := let ⟨q, _, _, hq, _⟩ := dd'; ⟨q, hq⟩
    exact d_write I (by rw [e]; exact True.intro) hs he (dk_new hl hd (rel.put k rv) dd')
  · subst ey eH
    cases (show u = Value.ref b from ry)
    obtain ⟨z, hd, xs, rel, dd⟩ := dt_of I.hok e
    have hz : xs.length ≤ sizeLine := by rw [← Paired.length rel]; exact z
    have hl : (putK kvs k v).length ≤ sizeLine := by have := length_putK kvs k v; omega
    refine wpAny_setItem_heap (hsz := hz) (tupleKind_room_in1 hu) (key_of I.hok eb) dd fun h' dd' hs => h _ ?_
    obtain ⟨q, es, ep, hq, h2, h3, h4, _, h5⟩ := dd'
    refine d_write I (by rw [e]; exact True.intro) hs ⟨q, hq⟩ ⟨hl, hd, _, (rel.put k eb rv).keeps fun c ys ec => ?_, q, es, ep, hq, h2, h3, h4, h5⟩
    rw [upd_ne (ne_of ec e (fun z => nomatch z))]
    exact ec
end

section
variable {X : Cx} {pins : List (Addr × Obj)} {σ : St} {H : Hp} {s : Shared} {a : Addr} {kvs : List (Key × V)} {k : Key} {u : Value} {A : Around} {E : Value → Shared → Prop}
/-- del d[k] -/
theorem d_delItem {Q : Unit → Shared → Prop} (I : Inv X pins σ H s) (e : H a = some (.dK kvs)) (ry : RelV (kV k) u) (l : (valV kvs k).isSome = true) (h : ∀ s', Inv X pins σ (upd H a (.dK (dropK kvs k))) s' → Q () s') :
    wpAny (model X.prog X.w) A (delItem (.ref a) u) Q E s := by
  obtain ⟨z, hd, vs, rel, dd⟩ := dk_of I.hok e
  refine wpAny_delItem_slot dd.typeIs (by decide) PySem.F.slot_dict_delitem
    (call_meetsIn PySem.F.slot_dict_delitem dd.typeIs PySem.F.entry_dict_delitem (PySem.F.args_dict_delitem_2 _ _) (meets_dict_delitem_pairs (mixKind X.prog X.w) a (kV_is ry)) ⟨vs, dd, by rw [← rel.length]; exact z, by rw [← (rel.val k).isSome_eq]; exact l, fun h' dd' hs => h _ ?_⟩)
  have he : ∃ q, h'.get? a = some q := let ⟨q, _, _, hq, _⟩ := dd'; ⟨q, hq⟩
  exact d_write I (by rw [e]; exact True.intro) hs he (dk_new (Nat.le_trans (dropK_le kvs k) z) hd (rel.drop k) dd')
/-- d.pop(k[, x]), there -/
theorem d_pop {v : V} {more : List Value} {Q : Value → Shared → Prop} (I : Inv X pins σ H s) (e : H a = some (.dK kvs)) (ry : RelV (kV k) u) (l : valV kvs k = some v) (hm : more = [] ∨ ∃ x, more = [x])
    (h : ∀ w' s', Inv X pins σ (upd H a (.dK (dropK kvs k))) s' → RelV v w' → Q w' s') : wpAny (model X.prog X.w) A (call (.builtin "dict.pop") (.ref a :: u :: more)) Q E s := by
  obtain ⟨z, hd, vs, rel, dd⟩ := dk_of I.hok e
  obtain ⟨w', hw, rw'⟩ := RelO.some_of (v := v) (o := valueAt vs k) (by rw [← l]; exact rel.val k)
  have hp : (keyPart u).isSome = true := by
    cases k with
    | inl i => obtain ⟨t, q⟩ := (show ∃ t, u = Value.int i t from ry); subst q; rfl
    | inr x => obtain ⟨t, q⟩ := (show ∃ t, u = Value.str x t from ry); subst q; rfl
  have ha : argsOk "dict.pop" ⟨.ref a :: u :: more, []⟩ := by
    rcases hm with q | ⟨x, q⟩
    · subst q; exact PySem.F.args_dict_pop_2 _ _
    · subst q; exact PySem.F.args_dict_pop_3 _ _ _
  refine call_meetsIn PySem.F.slot_dict_pop dd.typeIs PySem.F.entry_dict_pop ha (meets_dict_pop_there (mixKind X.prog X.w) a (kV_is ry) more hm hp)
    ⟨vs, w', dd, by rw [← rel.length]; exact z, hw, fun h' dd' hs => h w' _ ?_ rw'⟩
  have he : ∃ q, h'.get? a = some q := let ⟨q, _, _, hq, _⟩ := dd'; ⟨q, hq⟩
  exact d_write I (by rw [e]; exact True.intro) hs he (dk_new (Nat.le_trans (dropK_le kvs k) z) hd (rel.drop k) dd')
/-- d.pop(k, x), not there -/
theorem d_popD {r : Value} {Q : Value → Shared → Prop} (I : Inv X pins σ H s) (e : H a = some (.dK kvs)) (ry : RelV (kV k) u) (l : valV kvs k = none) (h : ∀ s', Inv X pins σ H s' → Q r s') :
    wpAny (model X.prog X.w) A (call (.builtin "dict.pop") [.ref a, u, r]) Q E s := by
  obtain ⟨z, hd, vs, rel, dd⟩ := dk_of I.hok e
  have hn : valueAt vs k = none := RelO.none_of (by rw [← l]; exact rel.val k)
  have hp : (keyPart u).isSome = true := by
    cases k with
    | inl i => obtain ⟨t, q⟩ := (show ∃ t, u = Value.int i t from ry); subst q; rfl
    | inr x => obtain ⟨t, q⟩ := (show ∃ t, u = Value.str x t from ry); subst q; rfl
  exact call_meetsIn PySem.F.slot_dict_pop dd.typeIs PySem.F.entry_dict_pop (PySem.F.args_dict_pop_3 _ _ _) (meets_dict_pop_default (mixKind X.prog X.w) a (kV_is ry) hd hp r) ⟨vs, dd, hn, h _ (I.tok _)⟩
/-- d.clear() -/
theorem d_clear {Q : Value → Shared → Prop} (I : Inv X pins σ H s) (e : H a = some (.dK kvs)) (h : ∀ s', Inv X pins σ (upd H a (.dK [])) s' → Q .none s') : wpAny (model X.prog X.w) A (call (.builtin "dict.clear") [.ref a]) Q E s := by
  obtain ⟨z, hd, vs, rel, dd⟩ := dk_of I.hok e
  refine call_meetsIn PySem.F.slot_dict_clear dd.typeIs PySem.F.entry_dict_clear (PySem.F.args_dict_clear_1 _) (meets_dict_clear (mixKind X.prog X.w) a) ⟨vs, dd, by rw [← rel.length]; exact z, fun h' dd' hs => h _ ?_⟩
  have he : ∃ q, h'.get? a = some q := let ⟨q, _, _, hq, _⟩ := dd'; ⟨q, hq⟩
  exact d_write (t' := s.toks) I (by rw [e]; exact True.intro) hs he (dk_new (Nat.zero_le _) hd .nil dd')
/-- len(d) -/
theorem d_len {Q : Value → Shared → Prop} (I : Inv X pins σ H s) (e : Rd H a (.dK kvs)) (h : ∀ t s', Inv X pins σ H s' → Q (.int kvs.length t) s') : wpAny (model X.prog X.w) A (call (.builtin "len") [.ref a]) Q E s := by
  obtain ⟨z, hd, vs, rel, dd⟩ := dk_rd I.hok e
  refine call_len_dict hd dd (by rw [← rel.length]; rw [sizeLine_eq] at z; omega) ?_
  rw [← rel.length]
  exact h _ _ (I.tok _)
/-- if d -/
theorem d_truth {Q : Bool → Shared → Prop} (I : Inv X pins σ H s) (e : Rd H a (.dK kvs)) (h : ∀ s', Inv X pins σ H s' → Q (!kvs.isEmpty) s') : wpAny (model X.prog X.w) A (truthy (.ref a)) Q E s := by
  obtain ⟨z, hd, vs, rel, dd⟩ := dk_rd I.hok e
  refine wpAny_truthy_dict hd dd (by rw [← rel.length]; rw [sizeLine_eq] at z; omega) ?_
  have q : kvs.isEmpty = vs.isEmpty := by cases rel <;> rfl
  rw [← q]
  exact h _ (I.tok _)
end


/-! ### readings and rules -/
/-- the element of a subscription, not a slice -/
def NoSl (i : Expr) : Prop := ∀ ov iv, subscripted i false ov iv = operate [ov, iv] (getItem ov iv)
theorem subD_of {prog : Program} {w : World} {A : Around} {E : Value → Shared → Prop} {s : Shared} {env : Env} {value slice : Expr} {pos : Pos} {T id : String} {Q : Value → Shared → Prop}
    (hl : typeLookup (.type T) "__getitem__" = pure (some (.builtin id))) (hs : NoSl slice)
    (h : wpAny (model prog w) A (eval value env) (fun o s₁ => wpAny (model prog w) A (eval slice env) (fun i s₂ => s₂.TypeIs o T ∧ wpAny (model prog w) A (getItem o i) Q E s₂) E s₁) E s) :
    wpAny (model prog w) A (eval (.Subscript value slice pos) env) Q E s := by
  refine Subscript_ (wpAny_mono h (fun o s₁ h₁ => wpAny_mono h₁ (fun i s₂ h₂ => ?_) fun _ _ x => x) fun _ _ x => x)
  obtain ⟨hT, h₂⟩ := h₂
  unfold subscriptTail
  refine wpAny_bind ?_
  rw [getitemInPython_of_ne hT.not_modules]
  refine wpAny_bind (wpAny_specialOf hT hl ?_)
  have fin : wpAny (model prog w) A (subscripted slice false o i) (fun r s₃ => wpAny (model prog w) A (letTemporaryGo value o r >>= fun _ => pure r) Q E s₃) E s₂ := by
    rw [hs o i]
    exact wpAny_operating (wpAny_mono h₂ (fun r s₃ h₃ => wpAny_bind (wpAny_letTemporaryGo (wpAny_pure h₃))) fun _ _ x => x)
  first
    | exact wpAny_pure (wpAny_bind fin)
    | exact wpAny_bind (wpAny_pure (wpAny_bind fin))
    | exact wpAny_bind fin

theorem dict_typeIs {X : Cx} {pins : List (Addr × Obj)} {σ : St} {H : Hp} {s : Shared} {a : Addr} {y : V} {o : Option V} (I : Inv X pins σ H s) (g : DGet H a y o) : s.TypeIs (.ref a) "dict" := by
  rcases g with ⟨kvs, k, e, _, _⟩ | ⟨kvs, k, b, e, _, _, _⟩
  · obtain ⟨_, _, vs, _, dd⟩ := dk_rd I.hok e
    exact dd.typeIs
  · obtain ⟨_, _, xs, _, dd⟩ := dt_rd I.hok e
    exact dd.typeIs
theorem dict_noDict {X : Cx} {pins : List (Addr × Obj)} {σ : St} {H : Hp} {s : Shared} {a : Addr} {y : V} {o : Option V} (I : Inv X pins σ H s) (g : DGet H a y o) :
    ∀ b, Value.ref a = .ref b → ∃ ob, s.heap.get? b = some ob ∧ ob.dict = none := fun b q => by
  cases q
  rcases g with ⟨kvs, k, e, _, _⟩ | ⟨kvs, k, b, e, _, _, _⟩
  · obtain ⟨_, _, vs, _, ob, _, _, h1, h2, _⟩ := dk_rd I.hok e
    exact ⟨ob, h1, h2.2.1⟩
  · obtain ⟨_, _, xs, _, ob, _, _, h1, h2, _⟩ := dt_rd I.hok e
    exact ⟨ob, h1, h2.2.1⟩

/-- d[y] -/
def tDGet (td ty : TE) : TE := fun σ H Q => td σ H fun x H1 => ty σ H1 fun y H2 => ∃ a v, x = .ref a ∧ DGet H2 a y (some v) ∧ Q v H2
/-- y in d, y not in d -/
def tDIn (ty td : TE) : TE := fun σ H Q => ty σ H fun y H1 => td σ H1 fun x H2 => ∃ a o, x = .ref a ∧ DGet H2 a y o ∧ Q (.bl o.isSome) H2
def tDNotIn (ty td : TE) : TE := fun σ H Q => ty σ H fun y H1 => td σ H1 fun x H2 => ∃ a o, x = .ref a ∧ DGet H2 a y o ∧ Q (.bl (!o.isSome)) H2
/-- d[y] = v -/
def sDPut (td ty tv : TE) : TS := fun D σ H => tv σ H fun v H1 => td σ H1 fun x H2 => ty σ H2 fun y H3 => ∃ a H4, x = .ref a ∧ DPut H3 a y v H4 ∧ D.nx σ H4
/-- d[y] op= v -/
def sDAug (td ty tv : TE) (rd : V → V → Hp → VK → Prop) : TS := fun D σ H => td σ H fun x H1 => ty σ H1 fun y H2 => ∃ a v, x = .ref a ∧ DGet H2 a y (some v) ∧
  tv σ H2 fun y2 H3 => rd v y2 H3 fun z H4 => ∃ H5, DPut H4 a y z H5 ∧ D.nx σ H5
/-- del d[y] -/
def sDDel (td ty : TE) : TS := fun D σ H => td σ H fun x H1 => ty σ H1 fun y H2 => ∃ a kvs k, x = .ref a ∧ H2 a = some (.dK kvs) ∧ y = kV k ∧ (valV kvs k).isSome = true ∧ D.nx σ (upd H2 a (.dK (dropK kvs k)))

section
variable {X : Cx} {o i e value : Expr} {pos pos' tpos : Pos} {td ty tv : TE}
theorem pe_dget (hu : X.A.units + 1 < cLine) (ho : PE X o td) (hi : PE X i ty) (hs : NoSl i) : PE X (.Subscript o i pos) (tDGet td ty) := by
  intro pins s σ H Q I h
  refine subD_of PySem.F.slot_dict_getitem.lookup hs (thn (ho pins s σ H _ I h) fun u s1 ⟨x, H1, I1, rx, q1⟩ => thn (hi pins s1 σ H1 _ I1 q1) fun iv s2 ⟨y, H2, I2, ry, a, v, ex, g, q2⟩ => ?_)
  subst ex
  obtain rfl : u = Value.ref a := rx
  exact ⟨dict_typeIs I2 g, d_getItem hu I2 g ry fun w' s3 I3 rw' => ⟨v, H2, I3, rw', q2⟩⟩
theorem pc_din (hu : X.A.units + 1 < cLine) (hi : PE X i ty) (ho : PE X o td) : PC X .In i o (tDIn ty td) := by
  intro pins s σ H Q I h
  refine thn (hi pins s σ H _ I h) fun iv s1 ⟨y, H1, I1, ry, q1⟩ => thn (ho pins s1 σ H1 _ I1 q1) fun u s2 ⟨x, H2, I2, rx, a, ov, ex, g, q2⟩ => ?_
  subst ex
  obtain rfl : u = Value.ref a := rx
  exact d_in hu I2 g ry fun s3 I3 => ⟨.bl ov.isSome, H2, I3, rfl, q2⟩
theorem pc_dnotin (hu : X.A.units + 1 < cLine) (hi : PE X i ty) (ho : PE X o td) : PC X .NotIn i o (tDNotIn ty td) := by
  intro pins s σ H Q I h
  refine thn (hi pins s σ H _ I h) fun iv s1 ⟨y, H1, I1, ry, q1⟩ => thn (ho pins s1 σ H1 _ I1 q1) fun u s2 ⟨x, H2, I2, rx, a, ov, ex, g, q2⟩ => ?_
  subst ex
  obtain rfl : u = Value.ref a := rx
  exact d_notIn hu I2 g ry fun s3 I3 => ⟨.bl (!ov.isSome), H2, I3, rfl, q2⟩
theorem ps_dput (hu : X.A.units + 1 < cLine) (ho : PE X o td) (hi : PE X i ty) (hv : PE X value tv) (hs : swapsWith value (some (.Subscript o i pos')) pos.line X.env = pure false) :
    PS X (.Assign [.Subscript o i pos'] value pos) (sDPut td ty tv) := by
  intro pins s σ H D I h
  refine wpAny_Assign_Subscript (thn (hv pins s σ H _ I h) fun r s1 ⟨v, H1, I1, rv, q1⟩ => thn (ho pins s1 σ H1 _ I1 q1) fun u s2 ⟨x, H2, I2, rx, q2⟩ => thn (hi pins s2 σ H2 _ I2 q2) fun iv s3 ⟨y, H3, I3, ry, a, H4, ex, g, q3⟩ => ?_) hs
  subst ex
  obtain rfl : u = Value.ref a := rx
  exact d_setItem hu I3 g ry rv fun s4 I4 => ⟨σ, H4, I4, q3⟩
theorem ps_daug {op : Operator} {rd : V → V → Hp → VK → Prop} (hu : X.A.units + 1 < cLine) (ho : PE X o td) (hi : PE X i ty) (hv : PE X value tv) (hop : InOp X op rd)
    (ha : ∀ ov iv new, augStore i ov iv new = (do holding [new, ov, iv] (setItem ov iv new); release [new, ov, iv] []; pure .next)) : PS X (.AugAssign (.Subscript o i tpos) op value pos) (sDAug td ty tv rd) := by
  intro pins s σ H D I h
  refine wpAny_AugAssign_SubscriptAny (thn (ho pins s σ H _ I h) fun u s1 ⟨x, H1, I1, rx, q1⟩ => thn (hi pins s1 σ H1 _ I1 q1) fun iv s2 ⟨y, H2, I2, ry, a, v, ex, g, q2⟩ => ?_) ha
  subst ex
  obtain rfl : u = Value.ref a := rx
  refine d_getItem hu I2 g ry fun w' s3 I3 rw' => thn (hv pins s3 σ H2 _ I3 q2) fun w2 s4 ⟨y2, H3, I4, ry2, q3⟩ => thn (hop pins s4 σ H3 v y2 w' w2 _ I4 rw' ry2 q3) fun w3 s5 ⟨z, H4, I5, rz, H5, g5, q4⟩ => ?_
  exact d_setItem hu I5 g5 ry rz fun s6 I6 => ⟨σ, H5, I6, q4⟩
theorem ps_ddel (ho : PE X o td) (hi : PE X i ty) : PS X (.Delete [.Subscript o i tpos] pos) (sDDel td ty) := by
  intro pins s σ H D I h
  refine wpAny_Delete (wpAny_deleteEach_cons (wpAny_delete_Subscript (thn (ho pins s σ H _ I h) fun u s1 ⟨x, H1, I1, rx, q1⟩ => thn (hi pins s1 σ H1 _ I1 q1) fun iv s2 ⟨y, H2, I2, ry, a, kvs, k, ex, e, ey, l, q2⟩ => ?_)))
  subst ex ey
  obtain rfl : u = Value.ref a := rx
  exact d_delItem I2 e ry l fun s3 I3 => wpAny_deleteEach_nil ⟨σ, _, I3, q2⟩
end


/-! ### displays -/
theorem dk_empty {P : Program} {w : World} {H : Hp} (h : Heap) (hb : sysModules < h.objs.size) : ObjOk P w H (h.push { cls := .type "dict", data := .dict #[] }) h.objs.size (.dK []) :=
  ⟨Nat.zero_le _, beq_eq_false_iff_ne.mpr (Ne.symm (Nat.ne_of_lt hb)), [], .nil, Heap.DictOf.new h⟩
theorem dt_empty {P : Program} {w : World} {H : Hp} (h : Heap) (hb : sysModules < h.objs.size) : ObjOk P w H (h.push { cls := .type "dict", data := .dict #[] }) h.objs.size (.dT []) :=
  ⟨Nat.zero_le _, beq_eq_false_iff_ne.mpr (Ne.symm (Nat.ne_of_lt hb)), [], .nil, _, #[], 0, Heap.get?_push_size _ rfl, ⟨rfl, rfl, rfl⟩, rfl, rfl, List.nodup_nil⟩
/-- {}, to be a dict of the kind that is wanted -/
def tDNewK : TE := fun _ H Q => ∀ p, H p = none → Q (.ref p) (upd H p (.dK []))
def tDNewT : TE := fun _ H Q => ∀ p, H p = none → Q (.ref p) (upd H p (.dT []))
section
variable {X : Cx} {pos : Pos}
theorem pe_dnewK : PE X (.Dict [] [] pos) tDNewK := fun pins s σ H Q I h =>
  wpAny_Dict_empty ⟨.ref s.heap.objs.size, _, I.laid (a := s.heap.objs.size) (o := .dK []) (t' := s.toks) (fun _ _ q => Heap.get?_push_of_some _ q) (Nat.le_refl _) (dk_empty s.heap I.big), rfl, h _ (I.hok.fresh (Nat.le_refl _))⟩
theorem pe_dnewT : PE X (.Dict [] [] pos) tDNewT := fun pins s σ H Q I h =>
  wpAny_Dict_empty ⟨.ref s.heap.objs.size, _, I.laid (a := s.heap.objs.size) (o := .dT []) (t' := s.toks) (fun _ _ q => Heap.get?_push_of_some _ q) (Nat.le_refl _) (dt_empty s.heap I.big), rfl, h _ (I.hok.fresh (Nat.le_refl _))⟩
end

/-- the pairs of a display, from the left -/
def tPairs : List (TE × TE) → St → Hp → (List (V × V) → Hp → Prop) → Prop
  | [], _, H, Q => Q [] H
  | (tk, tv) :: r, σ, H, Q => tk σ H fun x H1 => tv σ H1 fun y H2 => tPairs r σ H2 fun ps H3 => Q ((x, y) :: ps) H3
abbrev VV : List (V × V) → List (Value × Value) → Prop := Paired fun p q => RelV p.1 q.1 ∧ RelV p.2 q.2
def PPs (X : Cx) (pos : Pos) (keys : List (Option Expr)) (values : List Expr) (trs : List (TE × TE)) : Prop :=
  ∀ (pins : List (Addr × Obj)) (s : Shared) (σ : St) (H : Hp) (Q : List (V × V) → Hp → Prop), Inv X pins σ H s → tPairs trs σ H Q →
    wpAny (model X.prog X.w) X.A (evalPairs (pairTrees keys values X.env pos)) (fun vs s' => ∃ ps H', Inv X pins σ H' s' ∧ VV ps vs ∧ Q ps H') X.xe s
theorem pps_nil {X : Cx} {pos : Pos} : PPs X pos [] [] [] := fun pins s σ H Q I h => pairTrees_nil_walk ⟨[], H, I, .nil, h⟩
theorem pps_cons {X : Cx} {pos : Pos} {k v : Expr} {ks : List (Option Expr)} {vs : List Expr} {tk tv : TE} {trs : List (TE × TE)} (hk : PE X k tk) (hv : PE X v tv) (hr : PPs X pos ks vs trs) :
    PPs X pos (some k :: ks) (v :: vs) ((tk, tv) :: trs) := fun pins s σ H Q I h =>
  pairTrees_cons_walk (thn (hk pins s σ H _ I h) fun u s1 ⟨x, H1, I1, rx, q1⟩ => thn (hv pins s1 σ H1 _ I1 q1) fun w2 s2 ⟨y, H2, I2, ry, q2⟩ =>
    thn (hr pins s2 σ H2 _ I2 q2) fun ws s3 ⟨ps, H3, I3, rel, q3⟩ => ⟨(x, y) :: ps, H3, I3, .cons ⟨rx, ry⟩ rel, q3⟩)

def mergeK (kvs more : List (Key × V)) : List (Key × V) := more.foldl (fun acc kv => putK acc kv.1 kv.2) kvs
theorem KV.merge : ∀ {more : List (Key × V)} {rs : List (Key × Value)} {kvs : List (Key × V)} {vs : List (Key × Value)}, KV more rs → KV kvs vs → KV (mergeK kvs more) (merged vs rs) := by
  intro more rs kvs vs r
  unfold KV at r
  induction r generalizing kvs vs with
  | nil => intro q; exact q
  | @cons p q ps qs h t ih =>
    intro r0
    have e : KV (putK kvs p.1 p.2) (stored vs q.1 q.2) := by
      have := r0.put p.1 h.2
      rw [← h.1]; exact this
    exact ih e
theorem length_mergeK : ∀ (more kvs : List (Key × V)), (mergeK kvs more).length ≤ kvs.length + more.length
  | [], kvs => by show kvs.length ≤ kvs.length + 0; omega
  | p :: r, kvs => by
    have h1 := length_mergeK r (putK kvs p.1 p.2)
    have h2 := length_putK kvs p.1 p.2
    show (mergeK (putK kvs p.1 p.2) r).length ≤ _
    rw [List.length_cons]; omega
theorem carries_of {P : Program} {w : World} : ∀ {kvs : List (Key × V)} {ws : List (Value × Value)}, VV (kvs.map fun kv => (kV kv.1, kv.2)) ws → ∃ rs, Carries (mixKind P w) ws rs ∧ KV kvs rs
  | [], _, r => by rw [List.map_nil] at r; cases r; exact ⟨[], True.intro, .nil⟩
  | p :: kvs, _, r => by
    rw [List.map_cons] at r
    cases r with
    | @cons a b as bs h t =>
      obtain ⟨rs, c, q⟩ := carries_of (P := P) (w := w) t
      obtain ⟨b1, b2⟩ := b
      exact ⟨(p.1, b2) :: rs, ⟨kV_is h.1, rfl, c⟩, .cons ⟨rfl, h.2⟩ q⟩
/-- {k: v, ..} with keys ints and texts; the new dict stands empty while the pairs are made -/
def tDisp (trs : List (TE × TE)) : TE := fun σ H Q => ∀ p, H p = none → tPairs trs σ (upd H p (.dK [])) fun ps H2 => H2 p = some (.dK []) ∧ ∃ kvs : List (Key × V), ps = kvs.map (fun kv => (kV kv.1, kv.2)) ∧ kvs.length ≤ 15 ∧ Q (.ref p) (upd H2 p (.dK (mergeK [] kvs)))
theorem pe_disp {X : Cx} {pos : Pos} {keys : List (Option Expr)} {values : List Expr} {trs : List (TE × TE)} (h : PPs X pos keys values trs) (hall : keys.all (·.isSome) = true) (hl : keys.length = values.length) (h0 : keys ≠ [])
    (h15 : keys.length ≤ 15) : PE X (.Dict keys values pos) (tDisp trs) := by
  intro pins s σ H Q I q
  have hn := I.hok.fresh (Nat.le_refl s.heap.objs.size)
  have I1 := I.laid (a := s.heap.objs.size) (o := .dK []) (h' := s.heap.push { cls := .type "dict", data := .dict #[] }) (t' := s.toks) (fun _ _ q => Heap.get?_push_of_some _ q) (Nat.le_refl _) (dk_empty s.heap I.big)
  refine wpAny_Dict_walk (knd := mixKind X.prog X.w) hall hl h0 h15 (thn (h pins _ σ _ _ I1 (q _ hn)) fun ws s2 ⟨ps, H2, I2, rel, e, kvs, ep, lk, q2⟩ => ?_)
  subst ep
  obtain ⟨rs, c, rk⟩ := carries_of (P := X.prog) (w := X.w) rel
  obtain ⟨z, hd, vs0, r0, dd⟩ := dk_of I2.hok e
  cases r0
  refine ⟨rs, c, dd, fun h' dd' hs => ⟨.ref s.heap.objs.size, _, ?_, rfl, q2⟩⟩
  have hz : (mergeK [] kvs).length ≤ sizeLine := by
    have h1 := length_mergeK kvs []
    rw [List.length_nil] at h1
    rw [sizeLine_eq]; omega
  have he : ∃ q, h'.get? s.heap.objs.size = some q := let ⟨q, _, _, hq, _⟩ := dd'; ⟨q, hq⟩
  exact d_write I2 (by rw [e]; exact True.intro) hs he (dk_new hz hd (rk.merge .nil) dd')


/-! ### methods -/
/-- a method call o.m(e) of a built-in, with one argument: what must be seen of the text -/
structure M1 (X : Cx) (o : Expr) (m : Str) (apos : Pos) (e : Expr) (cpos : Pos) : Prop where
  base : attributeBase o m X.env (eval o X.env) = eval o X.env
  few : ((backTo cpos (starEach [e] X.env)).all (fun x => !x.1) && (backToKw cpos (keywordEach [] X.env)).all (fun x => x.1.isSome)
    && decide (([e] : List Expr).length + ([] : List Keyword).length + (if ([] : List Keyword).isEmpty then 0 else 1) < 30)) = true
  line : (apos.endLine == cpos.line) = true
  trees : backTo cpos (starEach [e] X.env) = [(false, eval e X.env)]
structure M2 (X : Cx) (o : Expr) (m : Str) (apos : Pos) (e f : Expr) (cpos : Pos) : Prop where
  base : attributeBase o m X.env (eval o X.env) = eval o X.env
  few : ((backTo cpos (starEach [e, f] X.env)).all (fun x => !x.1) && (backToKw cpos (keywordEach [] X.env)).all (fun x => x.1.isSome)
    && decide (([e, f] : List Expr).length + ([] : List Keyword).length + (if ([] : List Keyword).isEmpty then 0 else 1) < 30)) = true
  line : (apos.endLine == cpos.line) = true
  trees : backTo cpos (starEach [e, f] X.env) = [(false, eval e X.env), (false, eval f X.env)]

/-- a is a dict, whatever its keys -/
def IsD (H : Hp) (a : Addr) : Prop := (∃ kvs, Rd H a (.dK kvs)) ∨ ∃ kvs, Rd H a (.dT kvs)
theorem isD_at {X : Cx} {pins : List (Addr × Obj)} {σ : St} {H : Hp} {s : Shared} {a : Addr} (I : Inv X pins σ H s) (d : IsD H a) :
    s.TypeIs (.ref a) "dict" ∧ (∀ b, Value.ref a = .ref b → ∃ ob, s.heap.get? b = some ob ∧ ob.dict = none) ∧ (a == sysModules) = false := by
  rcases d with ⟨kvs, e⟩ | ⟨kvs, e⟩
  · obtain ⟨_, hd, vs, _, dd⟩ := dk_rd I.hok e
    refine ⟨dd.typeIs, fun b q => ?_, hd⟩
    cases q
    obtain ⟨ob, _, _, h1, h2, _⟩ := dd
    exact ⟨ob, h1, h2.2.1⟩
  · obtain ⟨_, hd, xs, _, dd⟩ := dt_rd I.hok e
    refine ⟨dd.typeIs, fun b q => ?_, hd⟩
    cases q
    obtain ⟨ob, _, _, h1, h2, _⟩ := dd
    exact ⟨ob, h1, h2.2.1⟩

section
variable {X : Cx} {pins : List (Addr × Obj)} {σ : St} {H : Hp} {s : Shared} {a : Addr} {y d : V} {u r : Value} {o : Option V} {A : Around} {E : Value → Shared → Prop}
/-- d.get(y) -/
theorem d_get1 {Q : Value → Shared → Prop} (hu : A.units + 1 < cLine) (I : Inv X pins σ H s) (g : DGet H a y o) (ry : RelV y u) (h : ∀ w' s', Inv X pins σ H s' → RelV (o.getD .non) w' → Q w' s') :
    wpAny (model X.prog X.w) A (call (.builtin "dict.get") [.ref a, u]) Q E s := by
  rcases g with ⟨kvs, k, e, ey, l⟩ | ⟨kvs, k, b, e, ey, eb, l⟩
  · subst ey
    obtain ⟨z, hd, vs, rel, dd⟩ := dk_rd I.hok e
    refine call_meetsIn PySem.F.slot_dict_get dd.typeIs PySem.F.entry_dict_get (PySem.F.args_dict_get_2 _ _) (meets_dict_get (mixKind X.prog X.w) a (kV_is ry) hd) ⟨_, dd.mapOf, h _ _ (I.tok _) ?_⟩
    rw [l]
    exact (rel.val k).getD rfl
  · subst ey
    cases (show u = Value.ref b from ry)
    obtain ⟨z, hd, xs, rel, dd⟩ := dt_rd I.hok e
    refine call_meetsIn PySem.F.slot_dict_get dd.typeIs PySem.F.entry_dict_get (PySem.F.args_dict_get_2 _ _) (meetsH_dict_get (tupleKind (mixKind X.prog X.w)) a b hd) ⟨tupleKind_room_in1 hu, k, xs, key_of I.hok eb, dd, h _ _ (I.tok _) ?_⟩
    rw [l]
    exact (rel.val k).getD rfl
/-- d.get(y, x) -/
theorem d_get2 {Q : Value → Shared → Prop} (hu : A.units + 1 < cLine) (I : Inv X pins σ H s) (g : DGet H a y o) (ry : RelV y u) (rd : RelV d r) (h : ∀ w' s', Inv X pins σ H s' → RelV (o.getD d) w' → Q w' s') :
    wpAny (model X.prog X.w) A (call (.builtin "dict.get") [.ref a, u, r]) Q E s := by
  rcases g with ⟨kvs, k, e, ey, l⟩ | ⟨kvs, k, b, e, ey, eb, l⟩
  · subst ey
    obtain ⟨z, hd, vs, rel, dd⟩ := dk_rd I.hok e
    refine call_meetsIn PySem.F.slot_dict_get dd.typeIs PySem.F.entry_dict_get (PySem.F.args_dict_get_3 _ _ _) (meets_dict_get_default (mixKind X.prog X.w) a (kV_is ry) hd r) ⟨_, dd.mapOf, h _ _ (I.tok _) ?_⟩
    rw [l]
    exact (rel.val k).getD rd
  · subst ey
    cases (show u = Value.ref b from ry)
    obtain ⟨z, hd, xs, rel, dd⟩ := dt_rd I.hok e
    refine call_meetsIn PySem.F.slot_dict_get dd.typeIs PySem.F.entry_dict_get (PySem.F.args_dict_get_3 _ _ _) (meetsH_dict_get_default (tupleKind (mixKind X.prog X.w)) a b hd r) ⟨tupleKind_room_in1 hu, k, xs, key_of I.hok eb, dd, h _ _ (I.tok _) ?_⟩
    rw [l]
    exact (rel.val k).getD rd
end

def tDGet1 (td ty : TE) : TE := fun σ H Q => td σ H fun x H1 => ∃ a, x = .ref a ∧ IsD H1 a ∧ ty σ H1 fun y H2 => ∃ o, DGet H2 a y o ∧ Q (o.getD .non) H2
def tDGet2 (td ty tx : TE) : TE := fun σ H Q => td σ H fun x H1 => ∃ a, x = .ref a ∧ IsD H1 a ∧ ty σ H1 fun y H2 => tx σ H2 fun z H3 => ∃ o, DGet H3 a y o ∧ Q (o.getD z) H3
/-- d.pop(k): there; d.pop(k, x): there or not -/
def tDPop1 (td ty : TE) : TE := fun σ H Q => td σ H fun x H1 => ∃ a, x = .ref a ∧ IsD H1 a ∧ ty σ H1 fun y H2 => ∃ kvs k v, H2 a = some (.dK kvs) ∧ y = kV k ∧ valV kvs k = some v ∧ Q v (upd H2 a (.dK (dropK kvs k)))
def tDPop2 (td ty tx : TE) : TE := fun σ H Q => td σ H fun x H1 => ∃ a, x = .ref a ∧ IsD H1 a ∧ ty σ H1 fun y H2 => tx σ H2 fun z H3 => ∃ kvs k, H3 a = some (.dK kvs) ∧ y = kV k ∧
  (∀ v, valV kvs k = some v → Q v (upd H3 a (.dK (dropK kvs k)))) ∧ (valV kvs k = none → Q z H3)
section
variable {X : Cx} {o e f : Expr} {apos cpos : Pos} {td ty tx : TE}
theorem pe_dget1 (hu : X.A.units + 1 < cLine) (ho : PE X o td) (he : PE X e ty) (m : M1 X o "get" apos e cpos) : PE X (.Call (.Attribute o "get" apos) [e] [] cpos) (tDGet1 td ty) := by
  intro pins s σ H Q I h
  refine wpAny_Call_method m.base m.few m.line PySem.F.plainAttrs_dict PySem.F.slot_dict_get PySem.F.type_dict_get (thn (ho pins s σ H _ I h) fun u s1 ⟨x, H1, I1, rx, a, ex, d, q1⟩ => ?_)
  subst ex
  obtain rfl : u = Value.ref a := rx
  obtain ⟨t1, t2, _⟩ := isD_at I1 d
  refine ⟨t1, t2, ?_⟩
  rw [m.trees]
  refine Calls.callWith_builtin rfl (Calls.evalArgs_plain (Calls.spliced_cons (thn (he pins s1 σ H1 _ I1 q1) fun iv s2 ⟨y, H2, I2, ry, ov, g, q2⟩ => Calls.spliced_nil ?_)))
  exact d_get1 hu I2 g ry fun w' s3 I3 rw' => ⟨_, H2, I3, rw', q2⟩
theorem pe_dget2 (hu : X.A.units + 1 < cLine) (ho : PE X o td) (he : PE X e ty) (hf : PE X f tx) (m : M2 X o "get" apos e f cpos) : PE X (.Call (.Attribute o "get" apos) [e, f] [] cpos) (tDGet2 td ty tx) := by
  intro pins s σ H Q I h
  refine wpAny_Call_method m.base m.few m.line PySem.F.plainAttrs_dict PySem.F.slot_dict_get PySem.F.type_dict_get (thn (ho pins s σ H _ I h) fun u s1 ⟨x, H1, I1, rx, a, ex, d, q1⟩ => ?_)
  subst ex
  obtain rfl : u = Value.ref a := rx
  obtain ⟨t1, t2, _⟩ := isD_at I1 d
  refine ⟨t1, t2, ?_⟩
  rw [m.trees]
  refine Calls.callWith_builtin rfl (Calls.evalArgs_plain (Calls.spliced_cons (thn (he pins s1 σ H1 _ I1 q1) fun iv s2 ⟨y, H2, I2, ry, q2⟩ =>
    Calls.spliced_cons (thn (hf pins s2 σ H2 _ I2 q2) fun fv s3 ⟨z, H3, I3, rz, ov, g, q3⟩ => Calls.spliced_nil ?_))))
  exact d_get2 hu I3 g ry rz fun w' s4 I4 rw' => ⟨_, H3, I4, rw', q3⟩
theorem pe_dpop1 (ho : PE X o td) (he : PE X e ty) (m : M1 X o "pop" apos e cpos) : PE X (.Call (.Attribute o "pop" apos) [e] [] cpos) (tDPop1 td ty) := by
  intro pins s σ H Q I h
  refine wpAny_Call_method m.base m.few m.line PySem.F.plainAttrs_dict PySem.F.slot_dict_pop PySem.F.type_dict_pop (thn (ho pins s σ H _ I h) fun u s1 ⟨x, H1, I1, rx, a, ex, d, q1⟩ => ?_)
  subst ex
  obtain rfl : u = Value.ref a := rx
  obtain ⟨t1, t2, _⟩ := isD_at I1 d
  refine ⟨t1, t2, ?_⟩
  rw [m.trees]
  refine Calls.callWith_builtin rfl (Calls.evalArgs_plain (Calls.spliced_cons (thn (he pins s1 σ H1 _ I1 q1) fun iv s2 ⟨y, H2, I2, ry, kvs, k, v, ea, ey, l, q2⟩ => Calls.spliced_nil ?_)))
  subst ey
  exact d_pop I2 ea ry l (.inl rfl) fun w' s3 I3 rw' => ⟨v, _, I3, rw', q2⟩
theorem pe_dpop2 (ho : PE X o td) (he : PE X e ty) (hf : PE X f tx) (m : M2 X o "pop" apos e f cpos) : PE X (.Call (.Attribute o "pop" apos) [e, f] [] cpos) (tDPop2 td ty tx) := by
  intro pins s σ H Q I h
  refine wpAny_Call_method m.base m.few m.line PySem.F.plainAttrs_dict PySem.F.slot_dict_pop PySem.F.type_dict_pop (thn (ho pins s σ H _ I h) fun u s1 ⟨x, H1, I1, rx, a, ex, d, q1⟩ => ?_)
  subst ex
  obtain rfl : u = Value.ref a := rx
  obtain ⟨t1, t2, _⟩ := isD_at I1 d
  refine ⟨t1, t2, ?_⟩
  rw [m.trees]
  refine Calls.callWith_builtin rfl (Calls.evalArgs_plain (Calls.spliced_cons (thn (he pins s1 σ H1 _ I1 q1) fun iv s2 ⟨y, H2, I2, ry, q2⟩ =>
    Calls.spliced_cons (thn (hf pins s2 σ H2 _ I2 q2) fun fv s3 ⟨z, H3, I3, rz, kvs, k, ea, ey, q3, q4⟩ => Calls.spliced_nil ?_))))
  subst ey
  cases l : valV kvs k with
  | some v => exact d_pop I3 ea ry l (.inr ⟨fv, rfl⟩) fun w' s4 I4 rw' => ⟨v, _, I4, rw', q3 v l⟩
  | none => exact d_popD I3 ea ry l fun s4 I4 => ⟨z, H3, I4, rz, q4 l⟩
end

/-! ### dict(d): a copy -/
section
variable {X : Cx} {pins : List (Addr × Obj)} {σ : St} {H : Hp} {s : Shared} {a : Addr} {kvs : List (Key × V)} {A : Around} {E : Value → Shared → Prop}
theorem d_copyOf {Q : Value → Shared → Prop} (I : Inv X pins σ H s) (e : Rd H a (.dK kvs)) (h : ∀ p s', H p = none → Inv X pins σ (upd H p (.dK kvs)) s' → Q (.ref p) s') : wpAny (model X.prog X.w) A (call (.type "dict") [.ref a]) Q E s := by
  obtain ⟨z, hd, vs, rel, dd⟩ := dk_rd I.hok e
  refine kt_call_dict hd dd (by rw [← rel.length]; exact z) fun h' dd' hs => ?_
  refine h _ _ (I.hok.fresh (Nat.le_refl _)) (I.laid (a := s.heap.objs.size) (o := .dK kvs) (t' := s.toks) (fun b q hq => ?_) (Nat.le_refl _) (dk_new z (beq_eq_false_iff_ne.mpr (Ne.symm (Nat.ne_of_lt I.big))) rel dd'))
  exact (hs.2 b (Nat.ne_of_lt (Heap.lt_size hq))).trans (Heap.get?_push_of_some _ hq)
end


section
variable {X : Cx} {pins : List (Addr × Obj)} {σ : St} {H : Hp} {s : Shared} {a : Addr} {y : V} {u : Value} {A : Around} {E : Value → Shared → Prop}
/-- d[y], not there: a KeyError -/
theorem d_missing {Q : Value → Shared → Prop} (hu : A.units + 1 < cLine) (hh : A.handled = none) (I : Inv X pins σ H s) (g : DGet H a y none) (ry : RelV y u)
    (h : ∀ h' e t', Heap.NewExc s.heap h' e "KeyError" → E (.ref e) { s with heap := h', toks := t' }) : wpAny (model X.prog X.w) A (getItem (.ref a) u) Q E s := by
  rcases g with ⟨kvs, k, e, ey, l⟩ | ⟨kvs, k, b, e, ey, eb, l⟩
  · subst ey
    obtain ⟨z, hd, vs, rel, dd⟩ := dk_rd I.hok e
    have hn : valueAt vs k = none := RelO.none_of (by rw [l]; exact rel.val k)
    exact wpAny_getItem_missing_of (kV_is ry) hd hh dd.mapOf hn fun h' ex ne => h h' ex _ ne
  · subst ey
    cases (show u = Value.ref b from ry)
    obtain ⟨z, hd, xs, rel, dd⟩ := dt_rd I.hok e
    have hn : (atKey xs k).map (·.2) = none := RelO.none_of (by rw [l]; exact rel.val k)
    exact wpAny_getItem_missing_heap (tupleKind_room_in1 hu) (key_of I.hok eb) hd hh dd (Option.map_eq_none_iff.mp hn) fun h' ex ne => h h' ex _ ne
end
end L2

set_option Elab.async false
set_option linter.all false
set_option maxRecDepth 100000
set_option maxHeartbeats 4000000
namespace K5
open PySem L2 K4 PySem.W
open PyProof.Rows (envOfC)
abbrev sSgn : Stmt := top 20
abbrev sIn : Stmt := top 21
abbrev sOut : Stmt := top 22
abbrev sPlace : Stmt := top 23
abbrev sText : Stmt := top 24
abbrev sLaw : Stmt := top 25
/-! ### the law's words -/
def nm : P5.A → Str
  | .row => "row" | .piece => "piece" | .behind => "piece behind" | .stroke => "stroke" | .first => "first" | .item => "item" | .items => "items" | .esc => "escape" | .second => "second" | .secesc => "second escape" | .bad => "bad"
theorem occ3 : ∀ c, c < 127 → (!(Builtin.Str.occurrences ("]-~" : Str) (one c) 0 ("]-~" : Str).length 1).isEmpty) = P5.e3 c := by decide +kernel
theorem occ2 : ∀ c, c < 127 → (!(Builtin.Str.occurrences ("]-" : Str) (one c) 0 ("]-" : Str).length 1).isEmpty) = P5.e2 c := by decide +kernel
theorem occM : ∀ c, c < 127 → (!(Builtin.Str.occurrences ("*+?" : Str) (one c) 0 ("*+?" : Str).length 1).isEmpty) = P5.mk c := by decide +kernel
section
variable {P : Program} {w : World} {K : Frag} {mg : Str → Option Value} {base : Heap} {aE f C : Addr} {fd : FuncData}
def spIn : Sp := fun vs H Q _ => ∃ (a : P5.A) (c : Nat) (lo : Str), vs = [.str (nm a), .str (one c), .str lo] ∧ a.outer = false ∧ a ≠ .bad ∧ c < 127 ∧
  ∀ p lo' H', Same H H' → cod lo' = (P5.inb a c (cod lo)).2 → H' p = some (.tup [.str (nm (P5.inb a c (cod lo)).1), .str lo']) → Q (.ref p) H'
theorem scIn : FnScope ["_law_state", "_law_sign_here", "_law_low"] ["_law_state", "_law_sign_here", "_law_low"] (defScope sIn) := ⟨rfl, rfl, rfl, by decide +kernel, rfl, by decide +kernel, by decide +kernel⟩
theorem ok_in (F : Fun K "_law_in_brackets" "_law_in_brackets" sIn f fd) : FnOk P w K mg base CX0 1 f fd ["_law_state", "_law_sign_here", "_law_low"] spIn := by
  refine F.ok scIn (fun vs H Q E h => ?_) (fun cdv A outer s H vs Q E hr h => ?_)
  · obtain ⟨a, c, lo, rfl, _⟩ := h; rfl
  · obtain ⟨a, c, lo, rfl, ho, hb, hc, q⟩ := h
    refine ⟨_, pss_cons (ps_if (pt_cmpR op_eq (pv 0) pe_str (nomark _))
        (pss_cons (ps_if (pt_cmpR op_notIn_str (pv 1) pe_str rfl) (pss_one (ps_ret (pe_tup (pa_cons pe_str (pa_cons pe_str pa_nil))))) pss_nil) (pss_one (ps_ret (pe_tup (pa_cons pe_str (pa_cons (pv 1) pa_nil)))))) pss_nil)
      (pss_cons (ps_if (pt_cmpR op_eq (pv 0) pe_str (nomark _))
        (pss_cons (ps_if (PW.pt (pw_or (pt_cmpR op_notIn_str (pv 1) pe_str rfl) (pw_or1 (pt_cmpR op_lt_str (pv 1) (pv 2) (nomark _))))) (pss_one (ps_ret (pe_tup (pa_cons pe_str (pa_cons pe_str pa_nil))))) pss_nil) (pss_one (ps_ret (pe_tup (pa_cons pe_str (pa_cons pe_str pa_nil)))))) pss_nil)
      (pss_cons (ps_if (pt_cmpR op_eq (pv 0) pe_str (nomark _))
        (pss_cons (ps_if (pt_cmpR op_eq (pv 1) pe_str (nomark _)) (pss_one (ps_ret (pe_tup (pa_cons pe_str (pa_cons (pv 2) pa_nil))))) pss_nil)
        (pss_cons (ps_if (PW.pt (pw_or (pt_cmpR op_in_str (pv 1) pe_str rfl) (pw_or1 (pt_cmpR op_lt_str (pv 1) (pv 2) (nomark _))))) (pss_one (ps_ret (pe_tup (pa_cons pe_str (pa_cons pe_str pa_nil))))) pss_nil) (pss_one (ps_ret (pe_tup (pa_cons pe_str (pa_cons pe_str pa_nil))))))) pss_nil)
      (pss_cons (ps_if (PW.pt (pw_and (pt_cmpR op_eq (pv 0) pe_str (nomark _)) (pw_and1 (pt_cmpR op_eq (pv 1) pe_str (nomark _))))) (pss_one (ps_ret (pe_tup (pa_cons pe_str (pa_cons (pv 2) pa_nil))))) pss_nil)
      (pss_cons (ps_if (PW.pt (pw_and (pt_cmpR op_ne (pv 0) pe_str (nomark _)) (pw_and1 (pt_cmpR op_eq (pv 1) pe_str (nomark _))))) (pss_one (ps_ret (pe_tup (pa_cons pe_str (pa_cons pe_str pa_nil))))) pss_nil)
      (pss_cons (ps_if (pt_cmpR op_eq (pv 1) pe_str (nomark _)) (pss_one (ps_ret (pe_tup (pa_cons pe_str (pa_cons pe_str pa_nil))))) pss_nil)
      (pss_cons (ps_if (pt_cmpR op_in_str (pv 1) pe_str rfl) (pss_one (ps_ret (pe_tup (pa_cons pe_str (pa_cons pe_str pa_nil))))) pss_nil)
      (pss_one (ps_ret (pe_tup (pa_cons pe_str (pa_cons (pv 1) pa_nil))))))))))), ?_⟩
    have tup : ∀ (a' : P5.A) (l' : List Nat) (lo' : Str), P5.inb a c (cod lo) = (a', l') → cod lo' = l' → ∀ p, H p = none → Q (.ref p) (upd H p (.tup [.str (nm a'), .str lo'])) := fun a' l' lo' e e2 p hp => q p lo' _ (same_new hp _) (by rw [e]; exact e2) (by rw [e]; exact upd_same)
    have two : 2 ≤ sizeLine := by decide
    have eq : ∀ d : Nat, decide (V.str (one c) = V.str (one d)) = decide (c = d) := fun d => by
      by_cases h : c = d
      · rw [h]; simp
      · rw [str_ne h, decide_eq_false h]
    cases a with
    | row => cases ho
    | piece => cases ho
    | behind => cases ho
    | stroke => cases ho
    | bad => exact absurd rfl hb
    | esc =>
      refine ⟨_, rfl, rfl, true, rfl, iteT ?_⟩
      refine ⟨_, rfl, one c, "]-~", rfl, rfl, !P5.e3 c, congrArg V.bl (congrArg (!·) (occ3 c hc)), ?_⟩
      cases he : P5.e3 c with
      | false => refine iteT ?_; exact ⟨two, fun p hp => tup .bad [] "" (by simp [P5.inb, he]) rfl p hp⟩
      | true => refine iteF ?_; exact ⟨_, rfl, two, fun p hp => tup .item [c] (one c) (by simp [P5.inb, he]) rfl p hp⟩
    | secesc =>
      refine ⟨_, rfl, rfl, false, rfl, iteF ?_⟩
      refine ⟨_, rfl, rfl, true, rfl, iteT ?_⟩
      refine ⟨_, rfl, one c, "]-~", rfl, rfl, !P5.e3 c, congrArg V.bl (congrArg (!·) (occ3 c hc)), ?_⟩
      cases he : P5.e3 c with
      | false => refine iteT (iteT ?_); exact ⟨two, fun p hp => tup .bad [] "" (by simp [P5.inb, he]) rfl p hp⟩
      | true =>
        refine iteF ?_
        refine ⟨_, rfl, _, rfl, _, _, rfl, rfl, decide ([c] < cod lo), rfl, ?_⟩
        refine ite2 (fun h => ?_) (fun h => ?_)
        · have h' := of_decide_eq_true h
          exact ⟨two, fun p hp => tup .bad [] "" (by simp [P5.inb, he, h']) rfl p hp⟩
        · have h' : ¬ [c] < cod lo := fun z => h (decide_eq_true z)
          exact ⟨two, fun p hp => tup .items [] "" (by simp [P5.inb, he, h']) rfl p hp⟩
    | second =>
      refine ⟨_, rfl, rfl, false, rfl, iteF ?_⟩
      refine ⟨_, rfl, rfl, false, rfl, iteF ?_⟩
      refine ⟨_, rfl, rfl, true, rfl, iteT ?_⟩
      refine ⟨_, rfl, rfl, decide (c = 126), congrArg V.bl (eq 126), ?_⟩
      refine ite2 (fun h => ?_) (fun h => ?_)
      · have h' := of_decide_eq_true h
        exact ⟨_, rfl, two, fun p hp => tup .secesc (cod lo) lo (by simp [P5.inb, h']) rfl p hp⟩
      · have h' : ¬ c = 126 := fun z => h (decide_eq_true z)
        refine ⟨_, rfl, one c, "]-", rfl, rfl, P5.e2 c, congrArg V.bl (occ2 c hc), ?_⟩
        cases he : P5.e2 c with
        | true => refine iteT (iteT ?_); exact ⟨two, fun p hp => tup .bad [] "" (by simp [P5.inb, he, h']) rfl p hp⟩
        | false =>
          refine iteF ?_
          refine ⟨_, rfl, _, rfl, _, _, rfl, rfl, decide ([c] < cod lo), rfl, ?_⟩
          refine ite2 (fun h => ?_) (fun h => ?_)
          · have h2 := of_decide_eq_true h
            exact ⟨two, fun p hp => tup .bad [] "" (by simp [P5.inb, he, h', h2]) rfl p hp⟩
          · have h2 : ¬ [c] < cod lo := fun z => h (decide_eq_true z)
            exact ⟨two, fun p hp => tup .items [] "" (by simp [P5.inb, he, h', h2]) rfl p hp⟩
    | first =>
      refine ⟨_, rfl, rfl, false, rfl, iteF ?_⟩
      refine ⟨_, rfl, rfl, false, rfl, iteF ?_⟩
      refine ⟨_, rfl, rfl, false, rfl, iteF ?_⟩
      refine ⟨_, rfl, rfl, false, rfl, iteF (iteF ?_)⟩
      refine ⟨_, rfl, rfl, false, rfl, iteF (iteF ?_)⟩
      refine ⟨_, rfl, rfl, decide (c = 126), congrArg V.bl (eq 126), ?_⟩
      refine ite2 (fun h => ?_) (fun h => ?_)
      · have h' := of_decide_eq_true h
        exact ⟨two, fun p hp => tup .esc [] "" (by simp [P5.inb, h']) rfl p hp⟩
      · have h' : ¬ c = 126 := fun z => h (decide_eq_true z)
        refine ⟨_, rfl, one c, "]-", rfl, rfl, P5.e2 c, congrArg V.bl (occ2 c hc), ?_⟩
        cases he : P5.e2 c with
        | true => refine iteT ?_; exact ⟨two, fun p hp => tup .bad [] "" (by simp [P5.inb, he, h']) rfl p hp⟩
        | false => refine iteF ?_; exact ⟨_, rfl, two, fun p hp => tup .item [c] (one c) (by simp [P5.inb, he, h']) rfl p hp⟩
    | items =>
      refine ⟨_, rfl, rfl, false, rfl, iteF ?_⟩
      refine ⟨_, rfl, rfl, false, rfl, iteF ?_⟩
      refine ⟨_, rfl, rfl, false, rfl, iteF ?_⟩
      refine ⟨_, rfl, rfl, false, rfl, iteF (iteF ?_)⟩
      refine ⟨_, rfl, rfl, true, rfl, iteT ?_⟩
      refine ⟨_, rfl, rfl, decide (c = 93), congrArg V.bl (eq 93), ?_⟩
      refine ite2 (fun h93 => ?_) (fun h93 => ?_)
      · have h93' := of_decide_eq_true h93
        exact ⟨two, fun p hp => tup .piece [] "" (by simp [P5.inb, h93']) rfl p hp⟩
      · have h93' : ¬ c = 93 := fun z => h93 (decide_eq_true z)
        refine ⟨_, rfl, rfl, decide (c = 126), congrArg V.bl (eq 126), ?_⟩
        refine ite2 (fun h => ?_) (fun h => ?_)
        · have h' := of_decide_eq_true h
          exact ⟨two, fun p hp => tup .esc [] "" (by simp [P5.inb, h93', h']) rfl p hp⟩
        · have h' : ¬ c = 126 := fun z => h (decide_eq_true z)
          refine ⟨_, rfl, one c, "]-", rfl, rfl, P5.e2 c, congrArg V.bl (occ2 c hc), ?_⟩
          cases he : P5.e2 c with
          | true => refine iteT ?_; exact ⟨two, fun p hp => tup .bad [] "" (by simp [P5.inb, h93', he, h']) rfl p hp⟩
          | false => refine iteF ?_; exact ⟨_, rfl, two, fun p hp => tup .item [c] (one c) (by simp [P5.inb, h93', he, h']) rfl p hp⟩
    | item =>
      refine ⟨_, rfl, rfl, false, rfl, iteF ?_⟩
      refine ⟨_, rfl, rfl, false, rfl, iteF ?_⟩
      refine ⟨_, rfl, rfl, false, rfl, iteF ?_⟩
      refine ⟨_, rfl, rfl, true, rfl, iteT ?_⟩
      refine ⟨_, rfl, rfl, decide (c = 45), congrArg V.bl (eq 45), ?_⟩
      refine ite2 (fun h45 => ?_) (fun h45 => ?_)
      · have h45' := of_decide_eq_true h45
        exact ⟨_, rfl, two, fun p hp => tup .second (cod lo) lo (by simp [P5.inb, h45']) rfl p hp⟩
      · have h45' : ¬ c = 45 := fun z => h45 (decide_eq_true z)
        refine ⟨_, rfl, rfl, true, rfl, iteT ?_⟩
        refine ⟨_, rfl, rfl, decide (c = 93), congrArg V.bl (eq 93), ?_⟩
        refine ite2 (fun h93 => ?_) (fun h93 => ?_)
        · have h93' := of_decide_eq_true h93
          exact ⟨two, fun p hp => tup .piece [] "" (by simp [P5.inb, h93', h45']) rfl p hp⟩
        · have h93' : ¬ c = 93 := fun z => h93 (decide_eq_true z)
          refine ⟨_, rfl, rfl, decide (c = 126), congrArg V.bl (eq 126), ?_⟩
          refine ite2 (fun h => ?_) (fun h => ?_)
          · have h' := of_decide_eq_true h
            exact ⟨two, fun p hp => tup .esc [] "" (by simp [P5.inb, h93', h45', h']) rfl p hp⟩
          · have h' : ¬ c = 126 := fun z => h (decide_eq_true z)
            refine ⟨_, rfl, one c, "]-", rfl, rfl, P5.e2 c, congrArg V.bl (occ2 c hc), ?_⟩
            cases he : P5.e2 c with
            | true => refine iteT ?_; exact ⟨two, fun p hp => tup .bad [] "" (by simp [P5.inb, h93', h45', he, h']) rfl p hp⟩
            | false => refine iteF ?_; exact ⟨_, rfl, two, fun p hp => tup .item [c] (one c) (by simp [P5.inb, h93', h45', he, h']) rfl p hp⟩
end
end K5

set_option Elab.async false
set_option linter.all false
set_option maxRecDepth 100000
set_option maxHeartbeats 4000000
namespace K5
open PySem L2 K4
open PyProof.Rows (envOfC)
section
variable {P : Program} {w : World} {K : PySem.W.Frag} {mg : Str → Option Value} {base : Heap} {aE f C : Addr} {fd : FuncData}
def spOut : Sp := fun vs H Q _ => ∃ (a : P5.A) (c : Nat) (d : Int), vs = [.str (nm a), .str (one c), .int d] ∧ a.outer = true ∧ c < 127 ∧
  ∀ p H', Same H H' → H' p = some (.tup [.str (nm (P5.out a c d).1), .int (P5.out a c d).2]) → Q (.ref p) H'
theorem scOut : FnScope ["_law_state", "_law_sign_here", "_law_deep"] ["_law_state", "_law_sign_here", "_law_deep"] (defScope sOut) := ⟨rfl, rfl, rfl, by decide +kernel, rfl, by decide +kernel, by decide +kernel⟩
theorem at2 (x y : V) (b : Bool) : atI [x, y] (if b then 1 else 0) = some (if b then y else x) := by cases b <;> rfl
theorem get2 (c : Nat) : (valV [((Sum.inr "[" : Key), V.str "first"), (Sum.inr "~", V.str "stroke")] (Sum.inr (one c))).getD (.str "piece") = V.str (nm (if c = 91 then .first else if c = 126 then .stroke else .piece)) := by
  by_cases h1 : c = 91
  · subst h1; rfl
  · by_cases h2 : c = 126
    · subst h2; rfl
    · have e1 : ¬ ((Sum.inr "[" : Key) = Sum.inr (one c)) := fun z => h1 (K4.one_inj (c := c) (d := 91) (Sum.inr.inj z).symm)
      have e2 : ¬ ((Sum.inr "~" : Key) = Sum.inr (one c)) := fun z => h2 (K4.one_inj (c := c) (d := 126) (Sum.inr.inj z).symm)
      rw [if_neg h1, if_neg h2]
      unfold valV
      simp [e1, e2]
      rfl
theorem last7 : ∃ (j1 j2 j3 j4 j5 : Nat) (p1 p2 p3 p4 p5 p6 p7 p8 p9 p10 p11 p12 : Pos) (k : _), (defBody sOut).getD 6 (.Pass ⟨0, 0, 0, 0⟩) = .Return (some (.Tuple [.Call (.Attribute (.Dict [some (.Constant (.str "[") j1 p1), some (.Constant (.str "~") j2 p2)]
    [.Constant (.str "first") j3 p3, .Constant (.str "stroke") j4 p4] p5) "get" p6) [.Name "_law_sign_here" p7, .Constant (.str "piece") j5 p8] [] p9, .Name "_law_deep" p10] k p11)) p12 ∧ (p6.endLine == p9.line) = true :=
  ⟨_, _, _, _, _, _, _, _, _, _, _, _, _, _, _, _, _, _, rfl, rfl⟩
def gO (i : Nat) : Stmt := (defBody sOut).getD i (.Pass ⟨0, 0, 0, 0⟩)
theorem cut7 : defBody sOut = [gO 0, gO 1, gO 2, gO 3, gO 4, gO 5, gO 6] := by kernel_rfl
end
end K5

set_option Elab.async false
set_option linter.all false
set_option maxRecDepth 100000
set_option maxHeartbeats 4000000
namespace K5
open PySem L2 K4
theorem last7' : ∃ (od : Expr) (j1 j2 j3 j4 j5 : Nat) (p1 p2 p3 p4 p5 p6 p7 p8 p9 p10 p11 p12 : Pos) (k : _), gO 6 = .Return (some (.Tuple [.Call (.Attribute od "get" p6) [.Name "_law_sign_here" p7, .Constant (.str "piece") j5 p8] [] p9, .Name "_law_deep" p10] k p11)) p12 ∧ (p6.endLine == p9.line) = true ∧
    od = .Dict [some (.Constant (.str "[") j1 p1), some (.Constant (.str "~") j2 p2)] [.Constant (.str "first") j3 p3, .Constant (.str "stroke") j4 p4] p5 := by
  obtain ⟨j1, j2, j3, j4, j5, p1, p2, p3, p4, p5, p6, p7, p8, p9, p10, p11, p12, k, e7, ln⟩ := last7
  exact ⟨_, j1, j2, j3, j4, j5, p1, p2, p3, p4, p5, p6, p7, p8, p9, p10, p11, p12, k, e7, ln, rfl⟩
theorem ab_dict {ks : List (Option Expr)} {vs : List Expr} {p : Pos} {m : Str} {env : Env} {w : Sem Value} : attributeBase (.Dict ks vs p) m env w = w := rfl
section
variable {X : Cx}
theorem pe_dict2 {k1 k2 v1 v2 : Expr} {a1 a2 b1 b2 : TE} {pos : Pos} (h1 : PE X k1 a1) (h2 : PE X v1 b1) (h3 : PE X k2 a2) (h4 : PE X v2 b2) : PE X (.Dict [some k1, some k2] [v1, v2] pos) (tDisp [(a1, b1), (a2, b2)]) :=
  pe_disp (pps_cons h1 h2 (pps_cons h3 h4 pps_nil)) rfl rfl (by simp) (show 2 ≤ 15 by decide)
end
section
variable {P : Program} {w : World} {K : PySem.W.Frag} {mg : Str → Option Value} {base : Heap} {aE f C : Addr} {fd : FuncData}
theorem ok_out (F : Fun K "_law_outside" "_law_outside" sOut f fd) (T : Txt K mg aE) : FnOk P w K mg base CX0 1 f fd ["_law_state", "_law_sign_here", "_law_deep"] spOut := by
  refine F.ok scOut (fun vs H Q E h => ?_) (fun cdv A outer s H vs Q E hr h => ?_)
  · obtain ⟨a, c, d, rfl, _⟩ := h; rfl
  · obtain ⟨a, c, d, rfl, ho, hc, q⟩ := h
    have hu := hu_of hr
    obtain ⟨od, j1, j2, j3, j4, j5, p1, p2, p3, p4, p5, p6, p7, p8, p9, p10, p11, p12, k, e7, ln, hod⟩ := last7'
    have b7 := cut7.trans (congrArg (fun x => [gO 0, gO 1, gO 2, gO 3, gO 4, gO 5, x]) e7)
    have hb7 : ∀ {X : Cx}, PE X od (tDisp [(tC (.str "["), tC (.str "first")), (tC (.str "~"), tC (.str "stroke"))]) := fun {X} => by
      rw [hod]
      exact pe_dict2 pe_str pe_str pe_str pe_str
    have hab : ∀ {env : Env}, attributeBase od "get" env (eval od env) = eval od env := fun {env} => by
      rw [hod]
      exact ab_dict
    clear hod
    rw [b7]
    refine ⟨_, pss_cons (ps_if (pt_cmpR op_eq (pv 0) pe_str (nomark _)) (pss_one (ps_ret (pe_tup (pa_cons pe_str (pa_cons (pv 2) pa_nil))))) pss_nil)
      (pss_cons (ps_if (pt_cmpR op_in_str (pv 1) pe_str rfl) (pss_one (ps_ret (pe_tup (pa_cons (pe_ix ix_list (pe_lst (pa_cons pe_str (pa_cons pe_str pa_nil))) (pe_callTy call_int1 rfl T.int PyProof.Rows.boot_int (pa_cons (pe_cmpR op_eq (pv 0) pe_str (nomark _)) pa_nil)) (fun _ _ => rfl)) (pa_cons (pv 2) pa_nil))))) pss_nil)
      (pss_cons (ps_if (pt_cmpR op_eq (pv 1) pe_str (nomark _)) (pss_one (ps_ret (pe_tup (pa_cons pe_str (pa_cons (pe_op op_add (pv 2) pe_int) pa_nil))))) pss_nil)
      (pss_cons (ps_if (pt_cmpR op_eq (pv 1) pe_str (nomark _)) (pss_one (ps_ret (pe_tup (pa_cons (pe_ix ix_list (pe_lst (pa_cons pe_str (pa_cons pe_str pa_nil))) (pe_callTy call_int1 rfl T.int PyProof.Rows.boot_int (pa_cons (pe_cmpR op_gt (pv 2) pe_int (nomark _)) pa_nil)) (fun _ _ => rfl)) (pa_cons (pe_op op_sub (pv 2) pe_int) pa_nil))))) pss_nil)
      (pss_cons (ps_if (pt_cmpR op_eq (pv 1) pe_str (nomark _)) (pss_one (ps_ret (pe_tup (pa_cons pe_str (pa_cons (pv 2) pa_nil))))) pss_nil)
      (pss_cons (ps_if (pt_cmpR op_eq (pv 1) pe_str (nomark _)) (pss_one (ps_ret (pe_tup (pa_cons pe_str (pa_cons (pv 2) pa_nil))))) pss_nil)
      (pss_one (ps_ret (pe_tup (pa_cons (pe_dget2 hu hb7 (pv 1) pe_str ⟨hab, rfl, ln, rfl⟩) (pa_cons (pv 2) pa_nil)))))))))), ?_⟩
    have tup : ∀ (a' : P5.A) (d' : Int), P5.out a c d = (a', d') → ∀ H1, Same H H1 → ∀ p, H1 p = none → Q (.ref p) (upd H1 p (.tup [.str (nm a'), .int d'])) := fun a' d' e H1 s1 p hp => q p _ (s1.trans (same_new hp _)) (by rw [e]; exact upd_same)
    have two : 2 ≤ sizeLine := by decide
    have sm := Same.refl H
    have eq : ∀ d : Nat, decide (V.str (one c) = V.str (one d)) = decide (c = d) := fun d => by
      by_cases h : c = d
      · rw [h]; simp
      · rw [str_ne h, decide_eq_false h]
    by_cases hs : a = .stroke
    · subst hs
      refine ⟨_, rfl, rfl, true, rfl, iteT ?_⟩
      exact ⟨_, rfl, two, fun p hp => tup .piece d rfl H sm p hp⟩
    have hs' : decide (V.str (nm a) = V.str "stroke") = false := by cases a <;> first | rfl | exact absurd rfl hs
    refine ⟨_, rfl, rfl, false, congrArg V.bl hs', iteF ?_⟩
    refine ⟨_, rfl, one c, "*+?", rfl, rfl, P5.mk c, congrArg V.bl (occM c hc), ?_⟩
    cases hm : P5.mk c with
    | true =>
      refine iteT ?_
      refine ⟨two, fun l hl => ⟨_, rfl, rfl, .inr ⟨decide (V.str (nm a) = V.str "piece"), rfl, l, [.str "bad", .str "piece behind"], _, _, rfl, rfl, SqL.of upd_same, at2 _ _ _, ?_⟩⟩⟩
      refine ⟨_, rfl, two, fun p hp => ?_⟩
      have e : (if decide (V.str (nm a) = V.str "piece") then V.str "piece behind" else V.str "bad") = V.str (nm (if a = .piece then .behind else .bad)) := by cases a <;> first | rfl | exact absurd rfl hs
      rw [e]
      exact tup _ _ (by simp [P5.out, hs, hm]) _ (same_new hl _) p hp
    | false =>
    refine iteF ?_
    refine ⟨_, rfl, rfl, decide (c = 40), congrArg V.bl (eq 40), ?_⟩
    refine ite2 (fun h => ?_) (fun h => ?_)
    · have h' := of_decide_eq_true h
      exact ⟨_, rfl, _, _, rfl, rfl, two, fun p hp => tup .row (d + 1) (by rw [h']; simp [P5.out, hs, P5.mk]) H sm p hp⟩
    have h40 : ¬ c = 40 := fun z => h (decide_eq_true z)
    refine ⟨_, rfl, rfl, decide (c = 41), congrArg V.bl (eq 41), ?_⟩
    refine ite2 (fun h => ?_) (fun h => ?_)
    · have h' := of_decide_eq_true h
      refine ⟨two, fun l hl => ⟨_, rfl, _, _, rfl, rfl, .inr ⟨decide (0 < d), rfl, l, [.str "bad", .str "piece"], _, _, rfl, rfl, SqL.of upd_same, at2 _ _ _, ?_⟩⟩⟩
      refine ⟨_, rfl, _, _, rfl, rfl, two, fun p hp => ?_⟩
      have e : (if decide (0 < d) then V.str "piece" else V.str "bad") = V.str (nm (if 0 < d then .piece else .bad)) := by
        by_cases z : 0 < d
        · simp [z]; rfl
        · simp [z]; rfl
      rw [e]
      exact tup _ _ (by rw [h']; simp [P5.out, hs, P5.mk]) _ (same_new hl _) p hp
    have h41 : ¬ c = 41 := fun z => h (decide_eq_true z)
    refine ⟨_, rfl, rfl, decide (c = 124), congrArg V.bl (eq 124), ?_⟩
    refine ite2 (fun h => ?_) (fun h => ?_)
    · have h' := of_decide_eq_true h
      exact ⟨_, rfl, two, fun p hp => tup .row d (by rw [h']; simp [P5.out, hs, P5.mk]) H sm p hp⟩
    have h124 : ¬ c = 124 := fun z => h (decide_eq_true z)
    refine ⟨_, rfl, rfl, decide (c = 93), congrArg V.bl (eq 93), ?_⟩
    refine ite2 (fun h => ?_) (fun h => ?_)
    · have h' := of_decide_eq_true h
      exact ⟨_, rfl, two, fun p hp => tup .bad d (by rw [h']; simp [P5.out, hs, P5.mk]) H sm p hp⟩
    have h93 : ¬ c = 93 := fun z => h (decide_eq_true z)
    intro g hg
    refine ⟨upd_same, [((Sum.inr "[" : Key), V.str "first"), (Sum.inr "~", V.str "stroke")], rfl, by decide, ?_⟩
    have eg : ∀ H2 : Hp, upd H2 g (.dK (mergeK [] [((Sum.inr "[" : Key), V.str "first"), (Sum.inr "~", V.str "stroke")])) g = some (.dK [((Sum.inr "[" : Key), V.str "first"), (Sum.inr "~", V.str "stroke")]) := fun H2 => by
      rw [upd_same]; rfl
    refine ⟨g, rfl, .inl ⟨_, Rd.of (eg _)⟩, _, rfl, _, DGet.k (k := Sum.inr (one c)) (eg _), ?_⟩
    rw [get2 c]
    refine ⟨_, rfl, two, fun p hp => ?_⟩
    exact tup _ _ (by simp [P5.out, hs, hm, h40, h41, h124, h93]) _ (fun b o e => by rw [upd_ne (ne_of_none e hg), upd_ne (ne_of_none e hg)]; exact e) p hp
end
end K5

set_option Elab.async false
set_option linter.all false
set_option maxRecDepth 100000
set_option maxHeartbeats 4000000
namespace K5
open PySem L2 K4
section
variable {P : Program} {w : World} {K : PySem.W.Frag} {mg : Str → Option Value} {base : Heap} {aE f C : Addr} {fd : FuncData}
theorem in_outer (a : P5.A) : inV (.str (nm a)) [.str "row", .str "piece", .str "piece behind", .str "stroke"] = a.outer := by cases a <;> decide +kernel
theorem in_fine (a : P5.A) : inV (.str (nm a)) [.str "row", .str "piece", .str "piece behind"] = a.fine := by cases a <;> decide +kernel
theorem is_bad (a : P5.A) : decide (V.str (nm a) = V.str "bad") = decide (a = .bad) := by cases a <;> decide +kernel
def spPlace : Sp := fun vs H Q _ => ∃ z : Str, vs = [.str z] ∧ z.length ≤ 1000 ∧ (∀ c ∈ cod z, c < 127) ∧ ∀ H', Same H H' → Q (.int (P5.R (cod z) 0 .row 0 [])) H'
theorem scPlace : FnScope ["_law_text_here", "_law_state", "_law_deep", "_law_low", "_law_k"] ["_law_text_here"] (defScope sPlace) := ⟨rfl, rfl, rfl, by decide +kernel, rfl, by decide +kernel, by decide +kernel⟩
theorem ok_place (F : Fun K "_law_place" "_law_place" sPlace f fd) (T : Txt K mg aE) (GO : Callee P w K mg base 1 "_law_outside" ["_law_state", "_law_sign_here", "_law_deep"] spOut) (GI : Callee P w K mg base 1 "_law_in_brackets" ["_law_state", "_law_sign_here", "_law_low"] spIn) :
    FnOk P w K mg base CX0 2 f fd ["_law_text_here"] spPlace := by
  refine F.ok scPlace (fun vs H Q E h => ?_) (fun cdv A outer s H vs Q E hr h => ?_)
  · obtain ⟨z, rfl, _⟩ := h; rfl
  · obtain ⟨z, rfl, hz, hc, q⟩ := h
    have hz6 : z.length ≤ 1000000 := by omega
    refine ⟨_, pss_cons (ps_set (i := 1) scPlace.nd rfl (Or.inl rfl) pe_str) (pss_cons (ps_set (i := 2) scPlace.nd rfl (Or.inl rfl) pe_int) (pss_cons (ps_set (i := 3) scPlace.nd rfl (Or.inl rfl) pe_str)
      (pss_cons (ps_for PassesOwn.never rfl (pi_range1 rfl T.rng (pa_cons (pe_callB call_len_str rfl T.len PySem.boot_len (pa_cons (pv 0) pa_nil)) pa_nil)) (pg_name (i := 4) scPlace.nd rfl (Or.inl rfl))
        (pss_cons (ps_if (pt_cmpR op_in_seq (pv 1) (pe_tup (pa_cons pe_str (pa_cons pe_str (pa_cons pe_str (pa_cons pe_str pa_nil))))) rfl)
          (pss_one (ps_asg (pe_def GO hr rfl (pa_cons (pv 1) (pa_cons (pe_ix ix_str (pv 0) (pv 4) (fun _ _ => rfl)) (pa_cons (pv 2) pa_nil)))) (pg_tup rfl (pgs_cons (pg_name (i := 1) scPlace.nd rfl (Or.inl rfl)) (pgs_cons (pg_name (i := 2) scPlace.nd rfl (Or.inl rfl)) pgs_nil)))))
          (pss_one (ps_asg (pe_def GI hr rfl (pa_cons (pv 1) (pa_cons (pe_ix ix_str (pv 0) (pv 4) (fun _ _ => rfl)) (pa_cons (pv 3) pa_nil)))) (pg_tup rfl (pgs_cons (pg_name (i := 1) scPlace.nd rfl (Or.inl rfl)) (pgs_cons (pg_name (i := 3) scPlace.nd rfl (Or.inl rfl)) pgs_nil))))))
        (pss_one (ps_if (pt_cmpR op_eq (pv 1) pe_str (nomark _)) (pss_one (ps_ret (pv 4))) pss_nil))))
      (pss_cons (ps_if (PW.pt (pw_or (pt_cmpR op_gt (pv 2) pe_int (nomark _)) (pw_or1 (pt_cmpR op_notIn_seq (pv 1) (pe_tup (pa_cons pe_str (pa_cons pe_str (pa_cons pe_str pa_nil)))) rfl)))) (pss_one (ps_ret (pe_callB call_len_str rfl T.len PySem.boot_len (pa_cons (pv 0) pa_nil)))) pss_nil)
      (pss_one (ps_ret (pe_un un_neg pe_int))))))), ?_⟩
    have hl := len_cod z
    refine ⟨_, rfl, z, rfl, small hz6, (z.length : Int), rfl, by omega, by omega, ?_⟩
    refine for_range (n := ((z.length : Nat) : Int).toNat) (fun k σ H2 => ∃ (a : P5.A) (d : Int) (lo : Str) (o : Option V), σ = [some (.str z), some (.str (nm a)), some (.int d), some (.str lo), o] ∧ a ≠ .bad ∧ Same H H2 ∧ P5.R (cod z) 0 .row 0 [] = P5.R (cod z) k a d (cod lo)) ?_ ?_ ?_
    · exact ⟨.row, 0, "", none, rfl, by decide, Same.refl _, rfl⟩
    · rintro i σ H2 hi ⟨a, d, lo, o, rfl, hab, s2, er⟩
      have hi' : i < (cod z).length := by omega
      obtain ⟨c, ec⟩ : ∃ c, (cod z)[i]? = some c := ⟨_, List.getElem?_eq_getElem hi'⟩
      have hcc := hc c (List.mem_of_getElem? ec)
      have eix : atI z.cps.toList (0 + (i : Int)) = some c := by rw [Int.zero_add]; exact item_at ec
      refine ⟨_, rfl, (by show 4 ≤ sizeLine; decide), fun p hp => ⟨p, _, rfl, .inr (SqT.of upd_same), rfl, rfl, a.outer, congrArg V.bl (in_outer a), ?_⟩⟩
      have s3 : Same H (upd H2 p (.tup [.str "row", .str "piece", .str "piece behind", .str "stroke"])) := s2.trans (same_new hp _)
      cases ho : a.outer with
      | true =>
        refine iteT ?_
        refine ⟨_, rfl, _, rfl, _, rfl, z, _, c, rfl, rfl, small hz6, eix, _, rfl, a, c, d, rfl, ho, hcc, fun t H4 s4 e4 => ?_⟩
        refine ⟨t, _, rfl, SqT.of e4, rfl, _, _, rfl, _, _, rfl, rfl, ?_⟩
        refine ⟨_, rfl, rfl, decide ((P5.out a c d).1 = .bad), congrArg V.bl (is_bad _), ?_⟩
        rw [P5.R_out ec ho] at er
        refine ite2 (fun h => ?_) (fun h => ?_)
        · have h' := of_decide_eq_true h
          rw [if_pos h'] at er
          refine ⟨_, rfl, ?_⟩
          have := q H4 (s3.trans s4)
          rw [er] at this
          show Q (.int (0 + (i : Int))) H4
          rw [Int.zero_add]
          exact this
        · have h' : ¬ (P5.out a c d).1 = .bad := fun z => h (decide_eq_true z)
          rw [if_neg h'] at er
          exact ⟨_, _, lo, _, rfl, h', s3.trans s4, er⟩
      | false =>
        refine iteF ?_
        refine ⟨_, rfl, _, rfl, _, rfl, z, _, c, rfl, rfl, small hz6, eix, _, rfl, a, c, lo, rfl, ho, hab, hcc, fun t lo' H4 s4 el e4 => ?_⟩
        refine ⟨t, _, rfl, SqT.of e4, rfl, _, _, rfl, _, _, rfl, rfl, ?_⟩
        refine ⟨_, rfl, rfl, decide ((P5.inb a c (cod lo)).1 = .bad), congrArg V.bl (is_bad _), ?_⟩
        rw [P5.R_in ec ho] at er
        refine ite2 (fun h => ?_) (fun h => ?_)
        · have h' := of_decide_eq_true h
          rw [if_pos h'] at er
          refine ⟨_, rfl, ?_⟩
          have := q H4 (s3.trans s4)
          rw [er] at this
          show Q (.int (0 + (i : Int))) H4
          rw [Int.zero_add]
          exact this
        · have h' : ¬ (P5.inb a c (cod lo)).1 = .bad := fun z => h (decide_eq_true z)
          rw [if_neg h', ← el] at er
          exact ⟨_, d, lo', _, rfl, h', s3.trans s4, er⟩
    · rintro σ H2 ⟨a, d, lo, o, rfl, hab, s2, er⟩
      have en : (cod z)[((z.length : Nat) : Int).toNat]? = none := List.getElem?_eq_none_iff.mpr (by omega)
      rw [P5.R_none en] at er
      have el : ((((z.length : Nat) : Int).toNat : Nat) : Int) = (z.length : Int) := by omega
      rw [el] at er
      refine ⟨_, rfl, _, _, rfl, rfl, decide (0 < d), rfl, ?_⟩
      refine ite2 (fun h => ?_) (fun h => ?_)
      · have h' := of_decide_eq_true h
        rw [if_pos (.inl h')] at er
        refine iteT ⟨_, rfl, z, rfl, small hz6, ?_⟩
        have := q H2 s2
        rw [er] at this
        exact this
      · have h' : ¬ 0 < d := fun z => h (decide_eq_true z)
        refine ⟨_, rfl, (by show 3 ≤ sizeLine; decide), fun p hp => ⟨p, _, rfl, .inr (SqT.of upd_same), rfl, rfl, !a.fine, congrArg V.bl (congrArg (!·) (in_fine a)), ?_⟩⟩
        have s3 : Same H (upd H2 p (.tup [.str "row", .str "piece", .str "piece behind"])) := s2.trans (same_new hp _)
        cases hf : a.fine with
        | false =>
          rw [if_pos (.inr hf)] at er
          refine iteT ⟨_, rfl, z, rfl, small hz6, ?_⟩
          have := q _ s3
          rw [er] at this
          exact this
        | true =>
          rw [if_neg (by rw [hf]; simp [h'])] at er
          refine iteF ⟨1, rfl, ?_⟩
          have := q _ s3
          rw [er] at this
          exact this
end
end K5

set_option Elab.async false
set_option linter.all false
set_option maxRecDepth 100000
set_option maxHeartbeats 4000000
namespace L2
open PySem PySem.Spec PyProof.Rows
/-! ### what follows an if is walked once -/
def tCut (t : TS) : TS := fun D σ H => ∃ R : St → Hp → Prop, t { D with nx := R } σ H ∧ ∀ σ' H', R σ' H' → D.nx σ' H'
theorem ps_cut {X : Cx} {st : Stmt} {t : TS} (h : PS X st t) : PS X st (tCut t) := by
  intro pins s σ H D I ⟨R, q, m⟩
  refine thn (h pins s σ H _ I q) fun f s1 z => ?_
  cases f with
  | next => obtain ⟨σ', H', I', r⟩ := z; exact ⟨σ', H', I', m _ _ r⟩
  | ret v => exact z
  | brk => exact z
  | cont => exact z
/-! ### t[:j] of a text: some of its signs -/
def rSlU : V → Option Int → Option Int → Hp → VK → Prop := fun x lo hi H Q => ∃ (z : Str) (j : Int), x = .str z ∧ lo = none ∧ hi = some j ∧ z.length ≤ sizeLine ∧ ∀ z' : Str, (∀ c ∈ z'.cps.toList, c ∈ z.cps.toList) → z'.length ≤ z.length → Q (.str z') H
theorem sl_strU {X : Cx} : SlR X rSlU := by
  intro pins s σ H x v vl vu lo hi sl Q I rx hs pl pu h
  obtain ⟨z, j, rfl, rfl, rfl, hz, q⟩ := h
  obtain ⟨t, rfl⟩ := rx
  cases pl with
  | none =>
    cases pu with
    | int _ tu =>
      refine ⟨"str", _, F.slot_str_getitem.lookup, typeIs_str s z t, ?_⟩
      refine wpAny_getItem_str_slice (l := none) (u := some (j, tu)) (st := none) hs rfl ?_
      unfold sliceMade
      split
      · exact ⟨.str z, H, I, ⟨_, rfl⟩, q z (fun _ h => h) (Nat.le_refl _)⟩
      · have le : ((slicePicked z none (some (j, tu)) none).filterMap (z.cps[·]?)).length ≤ z.length := Nat.le_trans (List.length_filterMap_le _ _) (sliceIndices_le none (some j) z.length)
        refine ⟨?_, .str _, H, I.tok _, ⟨_, rfl⟩, q _ (fun c hc => ?_) ?_⟩
        · show (List.toArray _).size ≤ sizeLine
          rw [List.size_toArray]
          exact Nat.le_trans le hz
        · have hc' : c ∈ (slicePicked z none (some (j, tu)) none).filterMap (z.cps[·]?) := by simpa using hc
          obtain ⟨k, _, hk⟩ := List.mem_filterMap.mp hc'
          rw [← Array.getElem?_toList] at hk
          exact List.mem_of_getElem? hk
        · show (List.toArray _).size ≤ _
          rw [List.size_toArray]
          exact le
end L2
namespace K5
open PySem L2 K4
/-! ### the signs -/
section
variable {P : Program} {w : World} {K : PySem.W.Frag} {mg : Str → Option Value} {base : Heap} {aE f C : Addr} {fd : FuncData}
def sgn (i : Nat) : Nat := if i < 5 then 32 + i else 33 + i
def sg1 : Str := " !\"#$&'()*+,-./0123456789:;<=>?@ABCDEFGHIJKLMNOPQRSTUVWXYZ[\\]^_`"
def sg2 : Str := "abcdefghijklmnopqrstuvwxyz{|}~"
theorem sg_at : ∀ i, i < 94 → (cod (sg1 ++ sg2))[i]? = some (sgn i) := by decide +kernel
theorem sg_len : (sg1 ++ sg2).length = 94 := by decide +kernel
def spSgn : Sp := fun vs H Q _ => ∃ n : Int, vs = [.int n] ∧ ∀ c, c < 127 → Q (.str (one c)) H
theorem scSgn : FnScope ["_law_cell", "_law_some"] ["_law_cell"] (defScope sSgn) := ⟨rfl, rfl, rfl, by decide +kernel, rfl, by decide +kernel, by decide +kernel⟩
theorem ok_sgn (F : Fun K "_law_sign" "_law_sign" sSgn f fd) : FnOk P w K mg base CX0 1 f fd ["_law_cell"] spSgn := by
  refine F.ok scSgn (fun vs H Q E h => ?_) (fun cdv A outer s H vs Q E hr h => ?_)
  · obtain ⟨n, rfl, _⟩ := h; rfl
  · obtain ⟨n, rfl, q⟩ := h
    refine ⟨_, pss_cons (ps_set (i := 1) scSgn.nd rfl (Or.inl rfl) pe_str) (pss_cons (ps_set (i := 1) scSgn.nd rfl (Or.inl rfl) (pe_op op_add_str (pv 1) pe_str))
      (pss_one (ps_ret (pe_ix ix_str (pv 1) (pe_op op_mod (pv 0) pe_int) (fun _ _ => rfl))))), ?_⟩
    refine ⟨_, rfl, sg1, sg2, rfl, rfl, (by decide +kernel), ?_⟩
    have hat : atI (sg1 ++ sg2).cps.toList (n % 94) = some (sgn (n % 94).toNat) := by
      have e : n % 94 = (((n % 94).toNat : Nat) : Int) := by omega
      have := atI_nat (sg_at (n % 94).toNat (by omega))
      rw [← e] at this
      exact this
    have lt : sgn (n % 94).toNat < 127 := by unfold sgn; split <;> omega
    exact ⟨_, rfl, _, rfl, n, 94, rfl, rfl, (by show (0 : Int) < 94; decide), sg1 ++ sg2, n % 94, _, rfl, rfl, small (by rw [sg_len]; decide), hat, q _ lt⟩
end
end K5

set_option Elab.async false
set_option linter.all false
set_option maxRecDepth 100000
set_option maxHeartbeats 4000000
namespace K5
open PySem L2 K4
section
variable {P : Program} {w : World} {K : PySem.W.Frag} {mg : Str → Option Value} {base : Heap} {aE f C : Addr} {fd : FuncData}
def s13 : Str := "()[]|*+?~ab-c"
theorem at13 (n : Int) : ∃ c, c < 127 ∧ atI s13.cps.toList (n % 13) = some c := by
  have h : ∀ i, i < 13 → ∃ c, c < 127 ∧ (cod s13)[i]? = some c := by
    intro i hi
    have : ∀ i, i < 13 → ((cod s13)[i]?.any (· < 127)) = true := by decide +kernel
    have := this i hi
    cases e : (cod s13)[i]? with
    | none => rw [e] at this; cases this
    | some c => rw [e] at this; exact ⟨c, of_decide_eq_true this, rfl⟩
  obtain ⟨c, hc, e⟩ := h (n % 13).toNat (by omega)
  have e2 : n % 13 = (((n % 13).toNat : Nat) : Int) := by omega
  have := atI_nat e
  rw [← e2] at this
  exact ⟨c, hc, this⟩
theorem at920 (b : Bool) : atI [V.int 9, V.int 20] (if b then 1 else 0) = some (.int (if b then 20 else 9)) := by cases b <;> rfl
def spText (K : PySem.W.Frag) : Sp := fun vs H Q _ => ∃ (a : Addr) (ns : List Int), vs = [.ref a] ∧ SqL K H a (ns.map V.int) ∧ ns.length ≤ 60 ∧ ∀ z H', Same H H' → z.length ≤ 60 → (∀ c ∈ cod z, c < 127) → Q (.str z) H'
theorem scText : FnScope ["_law_cells", "_law_text_here", "_law_deep", "_law_cell", "_law_sign_here"] ["_law_cells"] (defScope sText) := ⟨rfl, rfl, rfl, by decide +kernel, rfl, by decide +kernel, by decide +kernel⟩
theorem ok_text (F : Fun K "_law_text" "_law_text" sText f fd) (T : Txt K mg aE) (GS : Callee P w K mg base 1 "_law_sign" ["_law_cell"] spSgn) : FnOk P w K mg base CX0 2 f fd ["_law_cells"] (spText K) := by
  refine F.ok scText (fun vs H Q E h => ?_) (fun cdv A outer s H vs Q E hr h => ?_)
  · obtain ⟨a, ns, rfl, _⟩ := h; rfl
  · obtain ⟨a, ns, rfl, hS, hn, q⟩ := h
    refine ⟨_, pss_cons (ps_set (i := 1) scText.nd rfl (Or.inl rfl) pe_str) (pss_cons (ps_set (i := 2) scText.nd rfl (Or.inl rfl) pe_int)
      (pss_cons (ps_for PassesOwn.never rfl (pi_list (pv 0)) (pg_name (i := 3) scText.nd rfl (Or.inl rfl))
        (pss_cons (ps_set (i := 4) scText.nd rfl (Or.inl rfl) (pe_ix ix_str pe_str (pe_op op_mod (pv 3) pe_int) (fun _ _ => rfl)))
        (pss_cons (ps_cut (ps_if (pt_cmpR op_eq (pe_op op_mod (pv 3) pe_int) pe_int (nomark _)) (pss_one (ps_set (i := 4) scText.nd rfl (Or.inl rfl) (pe_def GS hr rfl (pa_cons (pe_op op_fdiv (pv 3) pe_int) pa_nil)))) pss_nil))
        (pss_cons (ps_cut (ps_if (pt_cmpR op_eq (pv 4) pe_str (nomark _)) (pss_one (ps_set (i := 2) scText.nd rfl (Or.inl rfl) (pe_op op_add (pv 2) pe_int))) pss_nil))
        (pss_cons (ps_cut (ps_if (PW.pt (pw_and (pt_cmpR op_gt (pv 2) (pe_ix ix_list (pe_lst (pa_cons pe_int (pa_cons pe_int pa_nil))) (pe_callTy call_int1 rfl T.int PyProof.Rows.boot_int (pa_cons (pe_and (pe_cmpR op_gt (pe_callB call_len_seq rfl T.len PySem.boot_len (pa_cons (pv 0) pa_nil)) pe_int (nomark _))
            (pe_one (pe_cmpR op_eq (pe_op op_mod (pe_op op_fdiv (pe_ix ix_list (pv 0) pe_int (fun _ _ => rfl)) pe_int) pe_int) pe_int (nomark _)))) pa_nil)) (fun _ _ => rfl)) (nomark _)) (pw_and1 (pt_cmpR op_eq (pv 4) pe_str (nomark _))))) (pss_one (ps_set (i := 4) scText.nd rfl (Or.inl rfl) pe_str)) pss_nil))
        (pss_cons (ps_cut (ps_if (PW.pt (pw_and (pt_cmpR op_eq (pv 4) pe_str (nomark _)) (pw_and1 (pt_cmpR op_in_str pe_str (pv 1) rfl)))) (pss_one (ps_set (i := 4) scText.nd rfl (Or.inl rfl) pe_str)) pss_nil))
        (pss_one (ps_set (i := 1) scText.nd rfl (Or.inl rfl) (pe_op op_add_str (pv 1) (pv 4))))))))))
      (pss_cons (ps_if (pt_cmpR op_in_str pe_str (pv 1) rfl) (pss_one (ps_ret (pe_slice sl_strU (pv 1) po_none (po_some pe_int)))) pss_nil)
      (pss_one (ps_ret (pv 1)))))), ?_⟩
    refine ⟨_, rfl, a, rfl, ⟨_, hS⟩, for_list (K := K) (a := a) (xs := ns.map V.int) (fun i σ H2 => ∃ (y : Str) (d : Int) (o3 o4 : Option V), σ = [some (.ref a), some (.str y), some (.int d), o3, o4] ∧ Same H H2 ∧ y.length = i ∧ ∀ c ∈ cod y, c < 127) ?_ ?_ ?_ ?_⟩
    · exact ⟨"", 0, none, none, rfl, Same.refl _, rfl, fun c h => by cases h⟩
    · rintro i σ H2 _ ⟨y, d, o3, o4, rfl, s2, _⟩
      exact s2.seq hS
    · rintro i x σ H2 hx ⟨y, d, o3, o4, rfl, s2, hy, hc⟩
      obtain ⟨n, hn', rfl⟩ : ∃ n, ns[i]? = some n ∧ x = .int n := by
        rw [List.getElem?_map] at hx
        cases e : ns[i]? with
        | none => rw [e] at hx; cases hx
        | some n => rw [e] at hx; exact ⟨n, rfl, (Option.some.inj hx).symm⟩
      have hi : i < ns.length := (List.getElem?_eq_some_iff.mp hn').1
      obtain ⟨n0, e0⟩ : ∃ n0, ns[0]? = some n0 := ⟨_, List.getElem?_eq_getElem (by omega)⟩
      obtain ⟨c0, h0, a0⟩ := at13 n
      refine ⟨_, rfl, n, 13, rfl, rfl, (by show (0 : Int) < 13; decide), s13, n % 13, c0, rfl, rfl, small (by decide +kernel), a0, ?_⟩
      let R : St → Hp → Prop := fun σ' H' => ∃ (c : Nat) (d : Int), c < 127 ∧ σ' = [some (.ref a), some (.str y), some (.int d), some (.int n), some (.str (one c))] ∧ Same H H'
      refine ⟨R, ?_, ?_⟩
      · refine ⟨_, rfl, n, 14, rfl, rfl, (by show (0 : Int) < 14; decide), rfl, _, rfl, ite2 (fun _ => ?_) (fun _ => ?_)⟩
        · exact ⟨_, rfl, n, 14, rfl, rfl, ⟨by decide, by decide⟩, n / 14, rfl, fun c hc => ⟨c, d, hc, rfl, s2⟩⟩
        · exact ⟨c0, d, h0, rfl, s2⟩
      rintro σ' H' ⟨c, d, hc1, rfl, s3⟩
      refine ⟨R, ?_, ?_⟩
      · refine ⟨_, rfl, rfl, _, rfl, ite2 (fun _ => ?_) (fun _ => ?_)⟩
        · exact ⟨_, rfl, _, _, rfl, rfl, c, d + 1, hc1, rfl, s3⟩
        · exact ⟨c, d, hc1, rfl, s3⟩
      rintro σ' H' ⟨c, d, hc1, rfl, s3⟩
      refine ⟨R, ?_, ?_⟩
      · have hpos : decide ((0 : Int) < ((ns.map V.int).length : Int)) = true := decide_eq_true (by rw [List.length_map]; omega)
        refine ⟨_, rfl, (by show 2 ≤ sizeLine; decide), fun l hl => ?_⟩
        have s4 : Same H (upd H' l (.lst [.int 9, .int 20])) := s3.trans (same_new hl _)
        refine ⟨_, rfl, a, _, rfl, .inl (s4.seq hS), _, _, rfl, rfl, true, congrArg V.bl hpos, iteT ?_⟩
        refine ⟨_, rfl, a, _, 0, .int n0, rfl, rfl, s4.seq hS, atI_nat (j := 0) (by rw [List.getElem?_map, e0]; rfl), n0, 169, rfl, rfl, ⟨by decide, by decide⟩, _, 4, rfl, rfl, (by show (0 : Int) < 4; decide), rfl, .inr ⟨_, rfl, l, [.int 9, .int 20], _, _, rfl, rfl, SqL.of upd_same, at920 _, ?_⟩⟩
        refine ⟨_, _, rfl, rfl, _, rfl, ite2 (fun _ => ?_) (fun _ => ?_)⟩
        · refine ⟨_, rfl, rfl, _, rfl, ite2 (fun _ => ?_) (fun _ => ?_)⟩
          · exact ⟨97, d, by decide, rfl, s4⟩
          · exact ⟨c, d, hc1, rfl, s4⟩
        · exact iteF ⟨c, d, hc1, rfl, s4⟩
      rintro σ' H' ⟨c, d, hc1, rfl, s3⟩
      refine ⟨R, ?_, ?_⟩
      · refine ⟨_, rfl, rfl, _, rfl, ite2 (fun _ => ?_) (fun _ => ?_)⟩
        · refine ⟨_, rfl, _, _, rfl, rfl, _, rfl, ite2 (fun _ => ?_) (fun _ => ?_)⟩
          · exact ⟨42, d, by decide, rfl, s3⟩
          · exact ⟨c, d, hc1, rfl, s3⟩
        · exact iteF ⟨c, d, hc1, rfl, s3⟩
      rintro σ' H' ⟨c, d, hc1, rfl, s3⟩
      refine ⟨_, rfl, _, rfl, y, one c, rfl, rfl, ?_, ?_⟩
      · have : (one c).length = 1 := rfl
        rw [this]
        exact small (by omega)
      · refine ⟨y ++ one c, d, _, _, rfl, s3, ?_, fun e he => ?_⟩
        · rw [len_app, hy]; rfl
        · rw [cod_app, cod_one] at he
          rcases List.mem_append.mp he with h | h
          · exact hc e h
          · rw [List.mem_singleton.mp h]; exact hc1
    · rintro σ H2 ⟨y, d, o3, o4, rfl, s2, hy, hc⟩
      rw [List.length_map] at hy
      refine ⟨_, rfl, _, _, rfl, rfl, _, rfl, ite2 (fun _ => ?_) (fun _ => ?_)⟩
      · exact ⟨_, rfl, 48, rfl, y, 48, rfl, rfl, rfl, small (by omega), fun z' hz' hl => q z' H2 s2 (by omega) fun c h => hc c (hz' c h)⟩
      · exact ⟨_, rfl, q y H2 s2 (by omega) hc⟩
end
end K5

set_option Elab.async false
set_option linter.all false
set_option maxRecDepth 100000
set_option maxHeartbeats 4000000
namespace L2
open PySem PySem.Spec PyProof.Rows PySem.W PySem.Builtin PySem.Builtin.ObjectAttr

/-! ### an own exception, read -/
/-- the class of an own exception: all of it is reckoned from the text's objects -/
structure XG (K : Frag) (C : Addr) : Prop where
  dict : hasDictIn K C = true
  ga : findIn K (.ref C) "__getattribute__" = some (some (.builtin "BaseException.__getattribute__"))
  gt : findIn K (.ref C) "__getattr__" = some none
  be : mroIn K C (.type "BaseException") = some true
  ob : mroIn K C (.type "object") = some true
  ca : findIn K (.ref C) "__class__" = some (some (.builtin "object.__class__"))
  cg : specialIn K (.builtin "object.__class__") "__get__" = some (some (.builtin "getset_descriptor.__get__"))
  ct : takesIn K (.builtin "object.__class__") = some true
  me : kitCls K (.ref C) (.ref C) = some true

section
variable {prog : Program} {w : World} {A : Around} {E : Value → Shared → Prop} {s : Shared} {K : Frag} {x C : Addr} {ox : Obj} {od : Option Obj} {name : Str} {v : Value} {tk : Tok}
/-- object.__getattribute__ tells v -/
def GaTells (prog : Program) (w : World) (s : Shared) (x : Addr) (name : Str) (tk : Tok) (v : Value) : Prop :=
  ∀ (A' : Around) (E' : Value → Shared → Prop) (Q' : Fin → Shared → Prop), Q' (.done (.ret v)) s → wpAny (model prog w) A' (Builtin.«object.__getattribute__» ⟨[.ref x, .str name tk], []⟩) Q' E' s
theorem ga_value (X : K.In s.heap) (I : InstAt s.heap x ox C od) (hf : findObj K C od name = some (.value v)) : GaTells prog w s x name tk v := by
  intro A' E' Q' q
  obtain ⟨h0, g0, d0, t0, os0⟩ := s
  have b0 := I.type (M := model prog w)
  have b1 := looks_find (M := model prog w) X I hf
  unfold Builtin.«object.__getattribute__»
  repeat lk
  exact q
theorem ga_class (X : K.In s.heap) (I : InstAt s.heap x ox C od) (hf : findObj K C od name = some (.bind (.builtin "getset_descriptor.__get__") (.builtin "object.__class__"))) (hm : mroIn K C (.type "object") = some true) : GaTells prog w s x name tk (.ref C) := by
  intro A' E' Q' q
  obtain ⟨h0, g0, d0, t0, os0⟩ := s
  have b0 := I.type (M := model prog w)
  have b1 := looks_find (M := model prog w) X I hf
  unfold Builtin.«object.__getattribute__»
  refine wpAny_bind (wpAny_pure (wpAny_bind (wpAny_pure (wpAny_bind (b0.at (wpAny_bind (b1.at ?_)))))))
  show wpAny _ _ (holding [_] (call _ [_, _, _]) >>= ret) _ _ _
  refine wpAny_bind (wpAny_holding (wpAny_call (class_get X I hm ?_)))
  exact wpAny_pure q
set_option maxHeartbeats 400000 in
theorem xg_by {fill expr : Bool} {Q : Value → Shared → Prop} (X : K.In s.heap) (G : XG K C) (I : InstAt s.heap x ox C od) (t : GaTells prog w s x name tk v) (hv : handedIn v = true) (q : Q v s) :
    wpAny (model prog w) A (getAttrBy (.ref x) (.str name tk) fill expr) Q E s := by
  obtain ⟨h0, g0, d0, t0, os0⟩ := s
  have b0 := I.type (M := model prog w)
  have b1 := looks_findIn (M := model prog w) X G.ga
  have b2 := looks_findIn (M := model prog w) X G.gt
  have b3 : Looks (model prog w) h0 (isInstance (.ref x) (.type "BaseException")) true := b0.andThen (looks_mroIn X G.be)
  have n0 : (Value.builtin "BaseException.__getattribute__" == Value.builtin "object.__getattribute__") = false := by decide +kernel
  have n1 : (onTheHeap (Value.ref C) && Value.builtin "BaseException.__getattribute__" == Value.builtin "object.__getattribute__") = false := by rw [n0, Bool.and_false]
  have n2 : (expr && onTheHeap (Value.builtin "BaseException.__getattribute__")) = false := by cases expr <;> rfl
  unfold getAttrBy
  refine wpAny_holding (wpAny_bind (b0.at (wpAny_bind (b1.at ?_))))
  show wpAny _ _ (if (onTheHeap (Value.ref C) && Value.builtin "BaseException.__getattribute__" == Value.builtin "object.__getattribute__") = true then _ else _) _ _ _
  rw [if_neg (by rw [n1]; exact Bool.false_ne_true)]
  unfold getAttrByItsOwn
  refine wpAny_bind ?_
  show wpAny _ _ (typeLookup (.ref C) "__getattr__") _ _ _
  refine b2.at ?_
  refine wpAny_bind (wpAny_attempt (wpAny_holding ?_))
  unfold callGetattribute
  rw [if_neg (by rw [n2]; exact Bool.false_ne_true)]
  unfold boundAndCalled
  rw [PySem.F.attr_ValueError.ga.bind (.ref x)]
  refine wpAny_bind (wpAny_pure ?_)
  show wpAny _ _ (call _ _) _ _ _
  refine wpAny_call ?_
  show codeAny _ _ (.call (.builtin "BaseException.__getattribute__") ⟨[.ref x, .str name tk], []⟩) _ _
  refine codeAny_call_builtin PySem.F.attr_ValueError.ga.plain PySem.F.entry_bexc_ga ?_
  refine @check_slot (model prog w) _ _ ⟨h0, g0, d0, t0, os0⟩ "BaseException.__getattribute__" "BaseException" "__getattribute__" (.ref x) [.str name tk] [] _ (by decide +kernel) (by decide +kernel) b3 (PySem.F.args_bexc_ga _ _) ?_
  refine t _ _ _ ?_
  exact handed_on hv q
theorem xg_get {expr : Bool} {Q : Value → Shared → Prop} (X : K.In s.heap) (G : XG K C) (I : InstAt s.heap x ox C od) (t : GaTells prog w { s with toks := s.toks + 1 } x name s.toks v) (hv : handedIn v = true) (q : Q v { s with toks := s.toks + 1 }) :
    wpAny (model prog w) A (getAttr (.ref x) name expr) Q E s := by
  unfold getAttr
  exact wpAny_bind (wpAny_mkText (xg_by (s := { s with toks := s.toks + 1 }) X G I t hv q))
theorem xg_ask {Q : Option Value → Shared → Prop} (X : K.In s.heap) (G : XG K C) (I : InstAt s.heap x ox C od) (t : GaTells prog w { s with toks := s.toks + 1 } x name s.toks v) (hv : handedIn v = true) (q : Q (some v) { s with toks := s.toks + 1 }) :
    wpAny (model prog w) A (getAttr? (.ref x) name) Q E s := by
  unfold getAttr? getAttrBy?
  exact wpAny_bind (wpAny_mkText (wpAny_bind (wpAny_attempt (xg_by (s := { s with toks := s.toks + 1 }) X G I t hv (wpAny_pure q)))))
/-- isinstance's own question of an exception -/
theorem kitx_exc (G : XG K C) : KitX K (.ref x) (.ref C) (fun h => ∃ ox od, InstAt h x ox C (some od)) where
  ty := fun _ _ _ ⟨_, _, I⟩ => I.type
  it := fun M h X _ => (kit_cls (M := M) X G.me).2.1
  ne := fun h tp dd its n sl X htp => by
    obtain ⟨cd, hc, _⟩ := any_some G.dict
    cases e : (Value.ref C == .ref tp) with
    | false => rfl
    | true =>
      exfalso
      have e2 := Value.ref.inj (beq_iff_eq.mp e)
      rw [← e2] at htp
      unfold clsIn at hc
      split at hc
      · next ho => rw [X _ _ ho] at htp; cases htp
      · cases hc
  ca := fun {prog w A E Q s} X ⟨ox, od, I⟩ k => by
    obtain ⟨cd, hc, _⟩ := any_some G.dict
    exact xg_ask X G I (ga_class (s := { s with toks := s.toks + 1 }) X I (findObj_data (by rw [hc]; rfl) G.ca G.cg G.ct) G.ob) rfl k
end

section
variable {X : Cx} {pins : List (Addr × Obj)} {σ : St} {H : Hp} {s : Shared} {ea C dx : Addr} {fs : List (Str × V)}
/-- an exception of an own class, tracked with its dict -/
def XOf (H : Hp) (ea C dx : Addr) (fs : List (Str × V)) : Prop := H ea = some (excO ea (.ref C) (some dx)) ∧ H dx = some (.xd fs)
theorem XOf.inst (I : Inv X pins σ H s) (e : XOf H ea C dx fs) : ∃ ox od, InstAt s.heap ea ox C (some od) ∧ ∃ mA : Str → Option Value, (∀ f, RelO (fs.lookup f) (mA f)) ∧ ∀ name, lookIn name od = some (mA name) := by
  obtain ⟨⟨oe, vs, e1, c1, d1, f1⟩, _⟩ := I.hok _ _ e.1
  obtain ⟨mA, n1, r1⟩ := (show ObjOk _ _ _ _ dx (.xd fs) from I.hok _ _ e.2)
  obtain ⟨od, ho, hl⟩ := lookIn_ns n1
  refine ⟨oe, od, ⟨e1, c1, ?_, ?_⟩, mA, r1, hl⟩
  · unfold notCls; rw [f1]
  · rw [d1]; exact ho
/-- isinstance(x, c), of an exception, c one class -/
theorem call_isX : CallR X (.builtin "isinstance") (fun xs H Q => ∃ ea C dx fs c u b, xs = [.ref ea, c] ∧ XOf H ea C dx fs ∧ XG X.K C ∧ (∀ u', RelV c u' → u' = u) ∧ kitOne X.K (.ref C) u = some b ∧ Q (.bl b) H) := by
  intro pins s σ H xs us Q I r h
  obtain ⟨ea, C, dx, fs, c, u, b, rfl, xo, G, hc, e, q⟩ := h
  obtain ⟨u1, u2, rfl, r1, r2⟩ := vals2 r
  cases (show u1 = Value.ref ea from r1)
  cases hc _ r2
  obtain ⟨ox, od, J, _⟩ := xo.inst I
  exact kia_one (kitx_exc G) I.kIn ⟨ox, od, J⟩ e (fun z => nomatch z) fun tk => ⟨.bl b, H, I.tok _, rfl, q⟩
/-- .. c a tuple of two classes of the text -/
theorem call_isXT : CallR X (.builtin "isinstance") (fun xs H Q => ∃ ea C dx fs t c1 c2 b, xs = [.ref ea, .ref t] ∧ XOf H ea C dx fs ∧ XG X.K C ∧ SqT X.K H t [.ref c1, .ref c2] ∧ kitAny X.K (.ref C) [.ref c1, .ref c2] = some b ∧ Q (.bl b) H) := by
  intro pins s σ H xs us Q I r h
  obtain ⟨ea, C, dx, fs, t, c1, c2, b, rfl, xo, G, hs, e, q⟩ := h
  obtain ⟨u1, u2, rfl, r1, r2⟩ := vals2 r
  cases (show u1 = Value.ref ea from r1)
  cases (show u2 = Value.ref t from r2)
  obtain ⟨ox, od, J, _⟩ := xo.inst I
  obtain ⟨its, rv, ⟨o, h1, h2, n, h3⟩, _⟩ := I.tuple hs
  obtain ⟨v1, v2, rfl, q1, q2⟩ := vals2 rv
  cases (show v1 = Value.ref c1 from q1)
  cases (show v2 = Value.ref c2 from q2)
  obtain ⟨oc, odd, oda, osl⟩ := o
  cases h2
  cases h3
  exact kia_tup (kitx_exc G) I.kIn ⟨ox, od, J⟩ h1 e (fun z => nomatch z) fun tk => ⟨.bl b, H, I.tok _, rfl, q⟩
/-- e.f of an exception -/
def tXg (K : Frag) (ta : TE) (f : Str) : TE := fun σ H Q => ta σ H fun x H1 => ∃ ea C dx fs v, x = .ref ea ∧ XOf H1 ea C dx fs ∧ XG K C ∧ NoAttr K C f ∧ fs.lookup f = some v ∧ Q v H1
theorem pe_xget {e : Expr} {ta : TE} {f : Str} {pos : Pos} (he : PE X e ta) (hb : attributeBase e f X.env (eval e X.env) = eval e X.env) : PE X (.Attribute e f pos) (tXg X.K ta f) := by
  intro pins s σ H Q I h
  refine attr_of hb (thn (he pins s σ H _ I h) fun u s1 ⟨x, H1, I1, rx, ea, C, dx, fs, v, ex, xo, G, n, l, q⟩ => ?_)
  subst ex
  obtain rfl : u = Value.ref ea := rx
  obtain ⟨ox, od, J, mA, ra, hl⟩ := xo.inst I1
  obtain ⟨u', hu, ru⟩ := RelO.some_of (v := v) (o := mA f) (by rw [← l]; exact ra f)
  exact xg_get I1.kIn G J (ga_value (s := { s1 with toks := s1.toks + 1 }) I1.kIn J (findObj_own G.dict n rfl (by rw [hl, hu]))) (handed_of ru) ⟨v, H1, I1.tok _, ru, q⟩
end
end L2

set_option Elab.async false
set_option linter.all false
set_option maxRecDepth 100000
set_option maxHeartbeats 4000000
namespace K5
open PySem L2 K4
open PyProof.Rows (envOfC)
section
variable {P : Program} {w : World} {K : PySem.W.Frag} {mg : Str → Option Value} {base : Heap} {aE f C W NW NR : Addr} {fd : FuncData}
theorem kit_same {t : Value} : PySem.W.kitOne K t t = some true := by unfold PySem.W.kitOne; rw [if_pos (beq_self_eq_true t)]
theorem kit_ib : PySem.W.kitOne K (.type "int") (.type "bool") = some false := by kernel_rfl
/-- what the law asks of the refusal's class -/
structure Lx (K : PySem.W.Frag) (mg : Str → Option Value) (C W NW NR : Addr) : Prop where
  mC : mg "NoPattern" = some (.ref C)
  mW : mg "WrightError" = some (.ref W)
  mNW : mg "NoWord" = some (.ref NW)
  mNR : mg "NoRow" = some (.ref NR)
  mV : mg "ValueError" = none
  mB : mg "bool" = none
  exm : PySem.W.exmOne K (.ref C) (.ref W) = some true
  xg : XG K C
  ve : PySem.W.kitOne K (.ref C) (.type "ValueError") = some true
  no : PySem.W.kitAny K (.ref C) [.ref NW, .ref NR] = some false
  na : NoAttr K C "place"
theorem boot_VE : bootBuiltins "ValueError" = some (.type "ValueError") := by decide +kernel
abbrev spReadX (K : PySem.W.Frag) (C : Addr) : Sp := fun vs H Q E => spRead K vs H Q E ∨ spReadF C vs H Q E
def spLaw (K : PySem.W.Frag) : Sp := fun vs H Q _ => ∃ (a : Addr) (ns : List Int), vs = [.ref a] ∧ SqL K H a (ns.map V.int) ∧ ns.length ≤ 63 ∧ ∀ H', Q (.bl true) H'
theorem scLaw : FnScope ["_law_script", "_law_text_here", "_law_due", "_law_told", "_law_found", "e"] ["_law_script"] (defScope sLaw) := ⟨rfl, rfl, rfl, by decide +kernel, rfl, by decide +kernel, by decide +kernel⟩
theorem cut60 (ns : List Int) : cutV (ns.map V.int) none (some 60) = (ns.take 60).map V.int := by
  have e1 : HT.sIx (ns.map V.int).length 0 none = 0 := rfl
  have e2 : HT.sIx (ns.map V.int).length (ns.map V.int).length (some 60) = min 60 (ns.map V.int).length := HT.sIx_nat _ _ 60
  unfold cutV
  rw [e1, e2, List.drop_zero, Nat.sub_zero, ← List.map_take, List.length_map]
  congr 1
  by_cases h : 60 ≤ ns.length
  · rw [Nat.min_eq_left h]
  · rw [Nat.min_eq_right (by omega), List.take_of_length_le (Nat.le_refl _), List.take_of_length_le (by omega)]
theorem fails_rrf {t : List Nat} {q : Nat} (h : P4.Fails t 0 P4.init q) : P4.RRF t q := by
  rcases h with ⟨k', M', a, b⟩ | ⟨lv, m, r, a, rfl⟩
  · exact .sign a b
  · exact .open_ a
theorem ok_law (F : Fun K "law" "law" sLaw f fd) (T : Txt K mg aE) (L : Lx K mg C W NW NR) (GT : Callee P w K mg base 9 "_law_text" ["_law_cells"] (spText K)) (GP : Callee P w K mg base 9 "_law_place" ["_law_text_here"] spPlace)
    (GR : CalleX P w K mg base 9 "read_pattern" ["text"] (spReadX K C)) : FnOk P w K mg base CX0 10 f fd ["_law_script"] (spLaw K) := by
  obtain ⟨fr, fdr, Gr, br, kr, mr⟩ := GR
  refine F.ok scLaw (fun vs H Q E h => ?_) (fun cdv A outer s H vs Q E hr h => ?_)
  · obtain ⟨a, ns, rfl, _⟩ := h; rfl
  · obtain ⟨a, ns, rfl, hS, h63, q⟩ := h
    refine ⟨_, pss_cons (ps_set (i := 1) scLaw.nd rfl (Or.inl rfl) (pe_def GT hr rfl (pa_cons (pe_slice sl_list (pv 0) po_none (po_some pe_int)) pa_nil)))
      (pss_cons (ps_set (i := 2) scLaw.nd rfl (Or.inl rfl) (pe_def GP hr rfl (pa_cons (pv 1) pa_nil)))
      (pss_cons (ps_set (i := 3) scLaw.nd rfl (Or.inl rfl) pe_non)
      (pss_cons (ps_set (i := 4) scLaw.nd rfl (Or.inl rfl) pe_non)
      (pss_cons (ps_try (i := 4) (j := 5) rfl rfl (fun _ _ z => z) Gr hr rfl mr kr br (pa_cons (pv 1) pa_nil) scLaw.nd rfl (Or.inl rfl) rfl L.mW rfl rfl (fun ea => pss_one (ps_set (i := 3) scLaw.nd rfl (Or.inl rfl) (pv 5))))
      (pss_cons (ps_if (pt_cmpR op_lt (pv 2) pe_int (nomark _)) (pss_one (ps_ret (pe_and (pe_cmpR op_isN (pv 3) pe_non (nomark _)) (pe_one (pe_callB call_isinst rfl T.isi PyProof.Rows.boot_isinstance (pa_cons (pv 4) (pa_cons (pe_bltn (v := .ty "tuple") rfl T.tup PyProof.Rows.boot_tuple rfl) pa_nil))))))) pss_nil)
      (pss_cons (ps_if (PW.pt (pw_or (pt_not (pt_val (pe_callB call_isX rfl T.isi PyProof.Rows.boot_isinstance (pa_cons (pv 3) (pa_cons (pe_glob (v := .ref C) rfl L.mC rfl) pa_nil)))))
          (pw_or (pt_not (pt_val (pe_callB call_isX rfl T.isi PyProof.Rows.boot_isinstance (pa_cons (pv 3) (pa_cons (pe_bltn (v := .ty "ValueError") rfl L.mV boot_VE rfl) pa_nil)))))
          (pw_or1 (pt_val (pe_callB call_isXT rfl T.isi PyProof.Rows.boot_isinstance (pa_cons (pv 3) (pa_cons (pe_tup (pa_cons (pe_glob (v := .ref NW) rfl L.mNW rfl) (pa_cons (pe_glob (v := .ref NR) rfl L.mNR rfl) pa_nil))) pa_nil)))))))) (pss_one (ps_ret pe_bl)) pss_nil)
      (pss_one (ps_ret (pe_and (pe_callB call_isinst rfl T.isi PyProof.Rows.boot_isinstance (pa_cons (pe_xget (pv 3) rfl) (pa_cons (pe_bltn (v := .ty "int") rfl T.int PyProof.Rows.boot_int rfl) pa_nil)))
        (pe_and (pe_not (pe_callB call_isinst rfl T.isi PyProof.Rows.boot_isinstance (pa_cons (pe_xget (pv 3) rfl) (pa_cons (pe_bltn (v := .ty "bool") rfl L.mB PyProof.Rows.boot_bool rfl) pa_nil))))
        (pe_one (pe_cmpR op_eq (pe_xget (pv 3) rfl) (pv 2) (nomark _))))))))))))), ?_⟩
    refine ⟨_, rfl, 60, rfl, a, _, rfl, hS, fun c hc => ?_⟩
    rw [cut60]
    refine ⟨c, ns.take 60, rfl, SqL.of upd_same, by rw [List.length_take]; omega, fun z H1 s1 hz hz2 => ?_⟩
    refine ⟨_, rfl, z, rfl, by omega, hz2, fun H2 s2 => ?_⟩
    refine ⟨_, rfl, ?_⟩
    have hend := P5.all_ok (cod z)
    generalize P5.R (cod z) 0 .row 0 [] = due at hend ⊢
    rcases hend with ⟨lv, hRR, hv⟩ | ⟨q', hF, hv⟩
    · subst hv
      refine .inl ⟨z, lv, rfl, by omega, hRR, fun v2 H3 s3 hv2 => ?_⟩
      obtain ⟨a2, xs2, rfl, hS2⟩ := hv2.tup
      refine ⟨_, rfl, _, _, rfl, rfl, _, rfl, ?_⟩
      refine ite2 (fun _ => ?_) (fun cc => absurd (by decide) cc)
      refine ⟨_, rfl, rfl, _, rfl, ?_⟩
      refine ite2 (fun _ => ?_) (fun cc => absurd (decide_eq_true rfl) cc)
      exact ⟨_, rfl, .ref a2, "tuple", "tuple", true, rfl, .tup hS2, kit_same, q _⟩
    · subst hv
      refine .inr ⟨z, q', rfl, by omega, fails_rrf hF, fun dx H3 s3 hdx => ⟨L.exm, fun ea hea => ?_⟩⟩
      have xo : XOf H3 ea C dx [("place", .int (q' : Int))] := ⟨hea, hdx⟩
      refine ⟨_, rfl, ⟨_, rfl⟩, ?_⟩
      refine ⟨_, rfl, _, _, rfl, rfl, _, rfl, ?_⟩
      refine ite2 (fun cc => absurd (of_decide_eq_true cc) (by omega)) (fun _ => ?_)
      refine ⟨_, rfl, ea, C, dx, _, .ref C, .ref C, true, rfl, xo, L.xg, fun _ z => z, kit_same, true, rfl, ?_⟩
      refine iteF ?_
      refine ⟨_, rfl, ea, C, dx, _, .ty "ValueError", .type "ValueError", true, rfl, xo, L.xg, fun _ z => z, L.ve, true, rfl, ?_⟩
      refine iteF ?_
      refine ⟨_, rfl, (by show 2 ≤ sizeLine; decide), fun t ht => ?_⟩
      have xo2 : XOf (upd H3 t (.tup [.ref NW, .ref NR])) ea C dx [("place", .int (q' : Int))] := ⟨by rw [upd_ne (ne_of_none hea ht)]; exact hea, by rw [upd_ne (ne_of_none hdx ht)]; exact hdx⟩
      refine ⟨ea, C, dx, _, t, NW, NR, false, rfl, xo2, L.xg, SqT.of upd_same, L.no, false, rfl, ?_⟩
      refine iteF ?_
      refine ⟨_, rfl, ea, C, dx, _, .int (q' : Int), rfl, xo2, L.xg, L.na, rfl, .int (q' : Int), "int", "int", true, rfl, .int _, kit_same, true, rfl, ?_⟩
      refine iteT ?_
      refine ⟨_, rfl, ea, C, dx, _, .int (q' : Int), rfl, xo2, L.xg, L.na, rfl, .int (q' : Int), "int", "bool", false, rfl, .int _, kit_ib, false, rfl, true, rfl, ?_⟩
      refine iteT ?_
      refine ⟨_, rfl, ea, C, dx, _, .int (q' : Int), rfl, xo2, L.xg, L.na, rfl, _, rfl, rfl, ?_⟩
      have e1 : decide (V.int (q' : Int) = V.int (q' : Int)) = true := decide_eq_true rfl
      rw [e1]
      exact q _
end
end K5

set_option Elab.async false
set_option linter.all false
set_option maxRecDepth 100000
set_option maxHeartbeats 4000000
namespace K5
open PySem L2 K4
/-- a def stands at the top as the text says -/
def Has (K : PySem.W.Frag) (x : Str) (st : Stmt) : Prop := ∃ (g : Addr) (oc : Value) (od an : Option Addr) (sl : Array (Option Value)) (kV dc pm cd ct : Value), PySem.W.nsIn K mainGlobals x = some (some (.ref g)) ∧
  K.lookup g = some ⟨oc, od, .func (PySem.W.fnOf x x (defArgs st) (defBody st) (defScope st) .none kV dc pm an cd ct), sl⟩ ∧ PySem.W.codeIn K cd x = true ∧ PySem.W.keepIn K (.ref g) = true
theorem has_mk {K : PySem.W.Frag} {x : Str} {st : Stmt} {g : Addr} {oc : Value} {od an : Option Addr} {sl : Array (Option Value)} {kV dc pm cd ct : Value} (a : PySem.W.nsIn K mainGlobals x = some (some (.ref g)))
    (l : K.lookup g = some ⟨oc, od, .func (PySem.W.fnOf x x (defArgs st) (defBody st) (defScope st) .none kV dc pm an cd ct), sl⟩) (c : PySem.W.codeIn K cd x = true) (k : PySem.W.keepIn K (.ref g) = true) : Has K x st := ⟨g, oc, od, an, sl, kV, dc, pm, cd, ct, a, l, c, k⟩
theorem Has.get {K : PySem.W.Frag} {h : Heap} {mg : Str → Option Value} {x : Str} {st : Stmt} (X : K.In h) (G : h.Ns mainGlobals mg) (H : Has K x st) : ∃ g gd, Fun K x x st g gd ∧ mg x = some (.ref g) := by
  obtain ⟨g, oc, od, an, sl, kV, dc, pm, cd, ct, a, l, c, k⟩ := H
  exact ⟨g, _, fun_mk (st := st) l c k, PySem.W.mg_of X G a⟩
/-- the tuple EMPTY -/
def HasE (K : PySem.W.Frag) : Prop := ∃ (aE : Addr) (od : Option Addr) (t : Tok) (n : Nat) (sl : Array (Option Value)), PySem.W.nsIn K mainGlobals "EMPTY" = some (some (.ref aE)) ∧ K.lookup aE = some ⟨.type "tuple", od, .seq #[.str "empty" t] n, sl⟩
theorem hasE_mk {K : PySem.W.Frag} {aE : Addr} {od : Option Addr} {t : Tok} {n : Nat} {sl : Array (Option Value)} (a : PySem.W.nsIn K mainGlobals "EMPTY" = some (some (.ref aE))) (l : K.lookup aE = some ⟨.type "tuple", od, .seq #[.str "empty" t] n, sl⟩) : HasE K := ⟨aE, od, t, n, sl, a, l⟩
/-- the class NoPattern, its __init__, the classes beside it -/
def HasC (K : PySem.W.Frag) : Prop := ∃ (C W NW NR fI : Addr) (cd : ClassData) (oc : Value) (od an : Option Addr) (sl : Array (Option Value)) (kV dc pm cdv ct : Value),
  PySem.W.nsIn K mainGlobals "NoPattern" = some (some (.ref C)) ∧ PySem.W.nsIn K mainGlobals "WrightError" = some (some (.ref W)) ∧ PySem.W.nsIn K mainGlobals "NoWord" = some (some (.ref NW)) ∧ PySem.W.nsIn K mainGlobals "NoRow" = some (some (.ref NR)) ∧
  (xIn K C fI bmVE "ValueError.__new__" = true ∧ PySem.W.keepIn K (.ref C) = true ∧ XC K C cd ∧ PySem.W.takerIn K C "place" = some none ∧ BI K W "ValueError.__init__") ∧
  (oc = .type "function" ∧ K.lookup fI = some ⟨oc, od, .func (PySem.W.fnOf "__init__" "NoPattern.__init__" (defArgs sInit) (defBody sInit) (defScope sInit) .none kV dc pm an cdv ct), sl⟩ ∧ PySem.W.codeIn K cdv "NoPattern.__init__" = true ∧ PySem.W.keepIn K (.ref fI) = true) ∧
  PySem.W.exmOne K (.ref C) (.ref W) = some true ∧ XG K C ∧ PySem.W.kitOne K (.ref C) (.type "ValueError") = some true ∧ PySem.W.kitAny K (.ref C) [.ref NW, .ref NR] = some false ∧ NoAttr K C "place"
theorem hasC_mk {K : PySem.W.Frag} {C W NW NR fI : Addr} {od an : Option Addr} {sl : Array (Option Value)} {kV dc pm cdv ct : Value} (a : PySem.W.nsIn K mainGlobals "NoPattern" = some (some (.ref C))) (b : PySem.W.nsIn K mainGlobals "WrightError" = some (some (.ref W)))
    (a3 : PySem.W.nsIn K mainGlobals "NoWord" = some (some (.ref NW))) (a4 : PySem.W.nsIn K mainGlobals "NoRow" = some (some (.ref NR)))
    (a2 : PySem.W.findIn K (.ref C) "__init__" = some (some (.ref fI))) (l : K.lookup fI = some ⟨.type "function", od, .func (PySem.W.fnOf "__init__" "NoPattern.__init__" (defArgs sInit) (defBody sInit) (defScope sInit) .none kV dc pm an cdv ct), sl⟩)
    (l2 : PySem.W.codeIn K cdv "NoPattern.__init__" = true) (l3 : PySem.W.keepIn K (.ref fI) = true)
    (c : xIn K C fI bmVE "ValueError.__new__" = true) (d : PySem.W.keepIn K (.ref C) = true) (e : (PySem.W.clsIn K C).map (fun cd => (cd.mro, cd.hasDict)) = some (.ref C :: .ref W :: bmVE, true))
    (f : PySem.W.findIn K (.ref C) "__setattr__" = some (some (.builtin "object.__setattr__"))) (g : PySem.W.takerIn K C "place" = some none)
    (i : PySem.W.specialIn K (.ref W) "__getattribute__" = some (some (.builtin "type.__getattribute__"))) (j : PySem.W.readsIn K W (.type "type") = true) (k : PySem.W.findCls K (.ref W) (.type "type") "__init__" = some (.val (.builtin "ValueError.__init__"))) (m : PySem.W.handedIn (.builtin "ValueError.__init__") = true)
    (n1 : PySem.W.exmOne K (.ref C) (.ref W) = some true) (n2 : PySem.W.hasDictIn K C = true) (n3 : PySem.W.findIn K (.ref C) "__getattribute__" = some (some (.builtin "BaseException.__getattribute__"))) (n4 : PySem.W.findIn K (.ref C) "__getattr__" = some none)
    (n5 : PySem.W.mroIn K C (.type "BaseException") = some true) (n6 : PySem.W.mroIn K C (.type "object") = some true) (n7 : PySem.W.findIn K (.ref C) "__class__" = some (some (.builtin "object.__class__")))
    (n8 : PySem.W.specialIn K (.builtin "object.__class__") "__get__" = some (some (.builtin "getset_descriptor.__get__"))) (n9 : PySem.W.takesIn K (.builtin "object.__class__") = some true) (n10 : PySem.W.kitCls K (.ref C) (.ref C) = some true)
    (n11 : PySem.W.kitOne K (.ref C) (.type "ValueError") = some true) (n12 : PySem.W.kitAny K (.ref C) [.ref NW, .ref NR] = some false) (n13 : PySem.W.findIn K (.ref C) "place" = some none) : HasC K := by
  obtain ⟨cd, h1, h2⟩ := Option.map_eq_some_iff.mp e
  injection h2 with h2 h3
  refine ⟨C, W, NW, NR, fI, cd, _, od, an, sl, kV, dc, pm, cdv, ct, a, b, a3, a4, ⟨c, d, ⟨h1, f, fun self => ?_, ?_, h3⟩, g, ⟨i, ⟨_, j, k⟩, m⟩⟩, ⟨rfl, l, l2, l3⟩, n1, ⟨n2, n3, n4, n5, n6, n7, n8, n9, n10⟩, n11, n12, n13⟩
  · rw [h2]; rfl
  · rw [h2]; rfl
structure Top (K : PySem.W.Frag) : Prop where
  e : HasE K
  c : HasC K
  hnested : Has K "nested" sNested
  hrows_pattern : Has K "rows_pattern" sRowsPattern
  hone_sign : Has K "one_sign" sOneSign
  hmarked : Has K "marked" sMarked
  hread_item_sign : Has K "read_item_sign" sReadItemSign
  hread_item : Has K "read_item" sReadItem
  hread_items : Has K "read_items" sReadItems
  hread_piece : Has K "read_piece" sReadPiece
  hread_sign : Has K "read_sign" sReadSign
  hread_pattern : Has K "read_pattern" sReadPattern
  h_law_sign : Has K "_law_sign" sSgn
  h_law_in : Has K "_law_in_brackets" sIn
  h_law_out : Has K "_law_outside" sOut
  h_law_place : Has K "_law_place" sPlace
  h_law_text : Has K "_law_text" sText
  hlaw : Has K "law" sLaw
  zlen : PySem.W.nsIn K mainGlobals "len" = some none
  zreversed : PySem.W.nsIn K mainGlobals "reversed" = some none
  zisinstance : PySem.W.nsIn K mainGlobals "isinstance" = some none
  ztuple : PySem.W.nsIn K mainGlobals "tuple" = some none
  zsum : PySem.W.nsIn K mainGlobals "sum" = some none
  zint : PySem.W.nsIn K mainGlobals "int" = some none
  zrange : PySem.W.nsIn K mainGlobals "range" = some none
  zve : PySem.W.nsIn K mainGlobals "ValueError" = some none
  zbool : PySem.W.nsIn K mainGlobals "bool" = some none
theorem all_mk {l : PySem.W.OpenLaw} {w : World} {K : PySem.W.Frag} {h : Heap} {mg : Str → Option Value} {fa : Addr} (X : K.In h) (G : h.Ns mainGlobals mg) (hfa : mg "law" = some (.ref fa)) (tp : Top K) :
    ∃ fd : FuncData, (∀ (s : Shared) (v : Value), BindsTo s fd ⟨[v], []⟩ [("_law_script", v)]) ∧ ∀ base : Heap, K.In base → base.Ns mainGlobals mg → FnOk l.prog w K mg base CX0 10 fa fd ["_law_script"] (spLaw K) := by
  obtain ⟨aE, odE, tE, nE, slE, aE1, aE2⟩ := tp.e
  have T : Txt K mg aE := ⟨fun H => .inr ⟨_, _, _, aE2, rfl, rfl, (by show 1 ≤ sizeLine; decide), .cons ⟨_, rfl⟩ .nil⟩, PySem.W.mg_of X G aE1, PySem.W.mg_none_of X G tp.zlen, PySem.W.mg_none_of X G tp.zreversed, PySem.W.mg_none_of X G tp.zisinstance, PySem.W.mg_none_of X G tp.ztuple, PySem.W.mg_none_of X G tp.zsum, PySem.W.mg_none_of X G tp.zint, PySem.W.mg_none_of X G tp.zrange⟩
  obtain ⟨C, W, NW, NR, fI, cd, oc, od, an, sl, kV, dc, pm, cdv, ct, a, b, a3, a4, ⟨c, d, xc, tk, bi⟩, ⟨hoc, lI, lc, lk⟩, n1, n2, n3, n4, n5⟩ := tp.c
  have mC := PySem.W.mg_of X G a
  have mW := PySem.W.mg_of X G b
  have N : Np K mg C W fI := ⟨c, d, mC, mW, ⟨cd, xc⟩, tk, bi, ⟨_, lI, hoc⟩⟩
  have L : Lx K mg C W NW NR := ⟨mC, mW, PySem.W.mg_of X G a3, PySem.W.mg_of X G a4, PySem.W.mg_none_of X G tp.zve, PySem.W.mg_none_of X G tp.zbool, n1, n2, n3, n4, n5⟩
  have FI := fun_mk (st := sInit) lI lc lk
  have bI := FI.binds (ps := ["self", "place"]) fun _ _ _ _ _ _ us hl => match us, hl with | [_, _], _ => rfl
  obtain ⟨f0, d0, F0, m0⟩ := tp.hnested.get X G
  have b0 := F0.binds (ps := ["form", "patterns"]) fun _ _ _ _ _ _ us hl => match us, hl with | [_, _], _ => rfl
  obtain ⟨f1, d1, F1, m1⟩ := tp.hrows_pattern.get X G
  have b1 := F1.binds (ps := ["rows"]) fun _ _ _ _ _ _ us hl => match us, hl with | [_], _ => rfl
  obtain ⟨f2, d2, F2, m2⟩ := tp.hone_sign.get X G
  have b2 := F2.binds (ps := ["sign"]) fun _ _ _ _ _ _ us hl => match us, hl with | [_], _ => rfl
  obtain ⟨f3, d3, F3, m3⟩ := tp.hmarked.get X G
  have b3 := F3.binds (ps := ["piece", "mark"]) fun _ _ _ _ _ _ us hl => match us, hl with | [_, _], _ => rfl
  obtain ⟨f4, d4, F4, m4⟩ := tp.hread_item_sign.get X G
  have b4 := F4.binds (ps := ["text", "place"]) fun _ _ _ _ _ _ us hl => match us, hl with | [_, _], _ => rfl
  obtain ⟨f5, d5, F5, m5⟩ := tp.hread_item.get X G
  have b5 := F5.binds (ps := ["text", "place"]) fun _ _ _ _ _ _ us hl => match us, hl with | [_, _], _ => rfl
  obtain ⟨f6, d6, F6, m6⟩ := tp.hread_items.get X G
  have b6 := F6.binds (ps := ["text", "place"]) fun _ _ _ _ _ _ us hl => match us, hl with | [_, _], _ => rfl
  obtain ⟨f7, d7, F7, m7⟩ := tp.hread_piece.get X G
  have b7 := F7.binds (ps := ["text", "place", "levels"]) fun _ _ _ _ _ _ us hl => match us, hl with | [_, _, _], _ => rfl
  obtain ⟨f8, d8, F8, m8⟩ := tp.hread_sign.get X G
  have b8 := F8.binds (ps := ["text", "place", "levels"]) fun _ _ _ _ _ _ us hl => match us, hl with | [_, _, _], _ => rfl
  obtain ⟨f9, d9, F9, m9⟩ := tp.hread_pattern.get X G
  have b9 := F9.binds (ps := ["text"]) fun _ _ _ _ _ _ us hl => match us, hl with | [_], _ => rfl
  obtain ⟨f10, d10, F10, m10⟩ := tp.h_law_sign.get X G
  have b10 := F10.binds (ps := ["_law_cell"]) fun _ _ _ _ _ _ us hl => match us, hl with | [_], _ => rfl
  obtain ⟨f11, d11, F11, m11⟩ := tp.h_law_in.get X G
  have b11 := F11.binds (ps := ["_law_state", "_law_sign_here", "_law_low"]) fun _ _ _ _ _ _ us hl => match us, hl with | [_, _, _], _ => rfl
  obtain ⟨f12, d12, F12, m12⟩ := tp.h_law_out.get X G
  have b12 := F12.binds (ps := ["_law_state", "_law_sign_here", "_law_deep"]) fun _ _ _ _ _ _ us hl => match us, hl with | [_, _, _], _ => rfl
  obtain ⟨f13, d13, F13, m13⟩ := tp.h_law_place.get X G
  have b13 := F13.binds (ps := ["_law_text_here"]) fun _ _ _ _ _ _ us hl => match us, hl with | [_], _ => rfl
  obtain ⟨f14, d14, F14, m14⟩ := tp.h_law_text.get X G
  have b14 := F14.binds (ps := ["_law_cells"]) fun _ _ _ _ _ _ us hl => match us, hl with | [_], _ => rfl
  obtain ⟨f15, d15, F15, m15⟩ := tp.hlaw.get X G
  have e := hfa.symm.trans m15
  cases e
  obtain ⟨oc', od', kV', doc', pm', an', cdv', ct', osl', e15, lk', hcd'⟩ := F15.ex
  refine ⟨d15, fun s v => ?_, fun base _ _ => ?_⟩
  · rw [e15]; exact .of_eq rfl
  have R : Rz l.prog w K mg base C := ⟨W, fI, _, N, ok_init FI N, bI⟩
  have c0 : Callee l.prog w K mg base 1 "nested" ["form", "patterns"] (spNested K) := ⟨f0, d0, ok_nested F0 T, b0, F0.kp, m0⟩
  have c1 : Callee l.prog w K mg base 2 "rows_pattern" ["rows"] (spRows K) := ⟨f1, d1, ok_rows F1 T c0, b1, F1.kp, m1⟩
  have c2 : Callee l.prog w K mg base 1 "one_sign" ["sign"] (spOne K) := ⟨f2, d2, ok_one F2, b2, F2.kp, m2⟩
  have c3 : Callee l.prog w K mg base 1 "marked" ["piece", "mark"] (spMarked K) := ⟨f3, d3, ok_marked F3 T, b3, F3.kp, m3⟩
  have c4 : Callee l.prog w K mg base 1 "read_item_sign" ["text", "place"] (spIS K) := ⟨f4, d4, ok_is F4, b4, F4.kp, m4⟩
  have c5 : Callee l.prog w K mg base 2 "read_item" ["text", "place"] (spItem K) := ⟨f5, d5, ok_item F5 c4 c2, b5, F5.kp, m5⟩
  have c6 : Callee l.prog w K mg base 3 "read_items" ["text", "place"] (spItems K) := ⟨f6, d6, ok_items F6 T c5 (c0.mono (by decide)), b6, F6.kp, m6⟩
  have c7 : Callee l.prog w K mg base 4 "read_piece" ["text", "place", "levels"] (spPiece K) := ⟨f7, d7, ok_piece F7 T c6 (c2.mono (by decide)) (c1.mono (by decide)), b7, F7.kp, m7⟩
  have c8 : Callee l.prog w K mg base 5 "read_sign" ["text", "place", "levels"] (spSign K) := ⟨f8, d8, ok_sign F8 T c7 (c3.mono (by decide)), b8, F8.kp, m8⟩
  have x4 : CalleX l.prog w K mg base 3 "read_item_sign" ["text", "place"] (spISX K C) := ⟨f4, d4, ((ok_is F4).ex.mono (by decide)).or (ok_isF F4 R), b4, F4.kp, m4⟩
  have x5 : CalleX l.prog w K mg base 4 "read_item" ["text", "place"] (spItemX K C) := ⟨f5, d5, ((ok_item F5 c4 c2).ex.mono (by decide)).or (ok_itemF F5 R x4), b5, F5.kp, m5⟩
  have x6 : CalleX l.prog w K mg base 5 "read_items" ["text", "place"] (spItemsX K C) := ⟨f6, d6, ((ok_items F6 T c5 (c0.mono (by decide))).ex.mono (by decide)).or (ok_itemsF F6 R x5), b6, F6.kp, m6⟩
  have x7 : CalleX l.prog w K mg base 6 "read_piece" ["text", "place", "levels"] (spPieceX K C) := ⟨f7, d7, ((ok_piece F7 T c6 (c2.mono (by decide)) (c1.mono (by decide))).ex.mono (by decide)).or (ok_pieceF F7 T R x6), b7, F7.kp, m7⟩
  have x8 : CalleX l.prog w K mg base 7 "read_sign" ["text", "place", "levels"] (spSignX K C) := ⟨f8, d8, ((ok_sign F8 T c7 (c3.mono (by decide))).ex.mono (by decide)).or (ok_signF F8 x7), b8, F8.kp, m8⟩
  have x9 : CalleX l.prog w K mg base 9 "read_pattern" ["text"] (spReadX K C) := ⟨f9, d9, ((ok_read F9 T c8 (c1.mono (by decide))).ex.mono (by decide)).or ((ok_readF F9 T R x8).mono (by decide)), b9, F9.kp, m9⟩
  have c10 : Callee l.prog w K mg base 1 "_law_sign" ["_law_cell"] spSgn := ⟨f10, d10, ok_sgn F10, b10, F10.kp, m10⟩
  have c11 : Callee l.prog w K mg base 1 "_law_in_brackets" ["_law_state", "_law_sign_here", "_law_low"] spIn := ⟨f11, d11, ok_in F11, b11, F11.kp, m11⟩
  have c12 : Callee l.prog w K mg base 1 "_law_outside" ["_law_state", "_law_sign_here", "_law_deep"] spOut := ⟨f12, d12, ok_out F12 T, b12, F12.kp, m12⟩
  have c13 : Callee l.prog w K mg base 9 "_law_place" ["_law_text_here"] spPlace := Callee.mono ⟨f13, d13, ok_place F13 T c12 c11, b13, F13.kp, m13⟩ (by decide)
  have c14 : Callee l.prog w K mg base 9 "_law_text" ["_law_cells"] (spText K) := Callee.mono ⟨f14, d14, ok_text F14 T c10, b14, F14.kp, m14⟩ (by decide)
  exact ok_law F15 T L c14 c13 x9
theorem walk {l : PySem.W.OpenLaw} {q : Program} {loose : List Str} {XP : (Str → Option Value) → Heap → Prop} {YP : World → Heap → Prop} {d : DefRec} {K : Params → PySem.W.Frag} (hn : l.most = some 63) (hdf : d.params.defaults = [])
    (hY : ∀ (w : World) (h : Heap), YP w h → (K w.params).In h)
    (F : ∀ (w : World) (mg : Str → Option Value) (fa : Addr) (h : Heap), (K w.params).In h → h.Ns mainGlobals mg → mg d.name = some (.ref fa) →
      ∃ fd : FuncData, (∀ (s : Shared) (u : Value), BindsTo s fd ⟨[u], []⟩ [("_law_script", u)]) ∧ ∀ base : Heap, (K w.params).In base → base.Ns mainGlobals mg → FnOk l.prog w (K w.params) mg base CX0 10 fa fd ["_law_script"] (spLaw (K w.params))) :
    PySem.W.WalkO q loose XP YP l.row.toRowW d [] (fun f vs => PySem.call f vs) :=
  L2.walk_of (n := 63) (k := 10) (x := "_law_script") (CX := fun _ => CX0) (sp := fun w => spLaw (K w.params)) hn (by decide) hdf ⟨rfl, by decide, by decide⟩ hY F (fun _ _ a ns hl _ hS => ⟨a, ns, rfl, hS, hl, fun _ => rfl⟩) fun _ _ _ _ _ z => z
end K5
open PySem PySem.W PyProof.Rows
set_option maxRecDepth 100000 in
set_option maxHeartbeats 0 in
theorem PySem.Challenge.cw_wright_k05_patterns_refused_holds : PySem.Challenge.rw_wright_k05_patterns_refused.Holds := by
  w_on; o_law; k_head; (case hw => w_witness2)
  k_fill
  refine K5.walk (l := PySem.Challenge.rw_wright_k05_patterns_refused) rfl rfl (fun w h Y => PySem.W.kIn_of Y) ?F
  case F =>
    intro w mg fa h KX G hmg
    refine' K5.all_mk KX G hmg ?tp
    constructor
    · refine' K5.hasE_mk ?a ?l
      (case a => k_is); (case l => k_is)
    · refine' K5.hasC_mk ?a ?b ?a3 ?a4 ?a2 ?l ?l2 ?l3 ?c ?d ?e ?f ?g ?i ?j ?k ?m ?n1 ?n2 ?n3 ?n4 ?n5 ?n6 ?n7 ?n8 ?n9 ?n10 ?n11 ?n12 ?n13
      (case a => k_is); (case b => k_is); (case a3 => k_is); (case a4 => k_is); (case a2 => k_is)
      (case l => k_is)
      (case l2 => k_is)
      (case l3 => k_is)
      (case c => kernel_rfl)
      (case d => k_is)
      (case e => kernel_rfl)
      (case f => k_is)
      (case g => k_is)
      (case i => k_is)
      (case j => k_is)
      (case k => k_is)
      (case m => kernel_rfl)
      (case n1 => kernel_rfl)
      (case n2 => kernel_rfl)
      (case n3 => k_is)
      (case n4 => k_is)
      (case n5 => kernel_rfl)
      (case n6 => kernel_rfl)
      (case n7 => k_is)
      (case n8 => k_is)
      (case n9 => kernel_rfl)
      (case n10 => kernel_rfl)
      (case n11 => kernel_rfl)
      (case n12 => kernel_rfl)
      (case n13 => k_is)
    all_goals first | (refine' K5.has_mk ?a ?l ?c ?k; (case a => k_is); (case l => k_is); (case c => k_is); (case k => k_is)) | k_is
