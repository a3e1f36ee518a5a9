import PyProof.Rows.All
import Wide.All
import OpenK.AllK
import Wide.FinOn
import Lean
import PyProof.EqAt
import PyProof.EqKinds
import PyProof.TupleCall
import PyProof.IsiH_list
import PyProof.RaisesAny
import KE.KDictOf
import PyProof.CollectWalk
import PyProof.CompFree
import KE.KDictList
import PyProof.NeKinds
import PyProof.ConsumeWalk
import PyProof.StrBlockI
import PyProof.EnumFor
import PyProof.TupleIter
import PyProof.EnumMake
import PyProof.DictUpdate
import PyProof.SeqI3
import PyProof.DictWalks
import PyProof.ConsumeS
import PyProof.Rows.CallKwBuiltin
import PyProof.AutoListH
import PyProof.ZipIter
import PyProof.ListNew
import KE.KRevSl
import PySem.Challenge.RW_wright_k29_trees_by_anybody
set_option Elab.async false
set_option linter.all false
set_option maxRecDepth 100000

set_option Elab.async false
set_option linter.all false
set_option maxRecDepth 100000
namespace L2
open PySem PySem.Spec PyProof.Rows

abbrev Key := Sum Int Str
def keyIs : Key → Value → Bool
  | .inl k, v => Value.isInt k v
  | .inr x, v => Value.isStrOf x v
def keyH (w : World) : Key → Int
  | .inl k => hashInt k
  | .inr x => hashStr w x
theorem keyIs_shape : ∀ {k : Key} {v : Value}, keyIs k v = true → (∃ i t, k = Sum.inl i ∧ v = Value.int i t) ∨ (∃ x t, k = Sum.inr x ∧ v = Value.str x t)
  | .inl i, v, h => by
    obtain ⟨t, e⟩ := Value.isInt_shape (k := i) (v := v) h
    exact .inl ⟨i, t, rfl, e⟩
  | .inr x, v, h => by
    obtain ⟨t, e⟩ := Value.isStrOf_shape (x := x) (v := v) h
    exact .inr ⟨x, t, rfl, e⟩
theorem keyIs_int (i : Int) (t : Tok) : keyIs (.inl i) (.int i t) = true := by simp [keyIs, Value.isInt]
theorem keyIs_str (x : Str) (t : Tok) : keyIs (.inr x) (.str x t) = true := by simp [keyIs, Value.isStrOf]
theorem key_ll (a b : Int) : decide ((Sum.inl a : Key) = Sum.inl b) = (a == b) := by
  by_cases e : a = b
  · subst e; simp
  · have h : ¬ (Sum.inl a : Key) = Sum.inl b := fun q => e (Sum.inl.inj q)
    rw [decide_eq_false h]
    exact (beq_eq_false_iff_ne.mpr e).symm
theorem key_rr (a b : Str) : decide ((Sum.inr a : Key) = Sum.inr b) = decide (a = b) := by
  by_cases e : a = b
  · subst e; simp
  · have h : ¬ (Sum.inr a : Key) = Sum.inr b := fun q => e (Sum.inr.inj q)
    rw [decide_eq_false h, decide_eq_false e]
theorem key_lr (a : Int) (b : Str) : decide ((Sum.inl a : Key) = Sum.inr b) = false := decide_eq_false (fun q => nomatch q)
theorem key_rl (a : Str) (b : Int) : decide ((Sum.inr a : Key) = Sum.inl b) = false := decide_eq_false (fun q => nomatch q)

def mixKind (prog : Program) (w : World) : PySem.KeyKind prog w Key where
  is := keyIs
  hash := keyH w
  inj := fun v a b ha hb => by
    rcases keyIs_shape ha with ⟨i, t, rfl, rfl⟩ | ⟨x, t, rfl, rfl⟩
    · rcases keyIs_shape hb with ⟨j, u, rfl, e⟩ | ⟨y, u, rfl, e⟩
      · injection e with e1 _; rw [e1]
      · exact nomatch e
    · rcases keyIs_shape hb with ⟨j, u, rfl, e⟩ | ⟨y, u, rfl, e⟩
      · exact nomatch e
      · injection e with e1 _; rw [e1]
  byValue := fun k v h => by
    rcases keyIs_shape h with ⟨i, t, rfl, rfl⟩ | ⟨x, t, rfl, rfl⟩ <;> rfl
  pyHash := fun hv h => by
    rcases keyIs_shape hv with ⟨i, t, rfl, rfl⟩ | ⟨x, t, rfl, rfl⟩
    · exact wpAny_pyHash_int h
    · exact wpAny_pyHash_str h
  eqBool := fun hu hv h => by
    rcases keyIs_shape hu with ⟨i, t, rfl, rfl⟩ | ⟨x, t, rfl, rfl⟩
    · rcases keyIs_shape hv with ⟨j, u, rfl, rfl⟩ | ⟨y, u, rfl, rfl⟩
      · rw [key_ll] at h; exact wpAny_eqBool_int h
      · rw [key_lr] at h; exact SeqAt.EqAt.int_str i t y u _ _ _ _ h
    · rcases keyIs_shape hv with ⟨j, u, rfl, rfl⟩ | ⟨y, u, rfl, rfl⟩
      · rw [key_rl] at h; exact SeqAt.EqAt.str_int x t j u _ _ _ _ h
      · rw [key_rr] at h; exact wpAny_eqBool_str h
  «strs» := fun k x t v h => by
    rcases keyIs_shape h with ⟨i, u, rfl, e⟩ | ⟨y, u, rfl, e⟩
    · exact nomatch e
    · injection e with e1 _
      subst e1
      cases v <;> rfl

theorem mixKind_int (prog : Program) (w : World) (i : Int) (t : Tok) : (mixKind prog w).is (.inl i) (.int i t) = true := keyIs_int i t
theorem mixKind_str (prog : Program) (w : World) (x : Str) (t : Tok) : (mixKind prog w).is (.inr x) (.str x t) = true := keyIs_str x t
end L2

namespace L2
open PySem PySem.Spec PyProof.Rows

inductive V where
  | non | bl (b : Bool) | int (i : Int) | str (x : Str) | byt (b : Array UInt8) | flt (b : UInt64) | ref (a : Addr) | ty (n : String)
  deriving DecidableEq

def RelV : V → Value → Prop
  | .non, u => u = Value.none
  | .bl b, u => u = Value.bool b
  | .int i, u => ∃ t, u = Value.int i t
  | .str x, u => ∃ t, u = Value.str x t
  | .byt b, u => ∃ t, u = Value.bytes b t
  | .flt b, u => ∃ t, u = Value.float b t
  | .ref a, u => u = Value.ref a
  | .ty n, u => u = Value.type n

abbrev Vals : List V → List Value → Prop := Paired RelV
theorem Vals.length {xs : List V} {us : List Value} (r : Vals xs us) : xs.length = us.length := Paired.length r
theorem Vals.get : ∀ {xs : List V} {us : List Value} {i : Nat} {x : V}, Vals xs us → xs[i]? = some x → ∃ u, us[i]? = some u ∧ RelV x u
  | _, _, _, _, .nil, e => by simp at e
  | _, _, 0, _, .cons r _, e => by simp at e; subst e; exact ⟨_, rfl, r⟩
  | _, _, i + 1, x, .cons _ t, e => by
    obtain ⟨u, h1, h2⟩ := Vals.get (i := i) (x := x) t (by simpa using e)
    exact ⟨u, by simpa using h1, h2⟩
theorem Vals.set {x : V} {u : Value} (r : RelV x u) : ∀ {xs : List V} {us : List Value} (i : Nat), Vals xs us → Vals (xs.set i x) (us.set i u)
  | _, _, _, .nil => .nil
  | _, _, 0, .cons _ t => .cons r t
  | _, _, i + 1, .cons q t => .cons q (Vals.set r i t)
theorem Vals.append : ∀ {xs ys : List V} {us ws : List Value}, Vals xs us → Vals ys ws → Vals (xs ++ ys) (us ++ ws)
  | _, _, _, _, .nil, s => s
  | _, _, _, _, .cons r t, s => .cons r (Vals.append t s)
theorem Vals.take : ∀ {xs : List V} {us : List Value} (n : Nat), Vals xs us → Vals (xs.take n) (us.take n)
  | _, _, 0, _ => .nil
  | _, _, _ + 1, .nil => .nil
  | _, _, n + 1, .cons r t => .cons r (Vals.take n t)
theorem Vals.drop : ∀ {xs : List V} {us : List Value} (n : Nat), Vals xs us → Vals (xs.drop n) (us.drop n)
  | _, _, 0, r => r
  | _, _, _ + 1, .nil => .nil
  | _, _, n + 1, .cons _ t => Vals.drop n t

def RelO : Option V → Option Value → Prop
  | some v, some u => RelV v u
  | none, none => True
  | _, _ => False
def KV {κ : Type} : List (κ × V) → List (κ × Value) → Prop := Paired fun (p : κ × V) (q : κ × Value) => p.1 = q.1 ∧ RelV p.2 q.2

def kV : Key → V
  | .inl i => .int i
  | .inr x => .str x

inductive HO where
  /-- a list -/
  | lst (xs : List V)
  /-- a tuple (never changes) -/
  | tup (xs : List V)
  /-- a dict whose keys are ints and texts; one whose keys are tuples of ints and texts (the empty one is both) -/
  | dK (kvs : List (Key × V)) | dT (kvs : List (List Key × V))
  /-- a set of ints: its members, its size -/
  | set (S : Int → Bool) (n : Nat)
  /-- an instance of the class at C, its dict at dx, its attributes -/
  | ins (C dx : Addr) (fs : List (Str × V))
  /-- the dict of the instance at x -/
  | own (x : Addr)
  /-- the dict of an exception -/
  | xd (fs : List (Str × V))
  /-- a bound method, f of x -/
  | met (f x : Addr)
  /-- a range object lo, lo + 1, .. below hi -/
  | rng (lo hi : Int)
  /-- a thing that is known to the object (the script; a dict while a loop walks it): read, never written while it is so -/
  | frz (o : Obj) (u : HO)
  /-- a code object's table -/
  | tbl (ps : Array Value)
  /-- any other thing, by what is true of its one object (a def of one's own: SetO a S n := HO.ext fun h => ..) -/
  | ext (φ : Heap → Prop)

abbrev Hp := Addr → Option HO
def upd (H : Hp) (a : Addr) (o : HO) : Hp := fun b => if b = a then some o else H b
theorem upd_same {H : Hp} {a : Addr} {o : HO} : upd H a o a = some o := by unfold upd; rw [if_pos rfl]
theorem upd_ne {H : Hp} {a b : Addr} {o : HO} (h : b ≠ a) : upd H a o b = H b := by unfold upd; rw [if_neg h]
theorem upd_upd {H : Hp} {a : Addr} {o u : HO} : upd (upd H a o) a u = upd H a u := by
  funext b; unfold upd; split <;> rfl
theorem ne_of_none {H : Hp} {a b : Addr} {o : HO} (h : H a = some o) (h' : H b = none) : a ≠ b := by
  intro e; subst e; rw [h] at h'; cases h'

section
variable (P : Program) (w : World)
def ObjOk (H : Hp) (h : Heap) (a : Addr) : HO → Prop
  | .lst xs => xs.length ≤ sizeLine ∧ ∃ (its : List Value) (n : Nat), Vals xs its ∧ h.get? a = some { cls := .type "list", data := .seq its.toArray n }
  | .tup xs => xs.length ≤ sizeLine ∧ ∃ its : List Value, Vals xs its ∧ IsTup h a its.toArray
  | .dK kvs => kvs.length ≤ sizeLine ∧ (a == sysModules) = false ∧ ∃ vs, KV kvs vs ∧ h.DictOf (mixKind P w) a vs
  | .dT kvs => kvs.length ≤ sizeLine ∧ (a == sysModules) = false ∧ ∃ xs : List (List Key × Addr × Value),
      Paired (fun (p : List Key × V) (q : List Key × Addr × Value) => p.1 = q.1 ∧ H q.2.1 = some (.tup (p.1.map kV)) ∧ RelV p.2 q.2.2) kvs xs ∧
      ∃ o es ep, h.get? a = some o ∧ o.ExactDict ∧ o.data = .dict es ep ∧ es.toList = xs.map (entryOfKey (tupleKind (mixKind P w))) ∧ (xs.map (·.1)).Nodup
  | .set S n => h.SetOf (intKind P w) a S n
  | .ins C dx fs => H dx = some (.own a) ∧ fs.length ≤ 1000 ∧ dx ≠ a ∧ h.get? a = some (PySem.W.instObj C dx) ∧
      ∃ mA, h.Ns1 dx mA ∧ (∀ f, RelO (fs.lookup f) (mA f)) ∧ PySem.Within mA (fs.map (·.1))
  | .own _ => ∃ o, h.get? a = some o
  | .xd fs => ∃ mA, h.Ns1 a mA ∧ ∀ f, RelO (fs.lookup f) (mA f)
  | .rng lo hi => ∃ t u v, h.get? a = some { cls := .type "range", data := .fields #[.int lo t, .int hi u, .int 1 v] }
  | .frz o u => h.get? a = some o ∧ ObjOk H h a u
  | .tbl ps => h.get? a = some { cls := .none, data := .fields ps }
  | .met f x => h.get? a = some (PySem.W.methodObj (.ref f) (.ref x))
  | .ext φ => φ h ∧ (∃ o, h.get? a = some o) ∧ ∀ h1 h2 : Heap, φ h1 → (∀ o, h1.get? a = some o → h2.get? a = some o) → φ h2
def HOk (H : Hp) (h : Heap) : Prop := ∀ a o, H a = some o → ObjOk P w H h a o
end

section
variable {P : Program} {w : World} {H H' : Hp} {h h' : Heap} {a : Addr} {o : HO}
theorem ObjOk.lt (x : ObjOk P w H h a o) : a < h.objs.size := by
  cases o with
  | lst xs => obtain ⟨_, _, _, _, e⟩ := x; exact Heap.lt_size e
  | tup xs => obtain ⟨_, _, _, p⟩ := x; exact p.lt
  | dK kvs => obtain ⟨_, _, _, _, o, _, _, e, _⟩ := x; exact Heap.lt_size e
  | dT kvs => obtain ⟨_, _, _, _, o, _, _, e, _⟩ := x; exact Heap.lt_size e
  | set S n => obtain ⟨o, _, _, _, e, _⟩ := x; exact Heap.lt_size e
  | ins C dx fs => obtain ⟨_, _, _, e, _⟩ := x; exact Heap.lt_size e
  | own y => obtain ⟨_, e⟩ := x; exact Heap.lt_size e
  | xd fs => obtain ⟨_, ⟨_, _, _, e, _⟩, _⟩ := x; exact Heap.lt_size e
  | rng lo hi => obtain ⟨_, _, _, e⟩ := x; exact Heap.lt_size e
  | frz ob u => obtain ⟨e, _⟩ := x; exact Heap.lt_size e
  | tbl ps => exact Heap.lt_size (show h.get? a = some _ from x)
  | met f y => exact Heap.lt_size (show h.get? a = some _ from x)
  | ext φ => obtain ⟨_, ⟨_, e⟩, _⟩ := x; exact Heap.lt_size e
theorem Paired.mapP {α β : Type} {F G : α → β → Prop} : ∀ {l₁ : List α} {l₂ : List β}, Paired F l₁ l₂ → (∀ a b, F a b → G a b) → Paired G l₁ l₂
  | _, _, .nil, _ => .nil
  | _, _, .cons r t, f => .cons (f _ _ r) (Paired.mapP t f)
theorem ObjOk.stay (x : ObjOk P w H h a o) (k : ∀ b u, (b = a ∨ H b = some (.own a)) → h.get? b = some u → h'.get? b = some u)
    (ho : ∀ b, H b = some (.own a) → H' b = some (.own a)) (ht : ∀ b xs, H b = some (.tup xs) → H' b = some (.tup xs)) : ObjOk P w H' h' a o := by
  induction o with
  | lst xs => obtain ⟨z, its, n, r, e⟩ := x; exact ⟨z, its, n, r, k _ _ (.inl rfl) e⟩
  | tup xs => obtain ⟨z, its, r, ob, e, c⟩ := x; exact ⟨z, its, r, ob, k _ _ (.inl rfl) e, c⟩
  | dK kvs => obtain ⟨z, y, vs, r, ob, es, ep, e, c⟩ := x; exact ⟨z, y, vs, r, ob, es, ep, k _ _ (.inl rfl) e, c⟩
  | dT kvs =>
    obtain ⟨z, y, xs, r, ob, es, ep, e, c⟩ := x
    exact ⟨z, y, xs, Paired.mapP r fun p q z => ⟨z.1, ht _ _ z.2.1, z.2.2⟩, ob, es, ep, k _ _ (.inl rfl) e, c⟩
  | set S n => obtain ⟨ob, es, ep, t, e, c⟩ := x; exact ⟨ob, es, ep, t, k _ _ (.inl rfl) e, c⟩
  | ins C dx fs =>
    obtain ⟨d, z, ne, e, mA, ⟨od, es, ep, e2, c⟩, r⟩ := x
    exact ⟨ho _ d, z, ne, k _ _ (.inl rfl) e, mA, ⟨od, es, ep, k _ _ (.inr d) e2, c⟩, r⟩
  | own y => obtain ⟨ob, e⟩ := x; exact ⟨ob, k _ _ (.inl rfl) e⟩
  | xd fs => obtain ⟨mA, ⟨od, es, ep, e, c⟩, r⟩ := x; exact ⟨mA, ⟨od, es, ep, k _ _ (.inl rfl) e, c⟩, r⟩
  | rng lo hi => obtain ⟨t, u, v, e⟩ := x; exact ⟨t, u, v, k _ _ (.inl rfl) e⟩
  | frz ob u ih => obtain ⟨e, q⟩ := x; exact ⟨k _ _ (.inl rfl) e, ih q⟩
  | tbl ps =>
    have e : h.get? a = some { cls := .none, data := .fields ps } := x
    show h'.get? a = some { cls := .none, data := .fields ps }
    exact k a _ (.inl rfl) e
  | met f y =>
    have e : h.get? a = some (PySem.W.methodObj (.ref f) (.ref y)) := x
    show h'.get? a = some (PySem.W.methodObj (.ref f) (.ref y))
    exact k a _ (.inl rfl) e
  | ext φ => obtain ⟨p, ⟨o, e⟩, st⟩ := x; exact ⟨st _ _ p fun o q => k _ _ (.inl rfl) q, ⟨o, k _ _ (.inl rfl) e⟩, st⟩
theorem HOk.lt (x : HOk P w H h) (e : H a = some o) : a < h.objs.size := (x a o e).lt
theorem HOk.fresh (x : HOk P w H h) (e : h.objs.size ≤ a) : H a = none := by
  cases q : H a with
  | none => rfl
  | some u => exact absurd (Nat.lt_of_lt_of_le (x.lt q) e) (Nat.lt_irrefl _)
theorem HOk.kept (x : HOk P w H h) (k : ∀ b u, h.get? b = some u → h'.get? b = some u) : HOk P w H h' := fun a o e =>
  (x a o e).stay (fun b u _ q => k b u q) (fun _ q => q) fun _ _ q => q
theorem HOk.laid (x : HOk P w H h) (k : ∀ b u, h.get? b = some u → h'.get? b = some u) (hp : h.objs.size ≤ a) (new : ObjOk P w (upd H a o) h' a o) : HOk P w (upd H a o) h' := fun b u e => by
  have hn := x.fresh hp
  by_cases hb : b = a
  · subst hb; rw [upd_same] at e; cases e; exact new
  · rw [upd_ne hb] at e
    exact (x b u e).stay (fun c v _ q => k c v q) (fun c q => by rw [upd_ne (ne_of_none q hn)]; exact q) fun c xs q => by rw [upd_ne (ne_of_none q hn)]; exact q
end

def Rd (H : Hp) (a : Addr) (u : HO) : Prop := H a = some u ∨ ∃ o, H a = some (.frz o u)
theorem Rd.of {H : Hp} {a : Addr} {u : HO} (h : H a = some u) : Rd H a u := .inl h
theorem Rd.ok {P : Program} {w : World} {H : Hp} {h : Heap} {a : Addr} {u : HO} (r : Rd H a u) (x : HOk P w H h) : ObjOk P w H h a u := by
  rcases r with r | ⟨o, r⟩
  · exact x a u r
  · obtain ⟨_, q⟩ := x a _ r
    exact q
def Mut : Option HO → Prop
  | some (.lst _) => True
  | some (.dK _) => True
  | some (.dT _) => True
  | some (.set _ _) => True
  | some (.ins _ _ _) => True
  | some (.ext _) => True
  | _ => False
section
variable {P : Program} {w : World} {H : Hp} {h h' : Heap} {x e : Addr} {o' : HO}
theorem HOk.write (ok : HOk P w H h) (mu : Mut (H x)) (he : e = x ∨ H e = some (.own x)) (k : ∀ b u, b ≠ e → h.get? b = some u → h'.get? b = some u) (heo : ∃ u, h'.get? e = some u)
    (new : ObjOk P w (upd H x o') h' x o') : HOk P w (upd H x o') h' := fun b u q => by
  have nown : ∀ c y, H c = some (.own y) → c ≠ x := fun c y r z => by subst z; rw [r] at mu; exact mu
  have ntup : ∀ c xs, H c = some (.tup xs) → c ≠ x := fun c xs r z => by subst z; rw [r] at mu; exact mu
  by_cases hb : b = x
  · subst hb; rw [upd_same] at q; cases q; exact new
  · rw [upd_ne hb] at q
    by_cases hbe : b = e
    · have q' : H b = some (.own x) := by
        rcases he with z | z
        · exact absurd (hbe.trans z) hb
        · rw [hbe]; exact z
      rw [q] at q'; cases q'
      obtain ⟨v, hv⟩ := heo
      exact ⟨v, by rw [hbe]; exact hv⟩
    · refine (ok b u q).stay (fun c v hc r => k c v ?_ r) (fun c r => by rw [upd_ne (nown c b r)]; exact r) fun c xs r => by rw [upd_ne (ntup c xs r)]; exact r
      rcases hc with rfl | hc
      · exact hbe
      · rintro rfl
        rcases he with z | z
        · exact nown c b hc z
        · rw [hc] at z; cases z; exact hb rfl
end

structure Un (fs ex : List Addr) (H H' : Hp) (h h' : Heap) : Prop where
  keep : ∀ b o, h.get? b = some o → H b = none → b ∉ fs → b ∉ ex → h'.get? b = some o
  slot : ∀ b o, h.get? b = some o → H b = none → b ∈ fs → b ∉ ex → ∃ sl, h'.get? b = some { o with slots := sl }
  free : ∀ b o, h.get? b = some o → H b = none → b ∉ ex → H' b = none
  there : ∀ b o, h.get? b = some o → b ∉ ex → ∃ o', h'.get? b = some o'
  tups : ∀ b xs, H b = some (.tup xs) → H' b = some (.tup xs)
  frzs : ∀ b o u, H b = some (.frz o u) → H' b = some (.frz o u)
  tbls : ∀ b ps, H b = some (.tbl ps) → ∃ more, H' b = some (.tbl (ps ++ more))
section
variable {fs fs' ex ex' : List Addr} {H H1 H2 : Hp} {h h1 h2 h' : Heap} {a x e : Addr} {o : HO}
theorem Un.any (u : Un fs ex H H1 h h1) {b : Addr} {ob : Obj} (q : h.get? b = some ob) (n : H b = none) (hx : b ∉ ex) : ∃ sl, h1.get? b = some { ob with slots := sl } := by
  by_cases hb : b ∈ fs
  · exact u.slot b ob q n hb hx
  · exact ⟨ob.slots, u.keep b ob q n hb hx⟩
theorem Un.trans (a : Un fs ex H H1 h h1) (b : Un fs ex H1 H2 h1 h2) : Un fs ex H H2 h h2 where
  keep := fun c ob q n hc hx => b.keep c ob (a.keep c ob q n hc hx) (a.free c ob q n hx) hc hx
  slot := fun c ob q n hc hx => by
    obtain ⟨sl, e1⟩ := a.slot c ob q n hc hx
    obtain ⟨sl', e2⟩ := b.slot c _ e1 (a.free c ob q n hx) hc hx
    exact ⟨sl', e2⟩
  free := fun c ob q n hx => by
    obtain ⟨o', e1⟩ := a.there c ob q hx
    exact b.free c o' e1 (a.free c ob q n hx) hx
  there := fun c ob q hx => by
    obtain ⟨o', e1⟩ := a.there c ob q hx
    exact b.there c o' e1 hx
  tups := fun c xs q => b.tups c xs (a.tups c xs q)
  frzs := fun c ob xs q => b.frzs c ob xs (a.frzs c ob xs q)
  tbls := fun c ps q => by
    obtain ⟨m1, e1⟩ := a.tbls c ps q
    obtain ⟨m2, e2⟩ := b.tbls c _ e1
    exact ⟨m1 ++ m2, by rw [e2, Array.append_assoc]⟩
theorem Un.kept (k : ∀ b u, h.get? b = some u → h'.get? b = some u) : Un fs ex H H h h' :=
  ⟨fun b ob q _ _ _ => k b ob q, fun b ob q _ _ _ => ⟨ob.slots, k b ob q⟩, fun _ _ _ n _ => n, fun b ob q _ => ⟨ob, k b ob q⟩, fun _ _ q => q, fun _ _ _ q => q, fun _ ps q => ⟨#[], by rw [q]; simp⟩⟩
theorem Un.refl : Un fs ex H H h h := Un.kept fun _ _ q => q
theorem Un.laid (k : ∀ b u, h.get? b = some u → h'.get? b = some u) (hp : h.objs.size ≤ a) (hn : H a = none) : Un fs ex H (upd H a o) h h' where
  keep := fun b u q _ _ _ => k b u q
  slot := fun b u q _ _ _ => ⟨u.slots, k b u q⟩
  free := fun b u q n _ => by rw [upd_ne (Nat.ne_of_lt (Nat.lt_of_lt_of_le (Heap.lt_size q) hp))]; exact n
  there := fun b u q _ => ⟨u, k b u q⟩
  tups := fun b xs q => by rw [upd_ne (ne_of_none q hn)]; exact q
  frzs := fun b u xs q => by rw [upd_ne (ne_of_none q hn)]; exact q
  tbls := fun b ps q => ⟨#[], by rw [upd_ne (ne_of_none q hn), q]; simp⟩
theorem Un.write (mu : Mut (H x)) (he : e = x ∨ H e = some (.own x)) (k : ∀ b u, b ≠ e → h.get? b = some u → h'.get? b = some u) (heo : ∃ u, h'.get? e = some u) : Un fs ex H (upd H x o) h h' := by
  have hx : ∀ b, H b = none → b ≠ x := fun b n z => by subst z; rw [n] at mu; exact mu
  have hb : ∀ b, H b = none → b ≠ e := fun b n z => by
    subst z
    rcases he with r | r
    · exact hx b n r
    · rw [n] at r; cases r
  have hm : ∀ b u, H b = some u → ¬ Mut (some u) → b ≠ x := fun b u q nm z => by subst z; rw [q] at mu; exact nm mu
  refine ⟨fun b u q n _ _ => k b u (hb b n) q, fun b u q n _ _ => ⟨u.slots, k b u (hb b n) q⟩, fun b u q n _ => by rw [upd_ne (hx b n)]; exact n, fun b u q _ => ?_,
    fun b xs q => by rw [upd_ne (hm b _ q fun z => z)]; exact q, fun b u xs q => by rw [upd_ne (hm b _ q fun z => z)]; exact q, fun b ps q => ⟨#[], by rw [upd_ne (hm b _ q fun z => z), q]; simp⟩⟩
  by_cases hbe : b = e
  · subst hbe; exact heo
  · exact ⟨u, k b u hbe q⟩
theorem Un.mono (u : Un fs ex H H1 h h1) (hs : ∀ b ∈ fs, b ∈ fs') (hx : ∀ b ∈ ex, b ∈ ex') : Un fs' ex' H H1 h h1 :=
  ⟨fun b ob q n hb he => u.keep b ob q n (fun z => hb (hs b z)) fun z => he (hx b z), fun _ _ q n _ he => u.any q n fun z => he (hx _ z), fun b ob q n he => u.free b ob q n fun z => he (hx b z), fun b ob q he => u.there b ob q fun z => he (hx b z), u.tups, u.frzs, u.tbls⟩
end

def trk (h : Heap) (H : Hp) : List Addr := (List.range h.objs.size).filter fun a => (H a).isSome
def hidT (h : Heap) (H : Hp) : Heap := PySem.W.hideAll h (trk h H)
theorem hidT_size (h : Heap) (H : Hp) : (hidT h H).objs.size = h.objs.size := PySem.W.hideAll_size _ _
theorem hidT_get {h : Heap} {H : Hp} {b : Addr} {o : Obj} (e : h.get? b = some o) (n : H b = none) : (hidT h H).get? b = some o :=
  PySem.W.hideAll_get _ e fun hm => by
    have q : (H b).isSome = true := (List.mem_filter.mp hm).2
    rw [n] at q; simp at q
theorem of_hidT {h : Heap} {H : Hp} {b : Addr} {o : Obj} (e : (hidT h H).get? b = some o) : h.get? b = some o ∧ H b = none := by
  have e' : h.get? b = some o := PySem.W.of_hideAll (trk h H) e
  refine ⟨e', ?_⟩
  cases q : H b with
  | none => rfl
  | some x =>
    have hm : b ∈ trk h H := List.mem_filter.mpr ⟨List.mem_range.mpr (Heap.lt_size e'), by simp [q]⟩
    have z : (hidT h H).get? b = none := PySem.W.hideAll_none (trk h H) hm
    rw [z] at e; cases e

def allNews (g h : Heap) (L : Addr) : List (Addr × Obj) := (List.range h.objs.size).filterMap fun a => if a = L ∨ (g.get? a).isSome = true then none else (h.get? a).map fun o => (a, o)
def rest (g h : Heap) (L d : Addr) : List (Addr × Obj) := (allNews g h L).filter fun p => decide (p.1 ≠ d)
end L2

namespace L2
open PySem PySem.Spec PyProof.Rows

structure Mod (K : PySem.W.Frag) (mg : Str → Option Value) (base : Heap) : Prop where
  kin : K.In base
  glob : base.Ns mainGlobals mg
  blt : ∃ mb, base.Ns builtinsNs mb ∧ ∀ x : Str, x ≠ "__name__" → mb x = bootBuiltins x
  nolimit : base.NoLimit

structure Cx where
  prog : Program
  w : World
  K : PySem.W.Frag
  mg : Str → Option Value
  base : Heap
  A : Around
  N : List Str
  s₀ : Shared
  H₀ : Hp
  env : Env
  outer : List Env
  stack : List Env
  ex : List Addr
  fn : Str → Bool
  calm : Bool
  pn : List (Addr × Obj)
  xe : Value → Shared → Prop
def frs (l : List Env) : List Addr := l.filterMap (·.frame)
abbrev Cx.fs (X : Cx) : List Addr := frs X.outer

def Vis (sc : Scope) (x : Str) : Prop := sc.names.lookup x = some .local ∨ sc.names.lookup x = some .cell ∨ sc.names.lookup x = some .free
def Loc (sc : Scope) (x : Str) : Prop := sc.names.lookup x = some .local ∨ sc.names.lookup x = some .cell
def Look (env : Env) (h : Heap) (m : Str → Option Value) (x : Str) (u : Value) : Prop :=
  (env.kindOf x = some .local ∧ m x = some u) ∨ ((env.kindOf x = some .cell ∨ env.kindOf x = some .free) ∧ ∃ c, env.cells.lookup x = some c ∧ h.IsCell c (some u))

structure Cx.Ok (X : Cx) : Prop where
  mod : Mod X.K X.mg X.base
  kind : X.env.scope.kind = .function
  glob : X.env.globals = mainGlobals
  blt : X.env.builtins = builtinsNs
  above : X.s₀.heap.objs.size ≤ X.env.locals
  inj : ∀ x y c, X.env.cells.lookup x = some c → X.env.cells.lookup y = some c → x = y
  has : ∀ x, (X.env.kindOf x = some .cell ∨ X.env.kindOf x = some .free) → ∃ c, X.env.cells.lookup x = some c
  cab : ∀ x c, X.fn x = true → X.env.cells.lookup x = some c → X.s₀.heap.objs.size ≤ c
  hd : X.calm = true → X.A.handled = none
  frames : X.A.frames = some X.stack
  stk : X.stack = X.outer ∨ (X.stack = X.env :: X.outer ∧ X.env.frame = some X.env.locals)
  exf : ∀ b ∈ X.ex, b ≠ X.env.locals ∧ ∀ x c, X.env.cells.lookup x = some c → c ≠ b
  bs : ∀ b o, X.base.get? b = some o → X.s₀.heap.get? b = some o ∧ X.H₀ b = none
  bsz : X.base.objs.size ≤ X.s₀.heap.objs.size
  noex : ∀ b o, X.base.get? b = some o → b ∉ X.ex
  exfs : ∀ b ∈ X.ex, b ∉ X.fs
  funs : X.s₀.heap.FunFrames X.base X.outer
  frf : ∀ b ∈ X.fs, X.H₀ b = none

structure Inv (X : Cx) (pins : List (Addr × Obj)) (σ : List (Option V)) (H : Hp) (s : Shared) : Prop where
  ok : X.Ok
  os : s.os = X.s₀.os
  bare : AllBare s.gens
  base : Un X.fs X.ex X.H₀ H X.s₀.heap s.heap
  loc : ∃ m, s.heap.Ns X.env.locals m ∧ ∀ (i : Nat) (x : Str) (v : V), X.N[i]? = some x → σ[i]? = some (some v) → Vis X.env.scope x → ∃ u, RelV v u ∧ Look X.env s.heap m x u
  cell : ∀ x c, X.env.cells.lookup x = some c → ∃ v, s.heap.IsCell c v
  free : H X.env.locals = none
  freeC : ∀ x c, X.env.cells.lookup x = some c → H c = none
  pin : ∀ p ∈ X.pn ++ pins, s.heap.get? p.1 = some p.2 ∧ H p.1 = none ∧ p.1 ≠ X.env.locals ∧ p.1 ∉ X.fs ∧ ∀ v, p.2.data ≠ .cell v
  hok : HOk X.prog X.w H s.heap
  len : σ.length = X.N.length

section
variable {X : Cx} {pins : List (Addr × Obj)} {σ : List (Option V)} {H H' : Hp} {s : Shared} {h' : Heap}

theorem Cx.Ok.nofr (ok : X.Ok) {b : Addr} {o : Obj} (e : X.base.get? b = some o) : b ∉ X.fs := fun hb => by
  have := (ok.funs.mem hb).1
  rw [e] at this; cases this
theorem Inv.bs (I : Inv X pins σ H s) : ∀ b o, X.base.get? b = some o → s.heap.get? b = some o ∧ H b = none := fun b o e =>
  ⟨I.base.keep b o (I.ok.bs b o e).1 (I.ok.bs b o e).2 (I.ok.nofr e) (I.ok.noex b o e), I.base.free b o (I.ok.bs b o e).1 (I.ok.bs b o e).2 (I.ok.noex b o e)⟩
theorem Inv.bk (I : Inv X pins σ H s) : ∀ b o, X.base.get? b = some o → s.heap.get? b = some o := fun b o e => (I.bs b o e).1
theorem Inv.mod (I : Inv X pins σ H s) : Mod X.K X.mg X.base := I.ok.mod
theorem Inv.kIn (I : Inv X pins σ H s) : X.K.In s.heap := I.ok.mod.kin.keeps I.bk
theorem Inv.nolimit (I : Inv X pins σ H s) : s.heap.NoLimit := I.ok.mod.nolimit.keeps I.bk
theorem Inv.fr (I : Inv X pins σ H s) : ∃ m, Fr X.base X.env.locals s.heap m :=
  let ⟨m, hn, _⟩ := I.loc
  ⟨m, hn, I.bk, Nat.le_trans I.ok.bsz I.ok.above⟩
theorem Inv.lt (I : Inv X pins σ H s) : X.env.locals < s.heap.objs.size := let ⟨_, hn, _⟩ := I.loc; hn.lt
theorem Inv.sz (I : Inv X pins σ H s) : X.s₀.heap.objs.size ≤ s.heap.objs.size := Nat.le_trans I.ok.above (Nat.le_of_lt I.lt)
theorem Inv.nofs (I : Inv X pins σ H s) {a : Addr} (h : s.heap.objs.size ≤ a) : a ∉ X.fs := fun hb => by
  obtain ⟨_, o, ho, _⟩ := I.ok.funs.mem hb
  exact absurd (Nat.lt_of_lt_of_le (Heap.lt_size ho) (Nat.le_trans I.sz h)) (Nat.lt_irrefl _)
theorem Inv.cne (I : Inv X pins σ H s) : ∀ x c, X.env.cells.lookup x = some c → c ≠ X.env.locals := fun x c e z => by
  obtain ⟨v, o, ho, hd⟩ := I.cell x c e
  obtain ⟨m, ⟨o', es, ep, ho', hd', _⟩, _⟩ := I.loc
  rw [z, ho'] at ho; cases ho; rw [hd'] at hd; cases hd
theorem Inv.funs (I : Inv X pins σ H s) : s.heap.FunFrames X.base X.outer := by
  have all : ∀ (l : List Env), (∀ b ∈ frs l, b ∈ X.fs) → X.s₀.heap.FunFrames X.base l → s.heap.FunFrames X.base l := by
    intro l
    induction l with
    | nil => intro _ _; trivial
    | cons env r ih =>
      intro hs hl
      obtain ⟨hk, ⟨L, o, hf, hn, ho, hd⟩, hr⟩ := hl
      have hL : L ∈ X.fs := hs L (by unfold frs; rw [List.filterMap_cons, hf]; exact List.mem_cons_self)
      obtain ⟨sl, e⟩ := I.base.slot L o ho (I.ok.frf L hL) hL fun z => I.ok.exfs L z hL
      exact ⟨hk, ⟨L, _, hf, hn, e, hd⟩, ih (fun b hb => hs b (by unfold frs; rw [List.filterMap_cons, hf]; exact List.mem_cons_of_mem _ hb)) hr⟩
  exact all X.outer (fun _ hb => hb) I.ok.funs

theorem Inv.stack (I : Inv X pins σ H s) : s.heap.FunFrames X.base X.stack := by
  rcases I.ok.stk with e | ⟨e, hf⟩
  · rw [e]; exact I.funs
  · rw [e]
    obtain ⟨m, hn, _⟩ := I.loc
    refine .cons (by rw [I.ok.kind]; decide) hf hn ?_ I.funs
    exact Heap.get?_none_of_le (Nat.le_trans I.ok.bsz I.ok.above)
theorem Inv.stkSub (I : Inv X pins σ H s) : ∀ b ∈ frs X.stack, b ∈ X.env.locals :: X.fs := fun b hb => by
  rcases I.ok.stk with e | ⟨e, hf⟩
  · rw [e] at hb; exact List.mem_cons_of_mem _ hb
  · rw [e] at hb
    unfold frs at hb
    rw [List.filterMap_cons, hf] at hb
    exact hb
theorem Inv.stkFree (I : Inv X pins σ H s) : ∀ b ∈ frs X.stack, H b = none := fun b hb => by
  rcases List.mem_cons.mp (I.stkSub b hb) with e | hb
  · rw [e]; exact I.free
  · obtain ⟨_, o, ho, _⟩ := I.ok.funs.mem hb
    exact I.base.free b o ho (I.ok.frf b hb) fun z => I.ok.exfs b z hb

theorem Inv.step {g' : Array GenState} {t' : Nat} {d' : Drawn} {ch : List Addr} (I : Inv X pins σ H s)
    (hch : ∀ b ∈ ch, (b ∈ X.ex ∨ X.s₀.heap.objs.size ≤ b) ∧ b ≠ X.env.locals ∧ (∀ x c, X.env.cells.lookup x = some c → c ≠ b) ∧ ∀ p ∈ X.pn ++ pins, p.1 ≠ b)
    (keep : ∀ b o, b ≠ X.env.locals → b ∉ X.fs → b ∉ ch → s.heap.get? b = some o → H b = none → h'.get? b = some o)
    (slot : ∀ b o, b ≠ X.env.locals → b ∈ X.fs → b ∉ ch → s.heap.get? b = some o → H b = none → ∃ sl, h'.get? b = some { o with slots := sl }) (free : ∀ b o, b ∉ ch → s.heap.get? b = some o → H b = none → H' b = none)
    (there : ∀ b o, b ∉ ch → s.heap.get? b = some o → ∃ o', h'.get? b = some o')
    (tups : ∀ b xs, H b = some (.tup xs) → H' b = some (.tup xs)) (frzs : ∀ b o u, H b = some (.frz o u) → H' b = some (.frz o u)) (tbls : ∀ b ps, H b = some (.tbl ps) → ∃ more, H' b = some (.tbl (ps ++ more)))
    (ns : ∀ m, s.heap.Ns X.env.locals m → h'.Ns X.env.locals m) (hok : HOk X.prog X.w H' h') (hg : AllBare g') :
    Inv X pins σ H' { s with heap := h', gens := g', drawn := d', toks := t' } := by
  have neL : ∀ b o, X.s₀.heap.get? b = some o → b ≠ X.env.locals := fun b o e => Nat.ne_of_lt (Nat.lt_of_lt_of_le (Heap.lt_size e) I.ok.above)
  have neC : ∀ b o, X.s₀.heap.get? b = some o → b ∉ X.ex → b ∉ ch := fun b o e hx hb => by
    rcases (hch b hb).1 with z | z
    · exact hx z
    · exact absurd (Nat.lt_of_lt_of_le (Heap.lt_size e) z) (Nat.lt_irrefl _)
  have cellK : ∀ x c, X.env.cells.lookup x = some c → ∀ v, s.heap.IsCell c v → h'.IsCell c v := fun x c e v ⟨o, ho, hd⟩ => by
    have nch : c ∉ ch := fun z => (hch c z).2.2.1 x c e rfl
    by_cases hc : c ∈ X.fs
    · obtain ⟨sl, q⟩ := slot c o (I.cne x c e) hc nch ho (I.freeC x c e)
      exact ⟨_, q, hd⟩
    · exact ⟨o, keep c o (I.cne x c e) hc nch ho (I.freeC x c e), hd⟩
  refine ⟨I.ok, I.os, hg, ⟨fun b o e n hb hx => ?_, fun b o e n hb hx => ?_, fun b o e n hx => ?_, fun b o e hx => ?_, fun b xs e => tups b xs (I.base.tups b xs e), fun b o xs e => frzs b o xs (I.base.frzs b o xs e), fun b ps e => ?_⟩, ?_, fun x c e => ?_, ?_, fun x c e => ?_, fun p hp => ?_, hok, I.len⟩
  · exact keep b o (neL b o e) hb (neC b o e hx) (I.base.keep b o e n hb hx) (I.base.free b o e n hx)
  · obtain ⟨sl, e1⟩ := I.base.slot b o e n hb hx
    obtain ⟨sl', e2⟩ := slot b _ (neL b o e) hb (neC b o e hx) e1 (I.base.free b o e n hx)
    exact ⟨sl', e2⟩
  · obtain ⟨o', e1⟩ := I.base.there b o e hx
    exact free b o' (neC b o e hx) e1 (I.base.free b o e n hx)
  · obtain ⟨o', e1⟩ := I.base.there b o e hx
    exact there b o' (neC b o e hx) e1
  · obtain ⟨m1, e1⟩ := I.base.tbls b ps e
    obtain ⟨m2, e2⟩ := tbls b _ e1
    exact ⟨m1 ++ m2, by rw [e2, Array.append_assoc]⟩
  · obtain ⟨m, hn, hl⟩ := I.loc
    refine ⟨m, ns m hn, fun i x v e1 e2 e3 => ?_⟩
    obtain ⟨u, r, l⟩ := hl i x v e1 e2 e3
    refine ⟨u, r, ?_⟩
    rcases l with l | ⟨k, c, e, z⟩
    · exact .inl l
    · exact .inr ⟨k, c, e, cellK x c e _ z⟩
  · obtain ⟨v, z⟩ := I.cell x c e
    exact ⟨v, cellK x c e v z⟩
  · obtain ⟨m, ⟨o, _, _, ho, _⟩, _⟩ := I.loc
    exact free _ o (fun z => (hch _ z).2.1 rfl) ho I.free
  · obtain ⟨v, o, ho, hd⟩ := I.cell x c e
    exact free c o (fun z => (hch c z).2.2.1 x c e rfl) ho (I.freeC x c e)
  · obtain ⟨e, n, ne, nf, d⟩ := I.pin p hp
    have nch : p.1 ∉ ch := fun z => (hch p.1 z).2.2.2 p hp rfl
    exact ⟨keep p.1 p.2 ne nf nch e n, free p.1 p.2 nch e n, ne, nf, d⟩
theorem Inv.un {t' : Nat} (I : Inv X pins σ H s) (u : Un X.fs [] H H' s.heap h') (hok : HOk X.prog X.w H' h') : Inv X pins σ H' { s with heap := h', toks := t' } := by
  obtain ⟨m, ⟨o, es, ep, ho, r⟩, _⟩ := id I.loc
  obtain ⟨sl, hL⟩ := u.any ho I.free (by simp)
  exact I.step (g' := s.gens) (d' := s.drawn) (ch := []) (fun _ z => nomatch z) (fun b o _ hb _ e n => u.keep b o e n hb (by simp)) (fun b o _ hb _ e n => u.slot b o e n hb (by simp)) (fun b o _ e n => u.free b o e n (by simp)) (fun b o _ e => u.there b o e (by simp)) u.tups u.frzs u.tbls (fun m' hm => by
    obtain ⟨o', es', ep', ho', r'⟩ := hm
    rw [ho] at ho'; cases ho'
    exact ⟨_, es', ep', hL, r'⟩) hok I.bare
theorem Inv.call {g' : Array GenState} {t' : Nat} {d' : Drawn} {ch : List Addr} (I : Inv X pins σ H s) (u : Un (frs X.stack) ch H H' s.heap h') (hok : HOk X.prog X.w H' h') (hg : AllBare g')
    (hch : ∀ b ∈ ch, (b ∈ X.ex ∨ X.s₀.heap.objs.size ≤ b) ∧ b ≠ X.env.locals ∧ (∀ x c, X.env.cells.lookup x = some c → c ≠ b) ∧ ∀ p ∈ X.pn ++ pins, p.1 ≠ b) :
    Inv X pins σ H' { s with heap := h', gens := g', drawn := d', toks := t' } := by
  obtain ⟨m, ⟨o, es, ep, ho, r⟩, _⟩ := id I.loc
  obtain ⟨sl, hL⟩ := u.any ho I.free fun z => (hch _ z).2.1 rfl
  exact I.step (ch := ch) hch (fun b o hL hb hc e n => u.keep b o e n (fun z => (List.mem_cons.mp (I.stkSub b z)).elim hL hb) hc) (fun b o _ _ hc e n => u.any e n hc) (fun b o hc e n => u.free b o e n hc) (fun b o hc e => u.there b o e hc) u.tups u.frzs u.tbls (fun m' hm => by
    obtain ⟨o', es', ep', ho', r'⟩ := hm
    rw [ho] at ho'; cases ho'
    exact ⟨_, es', ep', hL, r'⟩) hok hg
theorem Inv.turned {t' : Nat} {it : Addr} (I : Inv X pins σ H s) (k : ∀ b o, b ≠ it → s.heap.get? b = some o → h'.get? b = some o) (hn : H it = none) (hL : it ≠ X.env.locals)
    (h1 : it ∈ X.ex ∨ X.s₀.heap.objs.size ≤ it) (h2 : ∀ x c, X.env.cells.lookup x = some c → c ≠ it) (h3 : ∀ p ∈ X.pn ++ pins, p.1 ≠ it) : Inv X pins σ H { s with heap := h', toks := t' } := by
  have nit : ∀ b u, H b = some u → b ≠ it := fun b u e z => by rw [z, hn] at e; cases e
  refine I.step (g' := s.gens) (d' := s.drawn) (ch := [it]) (fun b hb => ?_) (fun b o _ _ hc e _ => k b o (fun z => hc (by simp [z])) e) (fun b o _ _ hc e _ => ⟨o.slots, k b o (fun z => hc (by simp [z])) e⟩) (fun _ _ _ _ n => n)
    (fun b o hc e => ⟨o, k b o (fun z => hc (by simp [z])) e⟩) (fun _ _ e => e) (fun _ _ _ e => e) (fun b ps e => ⟨#[], by rw [e]; simp⟩) (fun m hm => ?_) (fun b u e => ?_) I.bare
  · have e : b = it := by simpa using hb
    subst e
    exact ⟨h1, hL, h2, h3⟩
  · obtain ⟨o, es, ep, ho, r⟩ := hm
    exact ⟨o, es, ep, k _ o (Ne.symm hL) ho, r⟩
  · refine (I.hok b u e).stay (fun c v hc q => k c v ?_ q) (fun _ q => q) fun _ _ q => q
    rcases hc with z | z
    · rw [z]; exact nit b u e
    · exact nit c _ z
theorem Inv.tok (I : Inv X pins σ H s) (t : Nat) : Inv X pins σ H { s with toks := t } := I.un (h' := s.heap) (t' := t) Un.refl I.hok
theorem Inv.kept {t' : Nat} (I : Inv X pins σ H s) (k : ∀ b u, s.heap.get? b = some u → h'.get? b = some u) : Inv X pins σ H { s with heap := h', toks := t' } := I.un (Un.kept k) (I.hok.kept k)
theorem Inv.laid {a : Addr} {o : HO} {t' : Nat} (I : Inv X pins σ H s) (k : ∀ b u, s.heap.get? b = some u → h'.get? b = some u) (hp : s.heap.objs.size ≤ a) (new : ObjOk X.prog X.w (upd H a o) h' a o) :
    Inv X pins σ (upd H a o) { s with heap := h', toks := t' } := I.un (Un.laid k hp (I.hok.fresh hp)) (I.hok.laid k hp new)
theorem Inv.write {x e : Addr} {o : HO} {t' : Nat} (I : Inv X pins σ H s) (mu : Mut (H x)) (he : e = x ∨ H e = some (.own x)) (k : ∀ b u, b ≠ e → s.heap.get? b = some u → h'.get? b = some u) (heo : ∃ u, h'.get? e = some u)
    (new : ObjOk X.prog X.w (upd H x o) h' x o) : Inv X pins σ (upd H x o) { s with heap := h', toks := t' } := I.un (Un.write mu he k heo) (I.hok.write mu he k heo new)
theorem Inv.pins_of {pins' : List (Addr × Obj)} (I : Inv X pins σ H s) (h : ∀ p ∈ pins', s.heap.get? p.1 = some p.2 ∧ H p.1 = none ∧ p.1 ≠ X.env.locals ∧ p.1 ∉ X.fs ∧ ∀ v, p.2.data ≠ .cell v) : Inv X pins' σ H s :=
  ⟨I.ok, I.os, I.bare, I.base, I.loc, I.cell, I.free, I.freeC, fun p hp => (List.mem_append.mp hp).elim (fun z => I.pin p (List.mem_append_left _ z)) (h p), I.hok, I.len⟩

theorem nodup_ix {N : List Str} (hN : N.Nodup) {i j : Nat} {x : Str} (a : N[i]? = some x) (b : N[j]? = some x) : i = j := by
  obtain ⟨h1, e1⟩ := List.getElem?_eq_some_iff.mp a
  obtain ⟨h2, e2⟩ := List.getElem?_eq_some_iff.mp b
  exact (List.getElem_inj hN).mp (e1.trans e2.symm)

theorem store_ok2 {M : Model} {A : Around} {E : Value → Shared → Prop} {i : Nat} {x : Str} {v : V} {u : Value} {Q : Unit → Shared → Prop} (I : Inv X pins σ H s) (hN : X.N.Nodup) (hi : X.N[i]? = some x) (hx : Loc X.env.scope x) (r : RelV v u)
    (h : ∀ s', Inv X pins (σ.set i (some v)) H s' → (∃ a, Heap.SameBut a s.heap s'.heap ∧ (a = X.env.locals ∨ X.env.cells.lookup x = some a)) → Q () s') (hf : X.fn x = true ∨ X.env.scope.names.lookup x = some .local := by first | exact .inl rfl | exact .inr rfl | assumption) : wpAny M A (storeName X.env x u) Q E s := by
  obtain ⟨m, hn, hl⟩ := id I.loc
  have hcls : (X.env.scope.kind == .class || (X.env.scope.kind == .module && X.env.locals != X.env.globals)) = false := by rw [I.ok.kind]; rfl
  have hiσ : i < σ.length := by rw [I.len]; exact (List.getElem?_eq_some_iff.mp hi).1
  have cne := I.cne
  have tracked : ∀ {a : Addr} {h' : Heap}, (∃ o, s.heap.get? a = some o ∧ H a = none) → Heap.SameBut a s.heap h' → HOk X.prog X.w H h' := fun {a h'} ha hs b ob e => by
    obtain ⟨_, _, hfree⟩ := ha
    refine (I.hok b ob e).stay (fun c w' hc q => (hs.2 c ?_).trans q) (fun _ q => q) fun _ _ q => q
    rintro rfl
    rcases hc with rfl | hc
    · rw [hfree] at e; cases e
    · rw [hfree] at hc; cases hc
  rcases hx with hk | hk
  · refine wpAny_storeName_local hk hn (fun h' hn' hs => ?_) hcls
    obtain ⟨oL, _, _, hoL, _⟩ := id hn
    refine h _ ⟨I.ok, I.os, I.bare, ⟨fun b o e n hb hx => ?_, fun b o e n hb hx => ?_, I.base.free, fun b o e hx => ?_, I.base.tups, I.base.frzs, I.base.tbls⟩, ⟨_, hn', fun j y v' e1 e2 e3 => ?_⟩, fun y c e => ?_, I.free, I.freeC, fun p hp => ?_, tracked ⟨oL, hoL, I.free⟩ hs, by simpa using I.len⟩ ⟨_, hs, .inl rfl⟩
    · exact (hs.2 b (Nat.ne_of_lt (Nat.lt_of_lt_of_le (Heap.lt_size e) I.ok.above))).trans (I.base.keep b o e n hb hx)
    · obtain ⟨sl, e1⟩ := I.base.slot b o e n hb hx
      exact ⟨sl, (hs.2 b (Nat.ne_of_lt (Nat.lt_of_lt_of_le (Heap.lt_size e) I.ok.above))).trans e1⟩
    · obtain ⟨o', e1⟩ := I.base.there b o e hx
      exact ⟨o', (hs.2 b (Nat.ne_of_lt (Nat.lt_of_lt_of_le (Heap.lt_size e) I.ok.above))).trans e1⟩
    · by_cases hj : j = i
      · subst hj
        rw [hi] at e1; cases e1
        rw [List.getElem?_set_self hiσ] at e2
        cases e2
        exact ⟨u, r, .inl ⟨hk, by simp⟩⟩
      · rw [List.getElem?_set_ne (Ne.symm hj)] at e2
        obtain ⟨u', r', q⟩ := hl j y v' e1 e2 e3
        refine ⟨u', r', ?_⟩
        rcases q with ⟨k, e⟩ | ⟨k, c, e, z⟩
        · refine .inl ⟨k, ?_⟩
          have : y ≠ x := fun e => hj (nodup_ix hN e1 (e ▸ hi))
          simp [this, e]
        · exact .inr ⟨k, c, e, z.sameBut hs (cne y c e)⟩
    · obtain ⟨w', z⟩ := I.cell y c e
      exact ⟨w', z.sameBut hs (cne y c e)⟩
    · obtain ⟨e, n, ne, nf, d⟩ := I.pin p hp
      exact ⟨(hs.2 p.1 ne).trans e, n, ne, nf, d⟩
  · have hfn : X.fn x = true := by
      rcases hf with z | z
      · exact z
      · rw [z] at hk; cases hk
    obtain ⟨c, hc⟩ := I.ok.has x (.inl hk)
    obtain ⟨w', z⟩ := I.cell x c hc
    refine wpAny_storeName_cell I.ok.kind hk hc z (fun h' hc' hs => ?_)
    obtain ⟨oc, hoc, hocd⟩ := id z
    refine h { s with heap := h' } ⟨I.ok, I.os, I.bare, ⟨fun b o e n hb hx => ?_, fun b o e n hb hx => ?_, I.base.free, fun b o e hx => ?_, I.base.tups, I.base.frzs, I.base.tbls⟩, ⟨m, hn.sameBut hs (Ne.symm (cne x c hc)), fun j y v' e1 e2 e3 => ?_⟩, fun y c' e => ?_, I.free, I.freeC, fun p hp => ?_, tracked ⟨oc, hoc, I.freeC x c hc⟩ hs, by simpa using I.len⟩ ⟨c, hs, .inr hc⟩
    · exact (hs.2 b (Nat.ne_of_lt (Nat.lt_of_lt_of_le (Heap.lt_size e) (I.ok.cab x c hfn hc)))).trans (I.base.keep b o e n hb hx)
    · obtain ⟨sl, e1⟩ := I.base.slot b o e n hb hx
      exact ⟨sl, (hs.2 b (Nat.ne_of_lt (Nat.lt_of_lt_of_le (Heap.lt_size e) (I.ok.cab x c hfn hc)))).trans e1⟩
    · obtain ⟨o', e1⟩ := I.base.there b o e hx
      exact ⟨o', (hs.2 b (Nat.ne_of_lt (Nat.lt_of_lt_of_le (Heap.lt_size e) (I.ok.cab x c hfn hc)))).trans e1⟩
    · by_cases hj : j = i
      · subst hj
        rw [hi] at e1; cases e1
        rw [List.getElem?_set_self hiσ] at e2
        cases e2
        exact ⟨u, r, .inr ⟨.inl hk, c, hc, hc'⟩⟩
      · rw [List.getElem?_set_ne (Ne.symm hj)] at e2
        obtain ⟨u', r', q⟩ := hl j y v' e1 e2 e3
        refine ⟨u', r', ?_⟩
        rcases q with q | ⟨k, c', e, z'⟩
        · exact .inl q
        · refine .inr ⟨k, c', e, z'.sameBut hs ?_⟩
          rintro rfl
          exact hj (nodup_ix hN e1 (I.ok.inj _ _ _ e hc ▸ hi))
    · by_cases hcc : c' = c
      · subst hcc; exact ⟨_, hc'⟩
      · obtain ⟨w2, z2⟩ := I.cell y c' e
        exact ⟨w2, z2.sameBut hs hcc⟩
    · obtain ⟨e, n, ne, nf, d⟩ := I.pin p hp
      refine ⟨(hs.2 p.1 ?_).trans e, n, ne, nf, d⟩
      intro q
      rw [q, hoc] at e
      have q' : oc = p.2 := Option.some.inj e
      exact d w' (by rw [← q']; exact hocd)
theorem store_ok {M : Model} {A : Around} {E : Value → Shared → Prop} {i : Nat} {x : Str} {v : V} {u : Value} {Q : Unit → Shared → Prop} (I : Inv X pins σ H s) (hN : X.N.Nodup) (hi : X.N[i]? = some x) (hx : Loc X.env.scope x) (r : RelV v u)
    (h : ∀ s', Inv X pins (σ.set i (some v)) H s' → Q () s') (hf : X.fn x = true ∨ X.env.scope.names.lookup x = some .local := by first | exact .inl rfl | exact .inr rfl | assumption) : wpAny M A (storeName X.env x u) Q E s :=
  store_ok2 I hN hi hx r (fun s' I' _ => h s' I') hf
theorem Inv.call' {s' : Shared} {ch : List Addr} (I : Inv X pins σ H s) (ho : s'.os = s.os) (u : Un (frs X.stack) ch H H' s.heap s'.heap) (hok : HOk X.prog X.w H' s'.heap) (hg : AllBare s'.gens)
    (hch : ∀ b ∈ ch, (b ∈ X.ex ∨ X.s₀.heap.objs.size ≤ b) ∧ b ≠ X.env.locals ∧ (∀ x c, X.env.cells.lookup x = some c → c ≠ b) ∧ ∀ p ∈ X.pn ++ pins, p.1 ≠ b) : Inv X pins σ H' s' := by
  obtain ⟨h', g', d', t', o'⟩ := s'
  have e : o' = s.os := ho
  subst e
  exact I.call (g' := g') (t' := t') (d' := d') u hok hg hch
end

abbrev XK := Value → Option Addr → Hp → Prop
abbrev St := List (Option V)
abbrev VK := V → Hp → Prop
abbrev TE := St → Hp → VK → Prop
abbrev TT := St → Hp → (Bool → Hp → Prop) → Prop
abbrev TA := St → Hp → (List V → Hp → Prop) → Prop
structure Ends where
  nx : St → Hp → Prop
  rt : VK
  bk : St → Hp → Prop := fun _ _ => False
  ct : St → Hp → Prop := fun _ _ => False
abbrev TS := Ends → St → Hp → Prop

def EP (X : Cx) (pins : List (Addr × Obj)) (σ : St) (Q : VK) (u : Value) (s' : Shared) : Prop := ∃ v H', Inv X pins σ H' s' ∧ RelV v u ∧ Q v H'
def TP (X : Cx) (pins : List (Addr × Obj)) (σ : St) (Q : Bool → Hp → Prop) (b : Bool) (s' : Shared) : Prop := ∃ H', Inv X pins σ H' s' ∧ Q b H'
def AP (X : Cx) (pins : List (Addr × Obj)) (σ : St) (Q : List V → Hp → Prop) (us : List Value) (s' : Shared) : Prop := ∃ vs H', Inv X pins σ H' s' ∧ Vals vs us ∧ Q vs H'
def SP (X : Cx) (pins : List (Addr × Obj)) (D : Ends) (f : Flow) (s' : Shared) : Prop :=
  match f with
  | .next => ∃ σ' H', Inv X pins σ' H' s' ∧ D.nx σ' H'
  | .brk => ∃ σ' H', Inv X pins σ' H' s' ∧ D.bk σ' H'
  | .cont => ∃ σ' H', Inv X pins σ' H' s' ∧ D.ct σ' H'
  | .ret u => ∃ v σ' H', Inv X pins σ' H' s' ∧ RelV v u ∧ D.rt v H'

def PE (X : Cx) (e : Expr) (t : TE) : Prop :=
  ∀ (pins : List (Addr × Obj)) (s : Shared) (σ : St) (H : Hp) (Q : VK), Inv X pins σ H s → t σ H Q → wpAny (model X.prog X.w) X.A (eval e X.env) (EP X pins σ Q) X.xe s
def PT (X : Cx) (e : Expr) (t : TT) : Prop :=
  ∀ (pins : List (Addr × Obj)) (s : Shared) (σ : St) (H : Hp) (Q : Bool → Hp → Prop), Inv X pins σ H s → t σ H Q → wpAny (model X.prog X.w) X.A (isTrue e X.env (eval e X.env)) (TP X pins σ Q) X.xe s
def PW (X : Cx) (e : Expr) (t : TT) : Prop :=
  ∀ (whole : Sem Value) (pins : List (Addr × Obj)) (s : Shared) (σ : St) (H : Hp) (Q : Bool → Hp → Prop), Inv X pins σ H s → t σ H Q → wpAny (model X.prog X.w) X.A (isTrue e X.env whole) (TP X pins σ Q) X.xe s
theorem PW.pt {X : Cx} {e : Expr} {t : TT} (h : PW X e t) : PT X e t := h _
def PA (X : Cx) (es : List Expr) (t : TA) : Prop :=
  ∀ (pos : Pos) (pins : List (Addr × Obj)) (s : Shared) (σ : St) (H : Hp) (Q : List V → Hp → Prop), Inv X pins σ H s → t σ H Q → wpAny (model X.prog X.w) X.A (spliced (backTo pos (starEach es X.env))) (AP X pins σ Q) X.xe s
def PS (X : Cx) (st : Stmt) (t : TS) : Prop :=
  ∀ (pins : List (Addr × Obj)) (s : Shared) (σ : St) (H : Hp) (D : Ends), Inv X pins σ H s → t D σ H → wpAny (model X.prog X.w) X.A (exec st X.env) (SP X pins D) X.xe s
def PSs (X : Cx) (st : List Stmt) (t : TS) : Prop :=
  ∀ (pins : List (Addr × Obj)) (s : Shared) (σ : St) (H : Hp) (D : Ends), Inv X pins σ H s → t D σ H → wpAny (model X.prog X.w) X.A (execs st X.env) (SP X pins D) X.xe s
theorem thn {α : Type} {t : Sem α} {Q Q' : α → Shared → Prop} {M : Model} {A : Around} {E : Value → Shared → Prop} {s : Shared} (h : wpAny M A t Q E s) (hQ : ∀ a s, Q a s → Q' a s) : wpAny M A t Q' E s := wpAny_mono h hQ fun _ _ x => x
end L2

namespace L2
open PySem PySem.Spec PyProof.Rows
section
variable {X : Cx}

theorem bin {a b : Expr} {ta tb : TE} (ha : PE X a ta) (hb : PE X b tb) {pins : List (Addr × Obj)} {s : Shared} {σ : St} {H : Hp} {R : V → V → Hp → Prop} (I : Inv X pins σ H s) (h : ta σ H fun x H1 => tb σ H1 fun y H2 => R x y H2)
    {α : Type} {Q : α → Shared → Prop} {f : Value → Value → Sem α}
    (hf : ∀ v u s2 x y H2, Inv X pins σ H2 s2 → RelV x v → RelV y u → R x y H2 → wpAny (model X.prog X.w) X.A (f v u) Q X.xe s2) :
    wpAny (model X.prog X.w) X.A (eval a X.env) (fun v s₁ => wpAny (model X.prog X.w) X.A (eval b X.env) (fun u s₂ => wpAny (model X.prog X.w) X.A (f v u) Q X.xe s₂) X.xe s₁) X.xe s := by
  refine thn (ha pins s σ H _ I h) fun v s1 ⟨x, H1, I1, r1, q1⟩ => ?_
  refine thn (hb pins s1 σ H1 _ I1 q1) fun u s2 ⟨y, H2, I2, r2, q2⟩ => ?_
  exact hf v u s2 x y H2 I2 r1 r2 q2

def tVar (i : Nat) : TE := fun σ H Q => ∃ v, σ[i]? = some (some v) ∧ Q v H
def tC (v : V) : TE := fun _ H Q => Q v H
theorem pe_var {i : Nat} {x : Str} {pos : Pos} (hN : X.N[i]? = some x) (hv : Vis X.env.scope x) (hd : (x == ("__debug__" : Str)) = false := by decide) (hcd : (x == ("__classdict__" : Str)) = false := by decide) : PE X (.Name x pos) (tVar i) := by
  intro pins s σ H Q I h
  obtain ⟨v, e, h⟩ := h
  obtain ⟨m, hn, hl⟩ := I.loc
  obtain ⟨u, r, l⟩ := hl i x v hN e hv
  have fin : EP X pins σ Q u s := ⟨v, H, I, r, h⟩
  rcases l with ⟨hk, hm⟩ | ⟨hk, c, hc, hcell⟩
  · exact wpAny_Name (wpAny_loadName_local I.ok.kind hk hn hm fin) hd
  · rcases hk with hk | hk
    · exact wpAny_Name (wpAny_loadName_cell I.ok.kind hk hc hcell fin) hd
    · exact wpAny_Name (wpAny_loadName_free I.ok.kind hk hc hcell fin hcd) hd
theorem pe_int {i j pos} : PE X (.Constant (.int i) j pos) (tC (.int i)) := fun _ _ _ H _ I h => wpAny_Constant_int ⟨.int i, H, I.tok _, ⟨_, rfl⟩, h⟩
theorem pe_bl {b j pos} : PE X (.Constant (.bool b) j pos) (tC (.bl b)) := fun _ _ _ H _ I h => Constant_bool ⟨.bl b, H, I, rfl, h⟩
theorem pe_str {x j pos} : PE X (.Constant (.str x) j pos) (tC (.str x)) := fun _ _ _ H _ I h => Calls.Constant_str ⟨.str x, H, I.tok _, ⟨_, rfl⟩, h⟩

def Gl (X : Cx) (x : Str) : Prop := X.env.kindOf x = some .globalImplicit
theorem ld_glob {E : Value → Shared → Prop} {pins : List (Addr × Obj)} {s : Shared} {σ : St} {H : Hp} {x : Str} {u : Value} {pos : Pos} {Q : Value → Shared → Prop} (I : Inv X pins σ H s) (hg : Gl X x) (hm : X.mg x = some u) (h : Q u s)
    (hd : (x == ("__debug__" : Str)) = false := by decide) : wpAny (model X.prog X.w) X.A (eval (.Name x pos) X.env) Q E s :=
  Calls.Name_function_global I.ok.kind hg (Calls.loadGlobal_global (by rw [I.ok.glob]; exact I.mod.glob.keeps I.bk) hm h) hd
theorem ld_blt {E : Value → Shared → Prop} {pins : List (Addr × Obj)} {s : Shared} {σ : St} {H : Hp} {x : Str} {u : Value} {pos : Pos} {Q : Value → Shared → Prop} (I : Inv X pins σ H s) (hg : Gl X x) (hm : X.mg x = none) (hv : bootBuiltins x = some u) (h : Q u s)
    (hn : x ≠ "__name__" := by decide) (hd : (x == ("__debug__" : Str)) = false := by decide) : wpAny (model X.prog X.w) X.A (eval (.Name x pos) X.env) Q E s := by
  obtain ⟨mb, h1, h2⟩ := I.mod.blt
  exact Calls.Name_function_global I.ok.kind hg (Calls.loadGlobal_builtin (by rw [I.ok.glob]; exact I.mod.glob.keeps I.bk) hm (by rw [I.ok.blt]; exact h1.keeps I.bk) ((h2 x hn).trans hv) h) hd
theorem pe_bltn {x : Str} {v : V} {u : Value} {pos : Pos} (hg : Gl X x) (hm : X.mg x = none) (hv : bootBuiltins x = some u) (r : RelV v u) (hn : x ≠ "__name__" := by decide) (hd : (x == ("__debug__" : Str)) = false := by decide) : PE X (.Name x pos) (tC v) :=
  fun _ _ _ H _ I h => ld_blt I hg hm hv ⟨v, H, I, r, h⟩ hn hd

variable {a b : Expr} {ta tb : TE} {pos : Pos}

def PC (X : Cx) (op : CmpOp) (a b : Expr) (t : TE) : Prop :=
  ∀ (pins : List (Addr × Obj)) (s : Shared) (σ : St) (H : Hp) (Q : VK), Inv X pins σ H s → t σ H Q →
    wpAny (model X.prog X.w) X.A (eval a X.env) (fun v s₁ => wpAny (model X.prog X.w) X.A (eval b X.env) (fun u s₂ => wpAny (model X.prog X.w) X.A (compareOp op v u) (EP X pins σ Q) X.xe s₂) X.xe s₁) X.xe s
theorem nobehind (b : Expr) {op : CmpOp} (h : op ≠ .In) (h2 : op ≠ .NotIn) : behindInMarks op b = false := by
  have e1 : (op == CmpOp.In) = false := by cases op <;> first | rfl | exact absurd rfl h
  have e2 : (op == CmpOp.NotIn) = false := by cases op <;> first | rfl | exact absurd rfl h2
  cases b <;> simp [behindInMarks, e1, e2]
def tB (t : TE) : TT := fun σ H Q => t σ H fun x H1 => ∃ c, x = .bl c ∧ Q c H1
theorem pt_cmp {op : CmpOp} {t : TE} (h : PC X op a b t) (h1 : behindInMarks op b = false := by first | exact nobehind _ (by decide) (by decide) | rfl) : PT X (.Compare a [op] [b] pos) (tB t) := by
  intro pins s σ H Q I hw
  refine wpAny_isTrue_Compare1 (thn (h pins s σ H _ I hw) fun v s1 h1 => thn h1 fun u s2 h2 => thn h2 fun c s3 ⟨x, H1, I1, r1, q1⟩ => ?_) h1
  obtain ⟨d, rfl, q⟩ := q1
  cases r1
  exact wpAny_truthy_bool ⟨H1, I1, q⟩
theorem pt_val {e : Expr} {t : TE} (h : PE X e t) (he : ∀ whole, isTrue e X.env whole = (do let v ← whole; standAt e.pos; holding [v] (truthy v)) := by intro _; rfl) : PT X e (tB t) := by
  intro pins s σ H Q I hw
  refine isTrue_plain (thn (h pins s σ H _ I hw) fun v s1 ⟨x, H1, I1, r1, q1⟩ => ?_) (he _)
  obtain ⟨d, rfl, q⟩ := q1
  cases r1
  exact wpAny_truthy_bool ⟨H1, I1, q⟩

variable {tA tB' : TT} {rest : List Expr}
def tOr (t u : TT) : TT := fun σ H Q => t σ H fun c H1 => if c = true then Q true H1 else u σ H1 Q
def tNot (t : TT) : TT := fun σ H Q => t σ H fun c H1 => Q (!c) H1
theorem pw_or1 (ha : PT X a tA) : PW X (.BoolOp .Or [a] pos) tA := by
  intro wh pins s σ H Q I h
  refine isTrue_or (thn (ha pins s σ H Q I h) fun c s1 e => ?_)
  cases c with
  | false => exact isTrue_or_nil e
  | true => exact e
theorem pw_or (ha : PT X a tA) (hb : PW X (.BoolOp .Or (b :: rest) pos) tB') : PW X (.BoolOp .Or (a :: b :: rest) pos) (tOr tA tB') := by
  intro wh pins s σ H Q I h
  refine isTrue_or (thn (ha pins s σ H _ I h) fun c s1 ⟨H1, I1, q1⟩ => ?_)
  cases c with
  | true => exact ⟨H1, I1, q1⟩
  | false => exact hb wh pins s1 σ H1 Q I1 q1
theorem pt_not (ha : PT X a tA) : PT X (.UnaryOp .Not a pos) (tNot tA) := by
  intro pins s σ H Q I h
  exact isTrue_not (ha pins s σ H (fun c H1 => Q (!c) H1) I h)
def tAndV (ta tb : TE) : TE := fun σ H Q => ta σ H fun x H1 => ∃ c, x = .bl c ∧ if c = true then tb σ H1 Q else Q (.bl false) H1
def tNotV (ta : TE) : TE := fun σ H Q => ta σ H fun x H1 => ∃ c, x = .bl c ∧ Q (.bl (!c)) H1
theorem pe_one {op} {t : TE} (h : PE X a t) : PE X (.BoolOp op [a] pos) t := fun pins s σ H Q I hw => BoolOp_one (h pins s σ H Q I hw)
theorem pe_and (ha : PE X a ta) (hb : PE X (.BoolOp .And (b :: rest) pos) tb) : PE X (.BoolOp .And (a :: b :: rest) pos) (tAndV ta tb) := by
  intro pins s σ H Q I h
  refine BoolOp_and (thn (ha pins s σ H _ I h) fun v s1 ⟨x, H1, I1, r1, q1⟩ => ?_)
  obtain ⟨c, rfl, q1⟩ := q1
  cases r1
  refine wpAny_truthy_bool ?_
  cases c with
  | true => exact hb pins s1 σ H1 Q I1 q1
  | false => exact ⟨.bl false, H1, I1, rfl, q1⟩
theorem pe_not (ha : PE X a ta) : PE X (.UnaryOp .Not a pos) (tNotV ta) := by
  intro pins s σ H Q I h
  refine UnaryOp_ (thn (ha pins s σ H _ I h) fun v s1 ⟨x, H1, I1, r1, q1⟩ => ?_)
  obtain ⟨c, rfl, q1⟩ := q1
  cases r1
  exact not_of (wpAny_truthy_bool ⟨.bl (!c), H1, I1, rfl, q1⟩)
end
end L2

namespace L2
open PySem PySem.Spec PyProof.Rows

def SqL (K : PySem.W.Frag) (H : Hp) (a : Addr) (xs : List V) : Prop :=
  Rd H a (.lst xs) ∨
    ∃ (o : Obj) (its : Array Value) (n : Nat), K.lookup a = some o ∧ o.cls = .type "list" ∧ o.dict = none ∧ o.data = .seq its n ∧ its.size ≤ sizeLine ∧ Vals xs its.toList
def SqT (K : PySem.W.Frag) (H : Hp) (a : Addr) (xs : List V) : Prop :=
  Rd H a (.tup xs) ∨
    ∃ (o : Obj) (its : Array Value) (n : Nat), K.lookup a = some o ∧ o.cls = .type "tuple" ∧ o.data = .seq its n ∧ its.size ≤ sizeLine ∧ Vals xs its.toList
def absV : Value → Option V
  | .none => some .non
  | .bool b => some (.bl b)
  | .int i _ => some (.int i)
  | .str x _ => some (.str x)
  | .bytes b _ => some (.byt b)
  | .float b _ => some (.flt b)
  | .ref a => some (.ref a)
  | .type n => some (.ty n)
  | _ => none
theorem RelV.abs {x : V} {u : Value} (r : RelV x u) : absV u = some x := by
  cases x with
  | non => cases r; rfl
  | bl _ => cases r; rfl
  | int _ => obtain ⟨t, rfl⟩ := r; rfl
  | str _ => obtain ⟨t, rfl⟩ := r; rfl
  | byt _ => obtain ⟨t, rfl⟩ := r; rfl
  | flt _ => obtain ⟨t, rfl⟩ := r; rfl
  | ref _ => cases r; rfl
  | ty _ => cases r; rfl
theorem RelV.inj {x y : V} {u : Value} (r : RelV x u) (q : RelV y u) : x = y := Option.some.inj (r.abs.symm.trans q.abs)
theorem Vals.inj : ∀ {xs ys : List V} {us : List Value}, Vals xs us → Vals ys us → xs = ys
  | _, _, _, .nil, .nil => rfl
  | _, _, _, .cons r t, .cons r' t' => by rw [r.inj r', Vals.inj t t']
section
variable {X : Cx} {pins : List (Addr × Obj)} {σ : St} {H : Hp} {s : Shared} {a : Addr} {xs ys : List V}
theorem SqL.of {K : PySem.W.Frag} (h : H a = some (.lst xs)) : SqL K H a xs := .inl (.inl h)
theorem SqT.of {K : PySem.W.Frag} (h : H a = some (.tup xs)) : SqT K H a xs := .inl (.inl h)
theorem Inv.list (I : Inv X pins σ H s) (h : SqL X.K H a xs) : ∃ its : List Value, Vals xs its ∧ PlainL s.heap a its.toArray ∧ xs.length ≤ sizeLine := by
  rcases h with h | ⟨o, its, n, hk, hc, hd, hs, hz, r⟩
  · obtain ⟨z, its, n, r, e⟩ := h.ok I.hok
    exact ⟨its, r, ⟨_, n, e, rfl, rfl, rfl⟩, z⟩
  · refine ⟨its.toList, r, ⟨o, n, I.kIn a o hk, hc, hd, by simpa using hs⟩, ?_⟩
    have e := r.length
    simp only [Array.length_toList] at e
    omega
theorem Inv.tuple (I : Inv X pins σ H s) (h : SqT X.K H a xs) : ∃ its : List Value, Vals xs its ∧ IsTup s.heap a its.toArray ∧ xs.length ≤ sizeLine := by
  rcases h with h | ⟨o, its, n, hk, hc, hs, hz, r⟩
  · obtain ⟨z, its, r, p⟩ := h.ok I.hok
    exact ⟨its, r, p, z⟩
  · refine ⟨its.toList, r, ⟨o, I.kIn a o hk, hc, n, by simpa using hs⟩, ?_⟩
    have e := r.length
    simp only [Array.length_toList] at e
    omega
theorem Inv.list_inj (I : Inv X pins σ H s) (h : SqL X.K H a xs) (h' : SqL X.K H a ys) : xs = ys := by
  obtain ⟨its, r, ⟨o, n, e, _, _, d⟩, _⟩ := I.list h
  obtain ⟨its', r', ⟨o', n', e', _, _, d'⟩, _⟩ := I.list h'
  rw [e] at e'; cases e'
  rw [d] at d'
  injection d' with d1 _
  have : its = its' := by simpa using congrArg Array.toList d1
  subst this
  exact r.inj r'
theorem Inv.tuple_inj (I : Inv X pins σ H s) (h : SqT X.K H a xs) (h' : SqT X.K H a ys) : xs = ys := by
  obtain ⟨its, r, ⟨o, e, _, n, d⟩, _⟩ := I.tuple h
  obtain ⟨its', r', ⟨o', e', _, n', d'⟩, _⟩ := I.tuple h'
  rw [e] at e'; cases e'
  rw [d] at d'
  injection d' with d1 _
  have : its = its' := by simpa using congrArg Array.toList d1
  subst this
  exact r.inj r'
end

abbrev Cx.wish (X : Cx) (E : Value → Shared → Prop) : Cx := { X with xe := E }
abbrev Cx.nox (X : Cx) : Cx := X.wish fun _ _ => False
theorem Cx.Ok.wish {X : Cx} (ok : X.Ok) (E : Value → Shared → Prop) : (X.wish E).Ok :=
  ⟨ok.mod, ok.kind, ok.glob, ok.blt, ok.above, ok.inj, ok.has, ok.cab, ok.hd, ok.frames, ok.stk, ok.exf, ok.bs, ok.bsz, ok.noex, ok.exfs, ok.funs, ok.frf⟩
theorem Cx.Ok.unwish {X : Cx} {E : Value → Shared → Prop} (ok : (X.wish E).Ok) : X.Ok :=
  ⟨ok.mod, ok.kind, ok.glob, ok.blt, ok.above, ok.inj, ok.has, ok.cab, ok.hd, ok.frames, ok.stk, ok.exf, ok.bs, ok.bsz, ok.noex, ok.exfs, ok.funs, ok.frf⟩
section
variable {X : Cx} {pins : List (Addr × Obj)} {σ : St} {H : Hp} {s : Shared} {E : Value → Shared → Prop}
theorem Inv.wish (I : Inv X pins σ H s) (E : Value → Shared → Prop) : Inv (X.wish E) pins σ H s := ⟨I.ok.wish E, I.os, I.bare, I.base, I.loc, I.cell, I.free, I.freeC, I.pin, I.hok, I.len⟩
theorem Inv.unwish (I : Inv (X.wish E) pins σ H s) : Inv X pins σ H s := ⟨I.ok.unwish, I.os, I.bare, I.base, I.loc, I.cell, I.free, I.freeC, I.pin, I.hok, I.len⟩
theorem SP.unwish {D : Ends} {f : Flow} {s' : Shared} (h : SP (X.wish E) pins D f s') : SP X pins D f s' := by
  cases f with
  | next => obtain ⟨σ', H', I, q⟩ := h; exact ⟨σ', H', I.unwish, q⟩
  | brk => obtain ⟨σ', H', I, q⟩ := h; exact ⟨σ', H', I.unwish, q⟩
  | cont => obtain ⟨σ', H', I, q⟩ := h; exact ⟨σ', H', I.unwish, q⟩
  | ret u => obtain ⟨v, σ', H', I, r, q⟩ := h; exact ⟨v, σ', H', I.unwish, r, q⟩
theorem PE.nox {e : Expr} {t : TE} (h : PE X.nox e t) : PE X e t := fun pins s σ H Q I hw =>
  wpAny_mono (h pins s σ H Q (I.wish _) hw) (fun _ _ ⟨v, H', I', r, q⟩ => ⟨v, H', I'.unwish, r, q⟩) fun _ _ z => False.elim z
theorem PT.nox {e : Expr} {t : TT} (h : PT X.nox e t) : PT X e t := fun pins s σ H Q I hw =>
  wpAny_mono (h pins s σ H Q (I.wish _) hw) (fun _ _ ⟨H', I', q⟩ => ⟨H', I'.unwish, q⟩) fun _ _ z => False.elim z
theorem PSs.nox {st : List Stmt} {t : TS} (h : PSs X.nox st t) : PSs X st t := fun pins s σ H D I hw =>
  wpAny_mono (h pins s σ H D (I.wish _) hw) (fun _ _ q => q.unwish) fun _ _ z => False.elim z
end

section
variable {X : Cx} {st : Stmt} {rest : List Stmt} {t u : TS} {e : Expr} {te : TE} {pos : Pos}
def tNext : TS := fun D σ H => D.nx σ H
def tSeq (t u : TS) : TS := fun D σ H => t { D with nx := u D } σ H
theorem pss_nil : PSs X [] tNext := fun _ _ σ H _ I h => wpAny_execs_nil ⟨σ, H, I, h⟩
theorem pss_cons (h1 : PS X st t) (h2 : PSs X rest u) : PSs X (st :: rest) (tSeq t u) := by
  intro pins s σ H D I h
  refine wpAny_execs_cons (thn (h1 pins s σ H { D with nx := u D } I h) fun f s1 q => ?_)
  cases f with
  | next =>
    obtain ⟨σ', H', I', q⟩ := q
    exact h2 pins s1 σ' H' D I' q
  | ret v => exact q
  | brk => exact q
  | cont => exact q
theorem pss_one (h1 : PS X st t) : PSs X [st] t := by
  intro pins s σ H D I h
  refine wpAny_execs_cons (thn (h1 pins s σ H D I h) fun f s1 q => ?_)
  cases f with
  | next => exact wpAny_execs_nil q
  | ret v => exact q
  | brk => exact q
  | cont => exact q
theorem Inv.quiet {pins : List (Addr × Obj)} {σ : St} {H : Hp} {s : Shared} (I : Inv X pins σ H s) : interactive X.env = false := by simp [interactive, I.ok.kind]
def tDrop (te : TE) : TS := fun D σ H => te σ H fun _ H1 => D.nx σ H1
theorem ps_expr (he : PE X e te) (hs : swapsWith e none pos.line X.env = pure false := by rfl) : PS X (.Expr e pos) (tDrop te) := by
  intro pins s σ H D I h
  exact wpAny_Expr_any (thn (he pins s σ H _ I h) fun v s1 ⟨x, H1, I1, r1, q1⟩ => ⟨σ, H1, I1, q1⟩) I.quiet hs
def tRet (te : TE) : TS := fun D σ H => te σ H D.rt
theorem ps_ret (he : PE X e te) : PS X (.Return (some e) pos) (tRet te) := by
  intro pins s σ H D I h
  exact wpAny_Return_some (thn (he pins s σ H _ I h) fun v s1 ⟨x, H1, I1, r1, q1⟩ => ⟨x, σ, H1, I1, r1, q1⟩)
def tIfS (c : TT) (t u : TS) : TS := fun D σ H => c σ H fun b H1 => if b = true then t D σ H1 else u D σ H1
theorem ps_if {c : Expr} {a b : List Stmt} {tc : TT} (hc : PT X c tc) (ha : PSs X a t) (hb : PSs X b u) : PS X (.If c a b pos) (tIfS tc t u) := by
  intro pins s σ H D I h
  refine wpAny_If (thn (hc pins s σ H _ I h) fun d s1 ⟨H1, I1, q1⟩ => ?_)
  cases d with
  | true => exact ha pins s1 σ H1 D I1 q1
  | false => exact hb pins s1 σ H1 D I1 q1
end

abbrev TG := V → St → Hp → (St → Hp → Prop) → Prop
abbrev TGs := List V → St → Hp → (St → Hp → Prop) → Prop
def PG (X : Cx) (target : Expr) (t : TG) : Prop :=
  ∀ (pins : List (Addr × Obj)) (s : Shared) (σ : St) (H : Hp) (v : V) (u : Value) (Q : St → Hp → Prop), Inv X pins σ H s → RelV v u → t v σ H Q →
    wpAny (model X.prog X.w) X.A (assign target X.env u) (fun _ s' => ∃ σ' H', Inv X pins σ' H' s' ∧ Q σ' H') X.xe s
def PGs (X : Cx) (ts : List Expr) (t : TGs) : Prop :=
  ∀ (pins : List (Addr × Obj)) (s : Shared) (σ : St) (H : Hp) (vs : List V) (us : List Value) (Q : St → Hp → Prop), Inv X pins σ H s → Vals vs us → t vs σ H Q →
    wpAny (model X.prog X.w) X.A (assignInOrder ((assignEach ts X.env).map (·.2)) us) (fun _ s' => ∃ σ' H', Inv X pins σ' H' s' ∧ Q σ' H') X.xe s
abbrev TSet := V → V → V → Hp → (Hp → Prop) → Prop
def PSet (X : Cx) (t : TSet) : Prop :=
  ∀ (pins : List (Addr × Obj)) (s : Shared) (σ : St) (H : Hp) (o i v : V) (ov iv u : Value) (Q : Hp → Prop), Inv X pins σ H s → RelV o ov → RelV i iv → RelV v u → t o i v H Q →
    wpAny (model X.prog X.w) X.A (setItem ov iv u) (fun _ s' => ∃ H', Inv X pins σ H' s' ∧ Q H') X.xe s
section
variable {X : Cx} {pos : Pos}
def gName (i : Nat) : TG := fun v σ H Q => Q (σ.set i (some v)) H
theorem pg_name {i : Nat} {x : Str} (hN : X.N.Nodup) (hi : X.N[i]? = some x) (hx : Loc X.env.scope x) (hf : X.fn x = true ∨ X.env.scope.names.lookup x = some .local := by first | exact .inl rfl | exact .inr rfl | assumption) : PG X (.Name x pos) (gName i) := by
  intro pins s σ H v u Q I r h
  exact wpAny_assign_Name (store_ok I hN hi hx r (fun s' I' => ⟨_, H, I', h⟩) hf)
def gNil : TGs := fun vs σ H Q => vs = [] ∧ Q σ H
def gCons (t : TG) (u : TGs) : TGs := fun vs σ H Q => ∃ v r, vs = v :: r ∧ t v σ H fun σ' H' => u r σ' H' Q
theorem pgs_nil : PGs X [] gNil := by
  intro pins s σ H vs us Q I r h
  obtain ⟨e, h⟩ := h
  subst e
  cases r
  exact assignInOrder_nil ⟨σ, H, I, h⟩
theorem pgs_cons {e : Expr} {es : List Expr} {t : TG} {u : TGs} (h1 : PG X e t) (h2 : PGs X es u)
    (hs : (assignEach (e :: es) X.env).map (·.2) = assign e X.env :: (assignEach es X.env).map (·.2) := by rfl) : PGs X (e :: es) (gCons t u) := by
  intro pins s σ H vs us Q I r h
  obtain ⟨v, vr, e1, h⟩ := h
  subst e1
  cases r with
  | cons r rr =>
    rw [hs]
    refine assignInOrder_cons (thn (h1 pins s σ H _ _ _ I r h) fun _ s1 ⟨σ1, H1, I1, q1⟩ => ?_)
    exact h2 pins s1 σ1 H1 _ _ Q I1 rr q1
def gTup (K : PySem.W.Frag) (n : Nat) (t : TGs) : TG := fun v σ H Q => ∃ a xs, v = .ref a ∧ SqT K H a xs ∧ xs.length = n ∧ t xs σ H Q
theorem pg_tup {es : List Expr} {k : Nat} {t : TGs} {n : Nat} (hc : X.calm = true) (h : PGs X es t)
    (hn : (assignEach es X.env).length = n := by rfl) (hst : (assignEach es X.env).findIdx? (·.1) = none := by rfl) : PG X (.Tuple es k pos) (gTup X.K n t) := by
  intro pins s σ H v u Q I r hw
  obtain ⟨a, xs, e1, hq, hl, hw⟩ := hw
  subst e1
  cases r
  obtain ⟨its, rv, ht, hz⟩ := I.tuple hq
  refine assign_Tuple_tuple (I.ok.hd hc) ht (by simp [hn, ← hl, rv.length]) hst fun h' hx => ?_
  have I1 : Inv X pins σ H { s with heap := h' } := I.kept (t' := s.toks) fun b o e => hx b o (Nat.ne_of_lt (Heap.lt_size e)) e
  exact h pins _ σ H xs _ Q I1 (by simpa using rv) hw
def gSub (to ti : TE) (t : TSet) : TG := fun v σ H Q => to σ H fun o H1 => ti σ H1 fun i H2 => t o i v H2 fun H3 => Q σ H3
theorem pg_sub {o i : Expr} {to ti : TE} {t : TSet} (ho : PE X o to) (hi : PE X i ti) (hs : PSet X t)
    (ha : ∀ v, assign (.Subscript o i pos) X.env v = (do
      let ov ← holding [v] (eval o X.env)
      let iv ← holding [v, ov] (eval i X.env)
      standAt pos
      holding [v, ov, iv] (setItem ov iv v)
      release [v, ov, iv] []) := by intro _; rfl) : PG X (.Subscript o i pos) (gSub to ti t) := by
  intro pins s σ H v u Q I r h
  rw [ha]
  refine wpAny_bind (wpAny_holding (thn (ho pins s σ H _ I h) fun ov s1 ⟨x, H1, I1, r1, q1⟩ => ?_))
  refine wpAny_bind (wpAny_holding (thn (hi pins s1 σ H1 _ I1 q1) fun iv s2 ⟨y, H2, I2, r2, q2⟩ => ?_))
  refine wpAny_bind (wpAny_standAt (wpAny_bind (wpAny_holding (thn (hs pins s2 σ H2 x y v ov iv u _ I2 r1 r2 r q2) fun _ s3 ⟨H3, I3, q3⟩ => ?_))))
  exact wpAny_release ⟨σ, H3, I3, q3⟩
def tAsg (te : TE) (g : TG) : TS := fun D σ H => te σ H fun x H1 => g x σ H1 D.nx
theorem ps_asg {tg e : Expr} {te : TE} {g : TG} (he : PE X e te) (hg : PG X tg g) (hs : swapsWithSole [tg] e pos.line X.env = pure false := by rfl) (hw : swappedStores [tg] e X.env = pure none := by rfl)
    (h1 : (assignEach [tg] X.env).map (·.2) = [assign tg X.env] := by rfl) : PS X (.Assign [tg] e pos) (tAsg te g) := by
  intro pins s σ H D I h
  refine wpAny_Assign_stores (thn (he pins s σ H _ I h) fun v s1 ⟨x, H1, I1, r1, q1⟩ => ?_) hs hw
  rw [h1]
  exact thn (hg pins s1 σ H1 x v _ I1 r1 q1) fun _ s2 q => q
theorem ps_set {i : Nat} {x : Str} {e : Expr} {te : TE} {pos' : Pos} (hN : X.N.Nodup) (hi : X.N[i]? = some x) (hx : Loc X.env.scope x) (he : PE X e te) (hs : swapsWith e (some (.Name x pos')) pos.line X.env = pure false := by rfl) (hf : X.fn x = true ∨ X.env.scope.names.lookup x = some .local := by first | exact .inl rfl | exact .inr rfl | assumption) :
    PS X (.Assign [.Name x pos'] e pos) (tAsg te (gName i)) := by
  intro pins s σ H D I h
  refine wpAny_Assign_Name (thn (he pins s σ H _ I h) fun v s1 ⟨y, H1, I1, r1, q1⟩ => ?_) hs
  exact store_ok I1 hN hi hx r1 (fun s2 I2 => ⟨_, H1, I2, q1⟩) hf
end

section
variable {X : Cx} {pos : Pos}
def tWhile (c : TT) (tb : TS) : TS := fun D σ H => ∃ W : Nat → St → Hp → Prop, (∃ m, W m σ H) ∧ ∀ m σ H, W m σ H →
  c σ H fun b H1 => if b = true then ∃ N : St → Hp → Prop, (∀ σ' H', N σ' H' → ∃ m', m' < m ∧ W m' σ' H') ∧ tb { D with nx := N, ct := N, bk := D.nx } σ H1 else D.nx σ H1
theorem ps_while {c : Expr} {body : List Stmt} {tc : TT} {tb : TS} (hp : PassesOwn (model X.prog X.w) X.A X.env X.xe) (hc : PT X c tc) (hb : PSs X body tb) : PS X (.While c body [] pos) (tWhile tc tb) := by
  intro pins s σ H D I h
  obtain ⟨W, ⟨m0, w0⟩, turn⟩ := h
  refine wpAny_While (codeAny_whileLoop (fun n s' => ∃ σ' H', Inv X pins σ' H' s' ∧ W n σ' H') ?_ m0 ⟨σ, H, I, w0⟩)
  rintro n s1 ⟨σ1, H1, I1, w1⟩
  refine wpAny_passesOwn hp (thn (hc pins s1 σ1 H1 _ I1 (turn n σ1 H1 w1)) fun b s2 ⟨H2, I2, q2⟩ => ?_)
  cases b with
  | true =>
    obtain ⟨N, hN, q2⟩ := q2
    rw [if_pos rfl]
    refine wpAny_passesOwn hp (thn (hb pins s2 σ1 H2 _ I2 q2) fun f s3 q3 => ?_)
    cases f with
    | next =>
      obtain ⟨σ3, H3, I3, n3⟩ := q3
      obtain ⟨m', hm, w3⟩ := hN σ3 H3 n3
      exact ⟨m', hm, σ3, H3, I3, w3⟩
    | cont =>
      obtain ⟨σ3, H3, I3, n3⟩ := q3
      obtain ⟨m', hm, w3⟩ := hN σ3 H3 n3
      exact ⟨m', hm, σ3, H3, I3, w3⟩
    | brk => exact q3
    | ret v => exact q3
  | false =>
    rw [if_neg Bool.false_ne_true]
    exact wpAny_execs_nil ⟨σ1, H2, I2, q2⟩
end

structure It where
  go : Nat → Hp → Prop
  yld : Nat → Hp → V → Hp → Prop
  stop : Nat → Hp → Prop
def FpOk (X : Cx) (pins : List (Addr × Obj)) (H : Hp) (b : Addr) : Prop :=
  H b = none ∧ b ≠ X.env.locals ∧ b ∉ X.fs ∧ (b ∈ X.ex ∨ X.s₀.heap.objs.size ≤ b) ∧ (∀ x c, X.env.cells.lookup x = some c → c ≠ b) ∧ ∀ p ∈ X.pn ++ pins, p.1 ≠ b
theorem Inv.fpOk {X : Cx} {pins : List (Addr × Obj)} {σ : St} {H H' : Hp} {s : Shared} {b : Addr} (I : Inv X pins σ H s) (hb : s.heap.objs.size ≤ b) (hn : H' b = none) : FpOk X pins H' b := by
  refine ⟨hn, Nat.ne_of_gt (Nat.lt_of_lt_of_le I.lt hb), I.nofs hb, .inr (Nat.le_trans I.sz hb), fun x c e z => ?_, fun p hp z => ?_⟩
  · obtain ⟨v, q⟩ := I.cell x c e
    exact absurd (Nat.lt_of_lt_of_le q.lt (by rw [z]; exact hb)) (Nat.lt_irrefl _)
  · exact absurd (Nat.lt_of_lt_of_le (Heap.lt_size (I.pin p hp).1) (by rw [z]; exact hb)) (Nat.lt_irrefl _)
structure Turn (P : Program) (w : World) (K : PySem.W.Frag) (tg : Expr) (J : It) (fp : List Addr) (it : Addr) (tn : Nat → Heap → Prop) : Prop where
  mem : it ∈ fp
  obj : ∀ i h, tn i h → ∀ b ∈ fp, ∃ o, h.get? b = some o ∧ ∀ v, o.data ≠ .cell v
  keep : ∀ i h h', tn i h → (∀ b ∈ fp, ∀ o, h.get? b = some o → h'.get? b = some o) → tn i h'
  item : ∀ (X : Cx), X.prog = P → X.w = w → X.K = K → X.calm = true → ∀ (i : Nat) (pins : List (Addr × Obj)) (s : Shared) (σ : St) (H : Hp) (E : Value → Shared → Prop), Inv X pins σ H s → (∀ b ∈ fp, FpOk X pins H b) → tn i s.heap → J.go i H →
    wpAny (model P w) X.A (pyNext (.ref it)) (fun r s1 => ∃ u, r = some u ∧
      wpAny (model P w) X.A (letOwnedTupleGo tg (.ref it) u) (fun _ s2 => ∃ x H', Inv X pins σ H' s2 ∧ RelV x u ∧ J.yld i H x H' ∧ tn (i + 1) s2.heap ∧ ∀ b ∈ fp, H' b = none) E s1) E s
  done : ∀ (X : Cx), X.prog = P → X.w = w → X.K = K → X.calm = true → ∀ (i : Nat) (pins : List (Addr × Obj)) (s : Shared) (σ : St) (H : Hp) (E : Value → Shared → Prop), Inv X pins σ H s → (∀ b ∈ fp, FpOk X pins H b) → tn i s.heap → J.stop i H →
    wpAny (model P w) X.A (pyNext (.ref it)) (fun r s1 => r = none ∧ Inv X pins σ H s1) E s
  self : ∀ (A : Around) (i : Nat) (s : Shared) (Q : Value → Shared → Prop) (E : Value → Shared → Prop), tn i s.heap → Q (.ref it) s → wpAny (model P w) A (pyIter (.ref it)) Q E s
abbrev TI := St → Hp → (It → Hp → Prop) → Prop
def PIE (X : Cx) (pins : List (Addr × Obj)) (σ : St) (tg : Expr) (R : It → Hp → Prop) (itv : Value) (s2 : Shared) : Prop :=
  ∃ (it : Addr) (fp : List Addr) (tn : Nat → Heap → Prop) (J : It) (H' : Hp), itv = .ref it ∧ Inv X pins σ H' s2 ∧ Turn X.prog X.w X.K tg J fp it tn ∧ tn 0 s2.heap ∧ (∀ b ∈ fp, FpOk X pins H' b) ∧ R J H'
def PI (X : Cx) (tg iter : Expr) (wi : TI) : Prop :=
  ∀ (pins : List (Addr × Obj)) (s : Shared) (σ : St) (H : Hp) (R : It → Hp → Prop), Inv X pins σ H s → wi σ H R →
    wpAny (model X.prog X.w) X.A (eval iter X.env) (fun v s1 => wpAny (model X.prog X.w) X.A (pyIter v) (PIE X pins σ tg R) X.xe s1) X.xe s

theorem go_of {M : Model} {A : Around} {E : Value → Shared → Prop} {s : Shared} {tg : Expr} {it : Addr} {u : Value} {o : Obj} {n : String} {vs : Array Value} {Q : Unit → Shared → Prop} (ho : s.heap.get? it = some o) (hc : o.cls = .type n) (hd : o.data = .fields vs)
    (hn : ["enumerate", "zip", "dict_itemiterator", "dict_reverseitemiterator", "odict_iterator", "itertools.zip_longest", "itertools.pairwise"].contains n = false) (hQ : Q () s) : wpAny M A (letOwnedTupleGo tg (.ref it) u) Q E s := by
  unfold letOwnedTupleGo
  cases tg <;> first
    | exact wpAny_pure hQ
    | (cases u <;> first
        | exact wpAny_pure hQ
        | (refine wpAny_bind (wpAny_load ho ?_)
           rw [hc, hd]
           show wpAny M A (if (["enumerate", "zip", "dict_itemiterator", "dict_reverseitemiterator", "odict_iterator", "itertools.zip_longest", "itertools.pairwise"].contains n && vs[0]? == some (rawInt _)) = true then _ else _) Q E s
           rw [if_neg (by intro h; rw [hn, Bool.false_and] at h; cases h)]
           exact wpAny_pure hQ))

def Itl (K : PySem.W.Frag) (a : Addr) : It :=
  ⟨fun i H => ∃ xs x, SqL K H a xs ∧ xs[i]? = some x, fun i H x H' => H' = H ∧ ∀ xs, SqL K H a xs → xs[i]? = some x, fun i H => ∃ xs, SqL K H a xs ∧ xs.length ≤ i⟩
def Itt (K : PySem.W.Frag) (a : Addr) : It :=
  ⟨fun i H => ∃ xs x, SqT K H a xs ∧ xs[i]? = some x, fun i H x H' => H' = H ∧ ∀ xs, SqT K H a xs → xs[i]? = some x, fun i H => ∃ xs, SqT K H a xs ∧ xs.length ≤ i⟩
def Itr (lo : Int) (n : Nat) : It := ⟨fun i _ => i < n, fun i H x H' => H' = H ∧ x = .int (lo + i), fun i _ => n ≤ i⟩
theorem turn_list {P : Program} {w : World} {K : PySem.W.Frag} {tg : Expr} (a it : Addr) : Turn P w K tg (Itl K a) [it] it (fun i h => h.IsListIter it a i) where
  mem := by simp
  obj := fun i h st b hb => by
    have e : b = it := by simpa using hb
    subst e
    obtain ⟨o, e, c, d⟩ := st
    exact ⟨o, e, fun v z => by rw [d] at z; cases z⟩
  keep := fun i h h' st k => st.at fun o e => k it (by simp) o e
  item := by
    intro X hP hw hK hc i pins s σ H E I hf st hg
    subst hP hw hK
    obtain ⟨xs, x, hq, hx⟩ := hg
    obtain ⟨its, rv, p, hz⟩ := I.list hq
    obtain ⟨u, hu, ru⟩ := rv.get hx
    obtain ⟨f0, f1, f2, f3, f4, f5⟩ := hf it (by simp)
    refine wpAny_pyNext_list_item st p.isList (x := u) (by simpa using hu) fun h' st' sb => ?_
    have I1 : Inv X pins σ H { s with heap := h' } := I.turned (t' := s.toks) (fun b o hb e => (sb.2 b hb).trans e) f0 f1 f3 f4 f5
    obtain ⟨o, e, c, d⟩ := id st'
    exact ⟨u, rfl, go_of (s := { s with heap := h' }) e c d (by decide) ⟨x, H, I1, ru, ⟨rfl, fun ys hy => by rw [I.list_inj hy hq]; exact hx⟩, st', fun b hb => (hf b hb).1⟩⟩
  done := by
    intro X hP hw hK hc i pins s σ H E I hf st hg
    subst hP hw hK
    obtain ⟨xs, hq, hx⟩ := hg
    obtain ⟨its, rv, p, hz⟩ := I.list hq
    obtain ⟨f0, f1, f2, f3, f4, f5⟩ := hf it (by simp)
    have hl := rv.length
    exact wpAny_pyNext_list_end (I.ok.hd hc) st p.isList (by simp; omega) fun h' eb => ⟨rfl, I.turned (t' := s.toks) (fun b o hb e => eb b o hb e) f0 f1 f3 f4 f5⟩
  self := fun _ _ _ _ _ st h => wpAny_pyIter_listiter st h
theorem turn_tuple {P : Program} {w : World} {K : PySem.W.Frag} {tg : Expr} (a it : Addr) : Turn P w K tg (Itt K a) [it] it (fun i h => h.IsTupleIter it a i) where
  mem := by simp
  obj := fun i h st b hb => by
    have e : b = it := by simpa using hb
    subst e
    obtain ⟨o, e, c, d⟩ := st
    exact ⟨o, e, fun v z => by rw [d] at z; cases z⟩
  keep := fun i h h' st k => st.at fun o e => k it (by simp) o e
  item := by
    intro X hP hw hK hc i pins s σ H E I hf st hg
    subst hP hw hK
    obtain ⟨xs, x, hq, hx⟩ := hg
    obtain ⟨its, rv, p, hz⟩ := I.tuple hq
    obtain ⟨u, hu, ru⟩ := rv.get hx
    obtain ⟨f0, f1, f2, f3, f4, f5⟩ := hf it (by simp)
    refine wpAny_pyNext_tuple_item st (show s.heap.IsTuple a its.toArray from p) (x := u) (by simpa using hu) fun h' st' sb => ?_
    have I1 : Inv X pins σ H { s with heap := h' } := I.turned (t' := s.toks) (fun b o hb e => (sb.2 b hb).trans e) f0 f1 f3 f4 f5
    obtain ⟨o, e, c, d⟩ := id st'
    exact ⟨u, rfl, go_of (s := { s with heap := h' }) e c d (by decide) ⟨x, H, I1, ru, ⟨rfl, fun ys hy => by rw [I.tuple_inj hy hq]; exact hx⟩, st', fun b hb => (hf b hb).1⟩⟩
  done := by
    intro X hP hw hK hc i pins s σ H E I hf st hg
    subst hP hw hK
    obtain ⟨xs, hq, hx⟩ := hg
    obtain ⟨its, rv, p, hz⟩ := I.tuple hq
    obtain ⟨f0, f1, f2, f3, f4, f5⟩ := hf it (by simp)
    have hl := rv.length
    exact wpAny_pyNext_tuple_end (I.ok.hd hc) st (show s.heap.IsTuple a its.toArray from p) (by simp; omega) fun h' eb => ⟨rfl, I.turned (t' := s.toks) (fun b o hb e => eb b o hb e) f0 f1 f3 f4 f5⟩
  self := fun _ _ _ _ _ st h => wpAny_pyIter_tupleiter st h
theorem turn_range {P : Program} {w : World} {K : PySem.W.Frag} {tg : Expr} (it : Addr) (lo : Int) (n : Nat) : Turn P w K tg (Itr lo n) [it] it (fun i h => IsRangeIter h it (lo + (i : Nat) * 1) ((n : Int) - (i : Nat)) 1) where
  mem := by simp
  obj := fun i h st b hb => by
    have e : b = it := by simpa using hb
    subst e
    exact ⟨_, st, fun v z => by
      have z' : Data.fields _ = Data.cell v := z
      cases z'⟩
  keep := fun i h h' st k => k it (by simp) _ st
  item := by
    intro X hP hw hK hc i pins s σ H E I hf st hg
    subst hP hw hK
    obtain ⟨f0, f1, f2, f3, f4, f5⟩ := hf it (by simp)
    have W := Walks.range (prog := X.prog) (w := X.w) (I.ok.hd hc) it lo 1 n
    refine W.item i s _ _ hg st fun v h' tk hv st' kk => ?_
    obtain ⟨t, rfl⟩ := hv
    have I1 : Inv X pins σ H { s with heap := h', toks := tk } := I.turned (fun b o hb e => kk b o (by simpa using hb) e) f0 f1 f3 f4 f5
    refine ⟨_, rfl, go_of (s := { s with heap := h', toks := tk }) (n := "range_iterator") st' rfl rfl (by decide) ⟨.int (lo + i), H, I1, ⟨t, ?_⟩, ⟨rfl, rfl⟩, st', fun b hb => (hf b hb).1⟩⟩
    rw [Int.mul_one]
  done := by
    intro X hP hw hK hc i pins s σ H E I hf st hg
    subst hP hw hK
    obtain ⟨f0, f1, f2, f3, f4, f5⟩ := hf it (by simp)
    exact wpAny_pyNext_range_end (I.ok.hd hc) st (by have : n ≤ i := hg; omega) fun h' eb => ⟨rfl, I.turned (t' := s.toks) (fun b o hb e => eb b o hb e) f0 f1 f3 f4 f5⟩
  self := fun _ _ _ _ _ st h => wpAny_pyIter_rangeiter st h
end L2

namespace L2
open PySem PySem.Spec PyProof.Rows
section
variable {X : Cx} {tg : Expr}
def iList (K : PySem.W.Frag) (tl : TE) : TI := fun σ H R => tl σ H fun x H1 => ∃ a, x = .ref a ∧ (∃ xs, SqL K H1 a xs) ∧ R (Itl K a) H1
def iTup (K : PySem.W.Frag) (tl : TE) : TI := fun σ H R => tl σ H fun x H1 => ∃ a, x = .ref a ∧ (∃ xs, SqT K H1 a xs) ∧ R (Itt K a) H1
theorem pi_list {l : Expr} {tl : TE} (hl : PE X l tl) : PI X tg l (iList X.K tl) := by
  intro pins s σ H R I h
  refine thn (hl pins s σ H _ I h) fun v s1 ⟨x, H1, I1, r1, q1⟩ => ?_
  obtain ⟨a, e, ⟨xs, hq⟩, q⟩ := q1
  subst e
  cases r1
  obtain ⟨its, rv, p, hz⟩ := I1.list hq
  refine wpAny_pyIter_list p.isList ?_
  refine ⟨s1.heap.objs.size, [s1.heap.objs.size], _, _, H1, rfl, I1.kept (t' := s1.toks) fun b o e => Heap.get?_push_of_some _ e, turn_list a _, ⟨_, Heap.get?_push_size _ rfl, rfl, rfl⟩, fun b hb => ?_, q⟩
  have e : b = s1.heap.objs.size := by simpa using hb
  subst e
  exact I1.fpOk (Nat.le_refl _) (I1.hok.fresh (Nat.le_refl _))
theorem pi_tup {l : Expr} {tl : TE} (hl : PE X l tl) : PI X tg l (iTup X.K tl) := by
  intro pins s σ H R I h
  refine thn (hl pins s σ H _ I h) fun v s1 ⟨x, H1, I1, r1, q1⟩ => ?_
  obtain ⟨a, e, ⟨xs, hq⟩, q⟩ := q1
  subst e
  cases r1
  obtain ⟨its, rv, p, hz⟩ := I1.tuple hq
  refine wpAny_pyIter_tuple (show s1.heap.IsTuple a its.toArray from p) ?_
  refine ⟨s1.heap.objs.size, [s1.heap.objs.size], _, _, H1, rfl, I1.kept (t' := s1.toks) fun b o e => Heap.get?_push_of_some _ e, turn_tuple a _, ⟨_, Heap.get?_push_size _ rfl, rfl, rfl⟩, fun b hb => ?_, q⟩
  have e : b = s1.heap.objs.size := by simpa using hb
  subst e
  exact I1.fpOk (Nat.le_refl _) (I1.hok.fresh (Nat.le_refl _))
theorem range_it {pins : List (Addr × Obj)} {σ : St} {H : Hp} {s : Shared} {R : It → Hp → Prop} {E : Value → Shared → Prop} {lo hi : Int} {t u v : Tok} {tk : Nat} (I : Inv X pins σ H s) (h1 : -(2 ^ 62) ≤ lo) (h2 : lo < 2 ^ 62) (h3 : -(2 ^ 62) ≤ hi) (h4 : hi < 2 ^ 62)
    (q : R (Itr lo (hi - lo).toNat) H) : wpAny (model X.prog X.w) X.A (pyIter (.ref s.heap.objs.size)) (PIE X pins σ tg R) E { s with heap := s.heap.push { cls := .type "range", data := .fields #[.int lo t, .int hi u, .int 1 v] }, toks := tk } := by
  refine wpAny_pyIter_range (IsRange.new ..) (small_one h1 h2 h3 h4) ?_
  have I1 : Inv X pins σ H { s with heap := s.heap.push { cls := .type "range", data := .fields #[.int lo t, .int hi u, .int 1 v] }, toks := tk } := I.kept fun b o e => Heap.get?_push_of_some _ e
  refine ⟨(s.heap.push { cls := .type "range", data := .fields #[.int lo t, .int hi u, .int 1 v] }).objs.size, [(s.heap.push { cls := .type "range", data := .fields #[.int lo t, .int hi u, .int 1 v] }).objs.size], _, _, H, rfl,
    I1.kept (t' := tk) fun b o e => Heap.get?_push_of_some _ e, turn_range _ lo (hi - lo).toNat, ?_, fun b hb => ?_, q⟩
  · have e1 : lo + ((0 : Nat) : Int) * 1 = lo := by simp
    have e2 : (((hi - lo).toNat : Nat) : Int) - ((0 : Nat) : Int) = Builtin.Range.rangeSize lo hi 1 := by rw [rangeSize_one]; split <;> omega
    show IsRangeIter _ _ (lo + ((0 : Nat) : Int) * 1) ((((hi - lo).toNat : Nat) : Int) - ((0 : Nat) : Int)) 1
    rw [e1, e2]
    exact Heap.get?_push_size _ rfl
  · have e : b = (s.heap.push { cls := .type "range", data := .fields #[.int lo t, .int hi u, .int 1 v] }).objs.size := by simpa using hb
    subst e
    exact I1.fpOk (Nat.le_refl _) (I1.hok.fresh (Nat.le_refl _))
def iRng1 (ta : TA) : TI := fun σ H R => ta σ H fun vs H1 => ∃ j : Int, vs = [.int j] ∧ -(2 ^ 62) ≤ j ∧ j < 2 ^ 62 ∧ R (Itr 0 j.toNat) H1
theorem pi_range1 {a : Expr} {ta : TA} {p pos : Pos} (hg : Gl X "range") (hm : X.mg "range" = none) (ha : PA X [a] ta) (hs : starEach [a] X.env = [(false, eval a X.env)] := by rfl) : PI X tg (.Call (.Name "range" p) [a] [] pos) (iRng1 ta) := by
  intro pins s σ H R I h
  refine Call_ (ld_blt I hg hm boot_range (PyProof.Rows.callWith_type1 (thn (ha pos pins s σ H _ I h) fun us s1 ⟨vs, H1, I1, r1, q1⟩ => ?_) hs rfl))
  obtain ⟨j, e, q1, q2, q⟩ := q1
  subst e
  cases r1 with
  | cons r rr =>
    cases rr
    obtain ⟨t, rfl⟩ := r
    exact call_range_1 (range_it I1 (by omega) (by omega) q1 q2 (by simpa using q))

def tFor (wi : TI) (g : TG) (tb : TS) : TS := fun D σ H => wi σ H fun J H1 => ∃ W : Nat → Nat → St → Hp → Prop, (∃ m, W 0 m σ H1) ∧ ∀ i m σ H, W i m σ H →
  (J.stop i H ∧ D.nx σ H) ∨ (J.go i H ∧ ∃ N : St → Hp → Prop, (∀ σ' H', N σ' H' → ∃ m', m' < m ∧ W (i + 1) m' σ' H') ∧ ∀ x H', J.yld i H x H' → g x σ H' fun σ2 H2 => tb { D with nx := N, ct := N, bk := D.nx } σ2 H2)
def pinsAt (fp : List Addr) (h : Heap) : List (Addr × Obj) := fp.filterMap fun b => (h.get? b).map fun o => (b, o)
theorem mem_pinsAt {fp : List Addr} {h : Heap} {b : Addr} {o : Obj} (hb : b ∈ fp) (e : h.get? b = some o) : (b, o) ∈ pinsAt fp h := List.mem_filterMap.mpr ⟨b, hb, by rw [e]; rfl⟩
theorem of_pinsAt {fp : List Addr} {h : Heap} {p : Addr × Obj} (hp : p ∈ pinsAt fp h) : p.1 ∈ fp ∧ h.get? p.1 = some p.2 := by
  obtain ⟨b, hb, e⟩ := List.mem_filterMap.mp hp
  cases q : h.get? b with
  | none => rw [q] at e; cases e
  | some o =>
    rw [q] at e
    have e' : (b, o) = p := Option.some.inj e
    subst e'
    exact ⟨hb, q⟩
theorem Inv.pinned {pins : List (Addr × Obj)} {σ : St} {H : Hp} {s : Shared} {fp : List Addr} (I : Inv X pins σ H s) (hf : ∀ b ∈ fp, FpOk X pins H b) (ho : ∀ b ∈ fp, ∃ o, s.heap.get? b = some o ∧ ∀ v, o.data ≠ .cell v) : Inv X (pins ++ pinsAt fp s.heap) σ H s :=
  I.pins_of fun p hp => (List.mem_append.mp hp).elim (fun z => I.pin p (List.mem_append_right _ z)) fun z => by
    obtain ⟨hb, e⟩ := of_pinsAt z
    obtain ⟨f0, f1, f2, _⟩ := hf p.1 hb
    obtain ⟨o, e', d⟩ := ho p.1 hb
    rw [e] at e'; cases e'
    exact ⟨e, f0, f1, f2, d⟩
theorem Inv.unpinned {pins pl : List (Addr × Obj)} {σ : St} {H : Hp} {s : Shared} (I : Inv X (pins ++ pl) σ H s) : Inv X pins σ H s := I.pins_of fun p hp => I.pin p (List.mem_append_right _ (List.mem_append_left _ hp))
theorem ps_for {iter : Expr} {body : List Stmt} {wi : TI} {g : TG} {tb : TS} {pos : Pos} (hp : PassesOwn (model X.prog X.w) X.A X.env X.xe) (hc : X.calm = true) (hi : PI X tg iter wi) (hg : PG X tg g) (hb : PSs X body tb)
    (hs : ∀ x, foldedSetIterable iter X.env x = pure x := by intro _; rfl) : PS X (.For tg iter body [] pos) (tFor wi g tb) := by
  intro pins s σ H D I h
  refine wpAny_For (thn (hi pins s σ H _ I h) fun v s1 h1 => thn h1 fun itv s2 h2 => ?_) hs
  obtain ⟨it, fp, tn, J, H2, e, I2, T, st2, f2, W, ⟨m0, w0⟩, turn⟩ := h2
  subst e
  -- what stays true of the iterator's objects through the loop
  have stat : ∀ {H' : Hp}, (∀ b ∈ fp, H' b = none) → ∀ b ∈ fp, FpOk X pins H' b := fun hn b hb => ⟨hn b hb, (f2 b hb).2⟩
  refine codeAny_forLoop_any (fun n s' => ∃ i σ' H', Inv X pins σ' H' s' ∧ tn i s'.heap ∧ (∀ b ∈ fp, H' b = none) ∧ W i n σ' H') ?_ m0 ⟨0, σ, H2, I2, st2, fun b hb => (f2 b hb).1, w0⟩
  rintro n s3 ⟨i, σ3, H3, I3, st3, fr3, w3⟩
  rcases turn i n σ3 H3 w3 with ⟨stop, qn⟩ | ⟨go, N, hN, step⟩
  · refine wpAny_passesOwn hp (thn (T.done X rfl rfl rfl hc i pins s3 σ3 H3 X.xe I3 (stat fr3) st3 stop) fun r s4 ⟨hr, I4⟩ => ?_)
    subst hr
    exact wpAny_execs_nil ⟨σ3, H3, I4, qn⟩
  · refine wpAny_passesOwn hp (thn (T.item X rfl rfl rfl hc i pins s3 σ3 H3 X.xe I3 (stat fr3) st3 go) fun r s4 ⟨u, hr, h4⟩ => ?_)
    subst hr
    refine wpAny_passesOwn hp (thn h4 fun _ s5 ⟨x, H5, I5, r5, y5, st5, fr5⟩ => ?_)
    have I5' := I5.pinned (stat fr5) (T.obj _ _ st5)
    refine wpAny_passesOwn hp (thn (hg _ s5 σ3 H5 x u _ I5' r5 (step x H5 y5)) fun _ s6 ⟨σ6, H6, I6, q6⟩ => ?_)
    refine wpAny_passesOwn hp (thn (hb _ s6 σ6 H6 _ I6 q6) fun f s7 q7 => ?_)
    have again : ∀ {σ7 : St} {H7 : Hp}, Inv X (pins ++ pinsAt fp s5.heap) σ7 H7 s7 → N σ7 H7 → ∃ m, m < n ∧ ∃ i σ' H', Inv X pins σ' H' s7 ∧ tn i s7.heap ∧ (∀ b ∈ fp, H' b = none) ∧ W i m σ' H' := fun {σ7 H7} I7 n7 => by
      obtain ⟨m', hm, w7⟩ := hN σ7 H7 n7
      refine ⟨m', hm, i + 1, σ7, H7, I7.unpinned, T.keep _ _ _ st5 fun b hb o e => (I7.pin (b, o) (List.mem_append_right _ (List.mem_append_right _ (mem_pinsAt hb e)))).1, fun b hb => ?_, w7⟩
      obtain ⟨o, e, d⟩ := T.obj _ _ st5 b hb
      exact (I7.pin (b, o) (List.mem_append_right _ (List.mem_append_right _ (mem_pinsAt hb e)))).2.1
    cases f with
    | next => obtain ⟨σ7, H7, I7, n7⟩ := q7; exact again I7 n7
    | cont => obtain ⟨σ7, H7, I7, n7⟩ := q7; exact again I7 n7
    | brk => obtain ⟨σ7, H7, I7, q7⟩ := q7; exact ⟨σ7, H7, I7.unpinned, q7⟩
    | ret v => obtain ⟨x7, σ7, H7, I7, r7, q7⟩ := q7; exact ⟨x7, σ7, H7, I7.unpinned, r7, q7⟩
end

theorem for_list {K : PySem.W.Frag} {a : Addr} {xs : List V} {g : TG} {tb : TS} {D : Ends} {σ : St} {H : Hp} (Pv : Nat → St → Hp → Prop) (h0 : Pv 0 σ H) (hl : ∀ i σ H, i ≤ xs.length → Pv i σ H → SqL K H a xs)
    (hs : ∀ i x σ H, xs[i]? = some x → Pv i σ H → g x σ H fun σ2 H2 => tb { D with nx := Pv (i + 1), ct := Pv (i + 1), bk := D.nx } σ2 H2) (hd : ∀ σ H, Pv xs.length σ H → D.nx σ H) :
    ∃ W : Nat → Nat → St → Hp → Prop, (∃ m, W 0 m σ H) ∧ ∀ i m σ H, W i m σ H →
      ((Itl K a).stop i H ∧ D.nx σ H) ∨ ((Itl K a).go i H ∧ ∃ N : St → Hp → Prop, (∀ σ' H', N σ' H' → ∃ m', m' < m ∧ W (i + 1) m' σ' H') ∧ ∀ x H', (Itl K a).yld i H x H' → g x σ H' fun σ2 H2 => tb { D with nx := N, ct := N, bk := D.nx } σ2 H2) := by
  refine ⟨fun i m σ H => m = xs.length - i ∧ i ≤ xs.length ∧ Pv i σ H, ⟨xs.length, by simp, Nat.zero_le _, h0⟩, ?_⟩
  rintro i m σ H ⟨rfl, hi, p⟩
  have q := hl i σ H hi p
  by_cases hlt : i < xs.length
  · refine .inr ⟨⟨xs, xs[i], q, by simp [hlt]⟩, Pv (i + 1), fun σ' H' p' => ⟨xs.length - (i + 1), by omega, rfl, hlt, p'⟩, fun x H' y => ?_⟩
    obtain ⟨e, y⟩ := y
    subst e
    exact hs i x σ _ (y xs q) p
  · have e : i = xs.length := by omega
    subst e
    exact .inl ⟨⟨xs, q, Nat.le_refl _⟩, hd σ H p⟩
theorem for_tup {K : PySem.W.Frag} {a : Addr} {xs : List V} {g : TG} {tb : TS} {D : Ends} {σ : St} {H : Hp} (Pv : Nat → St → Hp → Prop) (h0 : Pv 0 σ H) (hl : ∀ i σ H, i ≤ xs.length → Pv i σ H → SqT K H a xs)
    (hs : ∀ i x σ H, xs[i]? = some x → Pv i σ H → g x σ H fun σ2 H2 => tb { D with nx := Pv (i + 1), ct := Pv (i + 1), bk := D.nx } σ2 H2) (hd : ∀ σ H, Pv xs.length σ H → D.nx σ H) :
    ∃ W : Nat → Nat → St → Hp → Prop, (∃ m, W 0 m σ H) ∧ ∀ i m σ H, W i m σ H →
      ((Itt K a).stop i H ∧ D.nx σ H) ∨ ((Itt K a).go i H ∧ ∃ N : St → Hp → Prop, (∀ σ' H', N σ' H' → ∃ m', m' < m ∧ W (i + 1) m' σ' H') ∧ ∀ x H', (Itt K a).yld i H x H' → g x σ H' fun σ2 H2 => tb { D with nx := N, ct := N, bk := D.nx } σ2 H2) := by
  refine ⟨fun i m σ H => m = xs.length - i ∧ i ≤ xs.length ∧ Pv i σ H, ⟨xs.length, by simp, Nat.zero_le _, h0⟩, ?_⟩
  rintro i m σ H ⟨rfl, hi, p⟩
  have q := hl i σ H hi p
  by_cases hlt : i < xs.length
  · refine .inr ⟨⟨xs, xs[i], q, by simp [hlt]⟩, Pv (i + 1), fun σ' H' p' => ⟨xs.length - (i + 1), by omega, rfl, hlt, p'⟩, fun x H' y => ?_⟩
    obtain ⟨e, y⟩ := y
    subst e
    exact hs i x σ _ (y xs q) p
  · have e : i = xs.length := by omega
    subst e
    exact .inl ⟨⟨xs, q, Nat.le_refl _⟩, hd σ H p⟩
theorem for_range {lo : Int} {n : Nat} {g : TG} {tb : TS} {D : Ends} {σ : St} {H : Hp} (Pv : Nat → St → Hp → Prop) (h0 : Pv 0 σ H)
    (hs : ∀ i σ H, i < n → Pv i σ H → g (.int (lo + i)) σ H fun σ2 H2 => tb { D with nx := Pv (i + 1), ct := Pv (i + 1), bk := D.nx } σ2 H2) (hd : ∀ σ H, Pv n σ H → D.nx σ H) :
    ∃ W : Nat → Nat → St → Hp → Prop, (∃ m, W 0 m σ H) ∧ ∀ i m σ H, W i m σ H →
      ((Itr lo n).stop i H ∧ D.nx σ H) ∨ ((Itr lo n).go i H ∧ ∃ N : St → Hp → Prop, (∀ σ' H', N σ' H' → ∃ m', m' < m ∧ W (i + 1) m' σ' H') ∧ ∀ x H', (Itr lo n).yld i H x H' → g x σ H' fun σ2 H2 => tb { D with nx := N, ct := N, bk := D.nx } σ2 H2) := by
  refine ⟨fun i m σ H => m = n - i ∧ i ≤ n ∧ Pv i σ H, ⟨n, by simp, Nat.zero_le _, h0⟩, ?_⟩
  rintro i m σ H ⟨rfl, hi, p⟩
  by_cases hlt : i < n
  · refine .inr ⟨hlt, Pv (i + 1), fun σ' H' p' => ⟨n - (i + 1), by omega, rfl, hlt, p'⟩, fun x H' y => ?_⟩
    obtain ⟨e, y⟩ := y
    subst e y
    exact hs i σ _ hlt p
  · have e : i = n := by omega
    subst e
    exact .inl ⟨Nat.le_refl _, hd σ H p⟩
end L2

namespace L2
open PySem PySem.Spec PyProof.Rows

abbrev R2 := V → V → Hp → VK → Prop
def OpR (X : Cx) (f : Value → Value → Sem Value) (r : R2) : Prop :=
  ∀ (pins : List (Addr × Obj)) (s : Shared) (σ : St) (H : Hp) (x y : V) (v u : Value) (Q : VK), Inv X pins σ H s → RelV x v → RelV y u → r x y H Q →
    wpAny (model X.prog X.w) X.A (f v u) (EP X pins σ Q) X.xe s
def CallR (X : Cx) (f : Value) (r : List V → Hp → VK → Prop) : Prop :=
  ∀ (pins : List (Addr × Obj)) (s : Shared) (σ : St) (H : Hp) (xs : List V) (us : List Value) (Q : VK), Inv X pins σ H s → Vals xs us → r xs H Q →
    wpAny (model X.prog X.w) X.A (call f us) (EP X pins σ Q) X.xe s
def TruR (X : Cx) (r : V → Hp → (Bool → Hp → Prop) → Prop) : Prop :=
  ∀ (pins : List (Addr × Obj)) (s : Shared) (σ : St) (H : Hp) (x : V) (v : Value) (Q : Bool → Hp → Prop), Inv X pins σ H s → RelV x v → r x H Q →
    wpAny (model X.prog X.w) X.A (truthy v) (TP X pins σ Q) X.xe s

def tOp (r : R2) (ta tb : TE) : TE := fun σ H Q => ta σ H fun x H1 => tb σ H1 fun y H2 => r x y H2 Q
def rI (C : Int → Int → Prop) (g : Int → Int → V) : R2 := fun x y H Q => ∃ i j, x = .int i ∧ y = .int j ∧ C i j ∧ Q (g i j) H
def rI0 (g : Int → Int → V) : R2 := fun x y H Q => ∃ i j, x = .int i ∧ y = .int j ∧ Q (g i j) H

section
variable {X : Cx} {a b c : Expr} {ta tb tc : TE} {pos : Pos}

theorem binT (ha : PE X a ta) (hb : PE X b tb) {pins : List (Addr × Obj)} {s : Shared} {σ : St} {H : Hp} {R : V → V → Hp → Prop} (I : Inv X pins σ H s)
    (h : ta σ H fun x H1 => tb σ H1 fun y H2 => R x y H2) {Q : Value → Shared → Prop} {f : Value → Value → Sem Value}
    (hf : ∀ v u s2 x y H2, Inv X pins σ H2 s2 → RelV x v → RelV y u → R x y H2 → wpAny (model X.prog X.w) X.A (f v u) Q X.xe s2) :
    wpAny (model X.prog X.w) X.A (eval a X.env) (fun v s₁ => wpAny (model X.prog X.w) X.A (eval b X.env) (fun u s₂ => wpAny (model X.prog X.w) X.A (f v u) Q X.xe s₂) X.xe s₁) X.xe s := by
  refine thn (ha pins s σ H _ I h) fun v s1 ⟨x, H1, I1, r1, q1⟩ => ?_
  refine thn (hb pins s1 σ H1 _ I1 q1) fun u s2 ⟨y, H2, I2, r2, q2⟩ => ?_
  exact hf v u s2 x y H2 I2 r1 r2 q2

theorem pe_op {op : Operator} {r : R2} (ho : OpR X (binaryOp op) r) (ha : PE X a ta) (hb : PE X b tb) : PE X (.BinOp a op b pos) (tOp r ta tb) := by
  intro pins s σ H Q I h
  exact wpAny_BinOp (binT ha hb I h fun v u s2 x y H2 I2 rx ry q => ho pins s2 σ H2 x y v u Q I2 rx ry q)

theorem opI {f : Value → Value → Sem Value} {C : Int → Int → Prop} {g : Int → Int → Int}
    (rule : ∀ (i j : Int) (t u : Tok) (s : Shared) (Q : Value → Shared → Prop) (E : Value → Shared → Prop), C i j → Q (.int (g i j) s.toks) { s with toks := s.toks + 1 } → wpAny (model X.prog X.w) X.A (f (.int i t) (.int j u)) Q E s) :
    OpR X f (rI C fun i j => .int (g i j)) := by
  intro pins s σ H x y v u Q I rx ry h
  obtain ⟨i, j, rfl, rfl, hc, q⟩ := h
  obtain ⟨t, rfl⟩ := rx
  obtain ⟨t', rfl⟩ := ry
  exact rule i j t t' s _ _ hc ⟨.int (g i j), H, I.tok _, ⟨_, rfl⟩, q⟩
theorem opI0 {f : Value → Value → Sem Value} {g : Int → Int → Int}
    (rule : ∀ (i j : Int) (t u : Tok) (s : Shared) (Q : Value → Shared → Prop) (E : Value → Shared → Prop), Q (.int (g i j) s.toks) { s with toks := s.toks + 1 } → wpAny (model X.prog X.w) X.A (f (.int i t) (.int j u)) Q E s) :
    OpR X f (rI0 fun i j => .int (g i j)) := by
  intro pins s σ H x y v u Q I rx ry h
  obtain ⟨i, j, rfl, rfl, q⟩ := h
  obtain ⟨t, rfl⟩ := rx
  obtain ⟨t', rfl⟩ := ry
  exact rule i j t t' s _ _ ⟨.int (g i j), H, I.tok _, ⟨_, rfl⟩, q⟩
theorem opB0 {f : Value → Value → Sem Value} {g : Int → Int → Bool}
    (rule : ∀ (i j : Int) (t u : Tok) (s : Shared) (Q : Value → Shared → Prop) (E : Value → Shared → Prop), Q (.bool (g i j)) s → wpAny (model X.prog X.w) X.A (f (.int i t) (.int j u)) Q E s) :
    OpR X f (rI0 fun i j => .bl (g i j)) := by
  intro pins s σ H x y v u Q I rx ry h
  obtain ⟨i, j, rfl, rfl, q⟩ := h
  obtain ⟨t, rfl⟩ := rx
  obtain ⟨t', rfl⟩ := ry
  exact rule i j t t' s _ _ ⟨.bl (g i j), H, I, rfl, q⟩

def CDiv (i j : Int) : Prop := 0 < j ∧ j < 1073741824
def CMul (i j : Int) : Prop := (-(2 ^ 64) < i ∧ i < 2 ^ 64) ∨ (-(2 ^ 64) < j ∧ j < 2 ^ 64)
theorem CMul.ok {i j : Int} (h : CMul i j) : IntMulOk i j := by
  rcases h with ⟨h1, h2⟩ | ⟨h1, h2⟩
  · exact .of_left (intBits_le_64 h1 h2)
  · exact .of_right (intBits_le_64 h1 h2)

theorem op_add : OpR X (binaryOp .Add) (rI0 fun i j => .int (i + j)) := opI0 fun _ _ _ _ _ _ _ q => add_int q
theorem op_sub : OpR X (binaryOp .Sub) (rI0 fun i j => .int (i - j)) := opI0 fun _ _ _ _ _ _ _ q => sub_int q
theorem op_mul : OpR X (binaryOp .Mult) (rI CMul fun i j => .int (i * j)) := opI fun _ _ _ _ _ _ _ hc q => mul_int q hc.ok
theorem op_fdiv : OpR X (binaryOp .FloorDiv) (rI CDiv fun i j => .int (i / j)) := opI fun i j _ _ _ _ _ hc q => by
  have h1 : (0 : Int) < j := hc.1
  have h2 : j < 1073741824 := hc.2
  exact floordiv_int (by omega) (by rw [Int.fdiv_eq_ediv_of_nonneg i (by omega)]; exact q) (.inl (PyProof.noPylong_small (by omega)))
theorem op_mod : OpR X (binaryOp .Mod) (rI (fun _ j => 0 < j) fun i j => .int (i % j)) := opI fun i j _ _ _ _ _ hc q => by
  have h1 : (0 : Int) < j := hc
  exact mod_int' (by omega) (by rw [Int.fmod_eq_emod_of_nonneg i (by omega)]; exact q)



end

def scal : V → V → Bool
  | .non, .non => true | .non, .int _ => true | .int _, .non => true | .non, .bl _ => true | .bl _, .non => true | .non, .str _ => true | .str _, .non => true
  | .int _, .int _ => true | .bl _, .bl _ => true | .str _, .str _ => true | .byt _, .byt _ => true
  | .int _, .str _ => true | .str _, .int _ => true | .bl _, .str _ => true | .str _, .bl _ => true
  | _, _ => false
def rEq : R2 := fun x y H Q => scal x y = true ∧ Q (.bl (decide (x = y))) H
def rNe : R2 := fun x y H Q => scal x y = true ∧ Q (.bl (!decide (x = y))) H

theorem dec_int {i j : Int} : decide (V.int i = V.int j) = (i == j) := by
  rw [Bool.eq_iff_iff]
  simp
theorem dec_bl {i j : Bool} : decide (V.bl i = V.bl j) = (i == j) := by
  rw [Bool.eq_iff_iff]
  simp
theorem dec_str {i j : Str} : decide (V.str i = V.str j) = (i == j) := by
  rw [Bool.eq_iff_iff]
  simp
theorem dec_byt {i j : Array UInt8} : decide (V.byt i = V.byt j) = (i.toList == j.toList) := by
  rw [Bool.eq_iff_iff]
  cases i
  cases j
  simp

section
variable {X : Cx} {a b c : Expr} {ta tb tc : TE} {pos : Pos}
theorem fin_bl {pins : List (Addr × Obj)} {σ : St} {H : Hp} {s : Shared} {Q : VK} {k k' : Bool} (I : Inv X pins σ H s) (q : Q (.bl k) H) (e : k = k') : EP X pins σ Q (.bool k') s := by
  subst e
  exact ⟨.bl k, H, I, rfl, q⟩
theorem op_eq : OpR X (compareOp .Eq) rEq := by
  intro pins s σ H x y v u Q I rx ry h
  obtain ⟨hs, q⟩ := h
  cases x with
  | non =>
    cases rx
    cases y with
    | non => cases ry; exact PySem.EqNone.eq_none_none (fin_bl I q (by simp))
    | bl j => cases ry; exact PySem.EqNone.eq_none_bool (fin_bl I q (by simp))
    | int j => obtain ⟨t', rfl⟩ := ry; exact PySem.EqNone.eq_none_int (fin_bl I q (by simp))
    | str j => obtain ⟨t', rfl⟩ := ry; exact PySem.EqNone.eq_none_str (fin_bl I q (by simp))
    | _ => exact absurd (show false = true from hs) Bool.false_ne_true
  | bl i =>
    cases rx
    cases y with
    | non => cases ry; exact PySem.EqNone.eq_bool_none (fin_bl I q (by simp))
    | bl j => cases ry; exact eq_bool (fin_bl I q dec_bl)
    | str j => obtain ⟨t', rfl⟩ := ry; exact PySem.EqMixed.eq_bool_str (fin_bl I q (by simp))
    | _ => exact absurd (show false = true from hs) Bool.false_ne_true
  | int i =>
    obtain ⟨t, rfl⟩ := rx
    cases y with
    | non => cases ry; exact PySem.EqNone.eq_int_none (fin_bl I q (by simp))
    | int j => obtain ⟨t', rfl⟩ := ry; exact eq_int (fin_bl I q dec_int)
    | str j => obtain ⟨t', rfl⟩ := ry; exact PySem.EqMixed.eq_int_str (fin_bl I q (by simp))
    | _ => exact absurd (show false = true from hs) Bool.false_ne_true
  | str i =>
    obtain ⟨t, rfl⟩ := rx
    cases y with
    | non => cases ry; exact PySem.EqNone.eq_str_none (fin_bl I q (by simp))
    | bl j => cases ry; exact PySem.EqMixed.eq_str_bool (fin_bl I q (by simp))
    | int j => obtain ⟨t', rfl⟩ := ry; exact PySem.EqMixed.eq_str_int (fin_bl I q (by simp))
    | str j => obtain ⟨t', rfl⟩ := ry; exact eq_str (fin_bl I q dec_str)
    | _ => exact absurd (show false = true from hs) Bool.false_ne_true
  | byt i =>
    obtain ⟨t, rfl⟩ := rx
    cases y with
    | byt j => obtain ⟨t', rfl⟩ := ry; exact PySem.W.eq_bytes (fin_bl I q dec_byt)
    | _ => exact absurd (show false = true from hs) Bool.false_ne_true
  | _ => cases y <;> exact absurd (show false = true from hs) Bool.false_ne_true
theorem op_ne : OpR X (compareOp .NotEq) rNe := by
  intro pins s σ H x y v u Q I rx ry h
  obtain ⟨hs, q⟩ := h
  cases x with
  | non =>
    cases rx
    cases y with
    | non => cases ry; exact PySem.EqNone.ne_none_none (fin_bl I q (by simp))
    | bl j => cases ry; exact PySem.EqNone.ne_none_bool (fin_bl I q (by simp))
    | int j => obtain ⟨t', rfl⟩ := ry; exact PySem.EqNone.ne_none_int (fin_bl I q (by simp))
    | str j => obtain ⟨t', rfl⟩ := ry; exact PySem.EqNone.ne_none_str (fin_bl I q (by simp))
    | _ => exact absurd (show false = true from hs) Bool.false_ne_true
  | bl i =>
    cases rx
    cases y with
    | non => cases ry; exact PySem.EqNone.ne_bool_none (fin_bl I q (by simp))
    | bl j => cases ry; exact ne_bool (fin_bl I q (congrArg not dec_bl))
    | str j => obtain ⟨t', rfl⟩ := ry; exact PySem.EqMixed.ne_bool_str (fin_bl I q (by simp))
    | _ => exact absurd (show false = true from hs) Bool.false_ne_true
  | int i =>
    obtain ⟨t, rfl⟩ := rx
    cases y with
    | non => cases ry; exact PySem.EqNone.ne_int_none (fin_bl I q (by simp))
    | int j => obtain ⟨t', rfl⟩ := ry; exact ne_int (fin_bl I q (congrArg not dec_int))
    | str j => obtain ⟨t', rfl⟩ := ry; exact PySem.EqMixed.ne_int_str (fin_bl I q (by simp))
    | _ => exact absurd (show false = true from hs) Bool.false_ne_true
  | str i =>
    obtain ⟨t, rfl⟩ := rx
    cases y with
    | non => cases ry; exact PySem.EqNone.ne_str_none (fin_bl I q (by simp))
    | bl j => cases ry; exact PySem.EqMixed.ne_str_bool (fin_bl I q (by simp))
    | int j => obtain ⟨t', rfl⟩ := ry; exact PySem.EqMixed.ne_str_int (fin_bl I q (by simp))
    | str j => obtain ⟨t', rfl⟩ := ry; exact ne_str (fin_bl I q (congrArg not dec_str))
    | _ => exact absurd (show false = true from hs) Bool.false_ne_true
  | byt i =>
    obtain ⟨t, rfl⟩ := rx
    cases y with
    | byt j => obtain ⟨t', rfl⟩ := ry; exact PySem.W.ne_bytes (fin_bl I q (congrArg not dec_byt))
    | _ => exact absurd (show false = true from hs) Bool.false_ne_true
  | _ => cases y <;> exact absurd (show false = true from hs) Bool.false_ne_true

theorem op_lt : OpR X (compareOp .Lt) (rI0 fun i j => .bl (decide (i < j))) := opB0 fun _ _ _ _ _ _ _ q => lt_int q
theorem op_le : OpR X (compareOp .LtE) (rI0 fun i j => .bl (decide (i ≤ j))) := opB0 fun _ _ _ _ _ _ _ q => le_int q
theorem op_gt : OpR X (compareOp .Gt) (rI0 fun i j => .bl (decide (j < i))) := opB0 fun _ _ _ _ _ _ _ q => gt_int q



theorem OpR.or {f : Value → Value → Sem Value} {r r' : R2} (h : OpR X f r) (h' : OpR X f r') : OpR X f (fun x y H Q => r x y H Q ∨ r' x y H Q) := by
  intro pins s σ H x y v u Q I rx ry q
  rcases q with q | q
  · exact h pins s σ H x y v u Q I rx ry q
  · exact h' pins s σ H x y v u Q I rx ry q

theorem nomark (b : Expr) {op : CmpOp} (h : op ≠ .In := by decide) (h2 : op ≠ .NotIn := by decide) : behindInMarks op b = false := by
  have e1 : (op == CmpOp.In) = false := by cases op <;> first | rfl | exact absurd rfl h
  have e2 : (op == CmpOp.NotIn) = false := by cases op <;> first | rfl | exact absurd rfl h2
  cases b <;> simp [behindInMarks, e1, e2]
theorem pe_cmpR {op : CmpOp} {r : R2} (ho : OpR X (compareOp op) r) (ha : PE X a ta) (hb : PE X b tb) (hm : behindInMarks op b = false) : PE X (.Compare a [op] [b] pos) (tOp r ta tb) := by
  intro pins s σ H Q I h
  exact wpAny_Compare1 (binT ha hb I h fun v u s2 x y H2 I2 rx ry q => ho pins s2 σ H2 x y v u Q I2 rx ry q) hm
def tTest (t : TE) : TT := fun σ H Q => t σ H fun x H' => ∃ k, x = .bl k ∧ Q k H'
theorem pt_cmpR {op : CmpOp} {r : R2} (ho : OpR X (compareOp op) r) (ha : PE X a ta) (hb : PE X b tb) (hm : behindInMarks op b = false) : PT X (.Compare a [op] [b] pos) (tTest (tOp r ta tb)) := by
  intro pins s σ H Q I h
  refine wpAny_isTrue_Compare1 (thn (ha pins s σ H _ I h) fun v s1 ⟨x, H1, I1, r1, q1⟩ => thn (hb pins s1 σ H1 _ I1 q1) fun u s2 ⟨y, H2, I2, r2, q2⟩ =>
    thn (ho pins s2 σ H2 x y v u _ I2 r1 r2 q2) fun c s3 ⟨z, H3, I3, r3, k, e, q3⟩ => ?_) hm
  subst e
  cases r3
  exact wpAny_truthy_bool ⟨H3, I3, q3⟩
def tChain (r r' : R2) (ta tb tc : TE) : TE := fun σ H Q => ta σ H fun x H1 => tb σ H1 fun y H2 => r x y H2 fun z H3 => ∃ k, z = .bl k ∧
  (if k = true then tc σ H3 fun w' H4 => r' y w' H4 Q else Q (.bl false) H3)
theorem pe_chain {op op' : CmpOp} {r r' : R2} (ho : OpR X (compareOp op) r) (ho' : OpR X (compareOp op') r') (ha : PE X a ta) (hb : PE X b tb) (hc : PE X c tc)
    (hm : lastMarks [op, op'] [b, c] = false := by with_unfolding_all rfl) : PE X (.Compare a [op, op'] [b, c] pos) (tChain r r' ta tb tc) := by
  intro pins s σ H Q I h
  refine Compare_chain (thn (ha pins s σ H _ I h) fun v s1 ⟨x, H1, I1, r1, q1⟩ => chain_link (thn (hb pins s1 σ H1 _ I1 q1) fun u s2 ⟨y, H2, I2, r2, q2⟩ =>
    thn (ho pins s2 σ H2 x y v u _ I2 r1 r2 q2) fun d s3 ⟨z, H3, I3, r3, k, e, q3⟩ => ?_)) hm
  subst e
  cases r3
  refine wpAny_truthy_bool ?_
  cases k with
  | false => exact ite_ff ⟨.bl false, H3, I3, rfl, q3⟩
  | true => exact ite_tt (chain_last (thn (hc pins s3 σ H3 _ I3 q3) fun w' s4 ⟨z', H4, I4, r4, q4⟩ => ho' pins s4 σ H4 y z' u w' Q I4 r2 r4 q4))
theorem pt_chain {op op' : CmpOp} {r r' : R2} (ho : OpR X (compareOp op) r) (ho' : OpR X (compareOp op') r') (ha : PE X a ta) (hb : PE X b tb) (hc : PE X c tc)
    (hm : lastMarks [op, op'] [b, c] = false := by with_unfolding_all rfl) : PT X (.Compare a [op, op'] [b, c] pos) (tTest (tChain r r' ta tb tc)) := by
  intro pins s σ H Q I h
  refine isTrue_chain (thn (ha pins s σ H _ I h) fun v s1 ⟨x, H1, I1, r1, q1⟩ => test_link (thn (hb pins s1 σ H1 _ I1 q1) fun u s2 ⟨y, H2, I2, r2, q2⟩ =>
    thn (ho pins s2 σ H2 x y v u _ I2 r1 r2 q2) fun d s3 ⟨z, H3, I3, r3, k, e, q3⟩ => ?_)) hm
  subst e
  cases r3
  refine wpAny_truthy_bool ?_
  cases k with
  | false =>
    obtain ⟨k', e', q'⟩ := q3
    cases e'
    exact ite_ff ⟨H3, I3, q'⟩
  | true =>
    refine ite_tt (test_last (thn (hc pins s3 σ H3 _ I3 q3) fun w' s4 ⟨z', H4, I4, r4, q4⟩ => thn (ho' pins s4 σ H4 y z' u w' _ I4 r2 r4 q4) fun d' s5 ⟨z2, H5, I5, r5, k2, e2, q5⟩ => ?_))
    subst e2
    cases r5
    exact wpAny_truthy_bool ⟨H5, I5, q5⟩

def TruV (K : PySem.W.Frag) (x : V) (H : Hp) (k : Bool) : Prop :=
  match x with
  | .non => k = false
  | .bl b => k = b
  | .int i => k = (i != 0)
  | .str y => y.length ≤ sizeLine ∧ k = ((y.length : Int) != 0)
  | .byt y => y.size ≤ sizeLine ∧ k = ((y.size : Int) != 0)
  | .ref p => (∃ xs, SqL K H p xs ∧ k = !xs.isEmpty) ∨ (∃ xs, SqT K H p xs ∧ k = !xs.isEmpty) ∨ ∃ kvs, H p = some (.dK kvs) ∧ k = !kvs.isEmpty
  | _ => False
theorem isEmpty_kv {κ : Type} {kvs : List (κ × V)} {vs : List (κ × Value)} (r : KV kvs vs) : (!vs.isEmpty) = !kvs.isEmpty := by
  cases r <;> rfl
theorem isEmpty_of {xs : List V} {its : List Value} (r : Vals xs its) : (!its.toArray.isEmpty) = !xs.isEmpty := by
  cases r <;> simp
theorem line63 : (sizeLine : Nat) < 2 ^ 63 := by rw [sizeLine_eq]; decide
theorem tru_ok : TruR X (fun x H Q => ∃ k, TruV X.K x H k ∧ Q k H) := by
  intro pins s σ H x v Q I rx h
  obtain ⟨k, e, q⟩ := h
  have hl := line63
  have hs : sizeLine = 16777216 := sizeLine_eq
  cases x with
  | non =>
    cases rx
    have e' : k = false := e
    subst e'
    exact truthy_none ⟨H, I, q⟩
  | bl b =>
    cases rx
    have e' : k = b := e
    subst e'
    exact wpAny_truthy_bool ⟨H, I, q⟩
  | int i =>
    obtain ⟨t, rfl⟩ := rx
    have e' : k = (i != 0) := e
    subst e'
    exact PySem.P.truthy_int ⟨H, I, q⟩
  | str y =>
    obtain ⟨t, rfl⟩ := rx
    obtain ⟨hy, e'⟩ : y.length ≤ sizeLine ∧ k = ((y.length : Int) != 0) := e
    subst e'
    exact PySem.P.truthy_str (by omega) ⟨H, I.tok _, q⟩
  | byt y =>
    obtain ⟨t, rfl⟩ := rx
    obtain ⟨hy, e'⟩ : y.size ≤ sizeLine ∧ k = ((y.size : Int) != 0) := e
    subst e'
    exact PySem.W.truthy_bytes (by omega) ⟨H, I.tok _, q⟩
  | ref p =>
    cases rx
    have e' : (∃ xs, SqL X.K H p xs ∧ k = !xs.isEmpty) ∨ (∃ xs, SqT X.K H p xs ∧ k = !xs.isEmpty) ∨ ∃ kvs, H p = some (.dK kvs) ∧ k = !kvs.isEmpty := e
    rcases e' with ⟨xs, hx, e'⟩ | ⟨xs, hx, e'⟩ | ⟨kvs, hx, e'⟩
    · subst e'
      obtain ⟨its, r, pl, hz⟩ := I.list hx
      have hlen := r.length
      exact wpAny_truthy_list pl.isList (by simp only [List.size_toArray]; omega) ⟨H, I.tok _, by rw [isEmpty_of r]; exact q⟩
    · subst e'
      obtain ⟨its, r, pl, hz⟩ := I.tuple hx
      have hlen := r.length
      exact truthy_tuple pl (by simp only [List.size_toArray]; omega) ⟨H, I.tok _, by rw [isEmpty_of r]; exact q⟩
    · subst e'
      obtain ⟨hz, hS, vs, r, m⟩ : kvs.length ≤ sizeLine ∧ (p == sysModules) = false ∧ ∃ vs, KV kvs vs ∧ s.heap.DictOf (mixKind X.prog X.w) p vs := I.hok p _ hx
      have hlen : kvs.length = vs.length := Paired.length r
      exact wpAny_truthy_dict hS m (by omega) ⟨H, I.tok _, by rw [isEmpty_kv r]; exact q⟩
  | _ => exact (show False from e).elim
theorem pt_truth (ha : PE X a ta) (he : ∀ whole, isTrue a X.env whole = (do let v ← whole; standAt a.pos; holding [v] (truthy v))) :
    PT X a (fun σ H Q => ta σ H fun x H' => ∃ k, TruV X.K x H' k ∧ Q k H') := by
  intro pins s σ H Q I h
  exact isTrue_plain (thn (ha pins s σ H _ I h) fun v s1 ⟨x, H1, I1, r1, q1⟩ => tru_ok pins s1 σ H1 x v Q I1 r1 q1) (he _)

theorem op_add_str : OpR X (binaryOp .Add) (fun x y H Q => ∃ i j, x = .str i ∧ y = .str j ∧ i.length + j.length ≤ sizeLine ∧ Q (.str (i ++ j)) H) := by
  intro pins s σ H x y v u Q I rx ry h
  obtain ⟨i, j, rfl, rfl, hz, q⟩ := h
  obtain ⟨t, rfl⟩ := rx
  obtain ⟨t', rfl⟩ := ry
  exact add_str (fun t' tk => ⟨.str (i ++ j), H, I.tok _, ⟨_, rfl⟩, q⟩) hz


theorem vals1 {x : V} {us : List Value} (r : Vals [x] us) : ∃ u, us = [u] ∧ RelV x u := by
  cases r with
  | cons r1 r2 => cases r2; exact ⟨_, rfl, r1⟩
theorem vals2 {x y : V} {us : List Value} (r : Vals [x, y] us) : ∃ u w', us = [u, w'] ∧ RelV x u ∧ RelV y w' := by
  cases r with
  | cons r1 r2 =>
    cases r2 with
    | cons r3 r4 => cases r4; exact ⟨_, _, rfl, r1, r3⟩
theorem call_max2 (hc : X.calm = true) : CallR X (.builtin "max") (fun xs H Q => ∃ i j, xs = [.int i, .int j] ∧ Q (.int (if j > i then j else i)) H) := by
  intro pins s σ H xs us Q I r h
  obtain ⟨i, j, rfl, q⟩ := h
  obtain ⟨u, w', rfl, ⟨t, rfl⟩, ⟨t', rfl⟩⟩ := vals2 r
  refine max_two_ints (I.ok.hd hc) fun h' tk k => ⟨_, H, I.kept k, ?_, q⟩
  by_cases hj : j > i
  · rw [if_pos hj, if_pos hj]; exact ⟨_, rfl⟩
  · rw [if_neg hj, if_neg hj]; exact ⟨_, rfl⟩
end
end L2

namespace L2
open PySem PySem.Spec PyProof.Rows

structure ObjM (h : Heap) (x dx C : Addr) (mA : Str → Option Value) : Prop where
  obj : h.get? x = some (PySem.W.instObj C dx)
  ns : h.Ns1 dx mA
  ne : dx ≠ x



section
variable {prog : Program} {w : World} {A : Around} {E : Value → Shared → Prop} {s : Shared} {K : PySem.W.Frag} {x dx C f : Addr} {mA : Str → Option Value} {name : Str} {v : Value}





end



section
variable {P : Program} {w : World} {H H' : Hp} {h h' : Heap} {a C dx : Addr} {fs fs' : List (Str × V)}
end

structure Cls (K : PySem.W.Frag) (C : Addr) : Prop where
  pg : PySem.W.plainGet K C Str.empty = true
  hd : PySem.W.hasDictIn K C = true
  po : PySem.W.plainOver K C = true
  sa : PySem.W.findIn K (.ref C) "__setattr__" = some (some (.builtin "object.__setattr__"))
theorem Cls.get {K : PySem.W.Frag} {C : Addr} (c : Cls K C) (f : Str) : PySem.W.plainGet K C f = true := c.pg
structure Con (K : PySem.W.Frag) (C : Addr) (f : Str) (v : V) (u : Value) : Prop where
  at_ : PySem.W.findIn K (.ref C) f = some (some u)
  rel : RelV v u
  get : PySem.W.specialIn K u "__get__" = some none
  cp : PySem.W.copiedNames.contains f = false
structure Meth (K : PySem.W.Frag) (C : Addr) (m : Str) (f : Addr) : Prop where
  at_ : PySem.W.findIn K (.ref C) m = some (some (.ref f))
  fn : PySem.W.isFn K (.ref f) = true
  kp : PySem.W.keepIn K (.ref f) = true

section
variable {X : Cx} {pins : List (Addr × Obj)} {σ : St} {H : Hp} {s : Shared} {a C dx : Addr} {fs : List (Str × V)} {f : Str} {v : V} {A : Around} {E : Value → Shared → Prop}





theorem Inv.made (I : Inv X pins σ H s) : Inv X pins σ (upd (upd H s.heap.objs.size (.own (s.heap.objs.size + 1))) (s.heap.objs.size + 1) (.ins C s.heap.objs.size []))
    { s with heap := (s.heap.push PySem.W.emptyDict).push (PySem.W.instObj C s.heap.objs.size) } := by
  have e1 : (s.heap.push PySem.W.emptyDict).get? s.heap.objs.size = some PySem.W.emptyDict := Heap.get?_push_size s.heap rfl
  have e2 : ((s.heap.push PySem.W.emptyDict).push (PySem.W.instObj C s.heap.objs.size)).get? (s.heap.objs.size + 1) = some (PySem.W.instObj C s.heap.objs.size) := by
    have := Heap.get?_push_size (s.heap.push PySem.W.emptyDict) (o := PySem.W.instObj C s.heap.objs.size) rfl
    rwa [Heap.size_push] at this
  have e3 : (s.heap.push PySem.W.emptyDict).Ns s.heap.objs.size (fun _ => none) := ⟨PySem.W.emptyDict, #[], _, e1, rfl, (fun e he => absurd he (by simp)), fun _ => rfl⟩
  have I1 := I.laid (a := s.heap.objs.size) (o := .own (s.heap.objs.size + 1)) (h' := s.heap.push PySem.W.emptyDict) (t' := s.toks) (fun b u q => Heap.get?_push_of_some _ q) (Nat.le_refl _) ⟨_, e1⟩
  refine I1.laid (a := s.heap.objs.size + 1) (o := .ins C s.heap.objs.size []) (t' := s.toks) (fun b u q => Heap.get?_push_of_some _ q) (Nat.le_of_eq (Heap.size_push _ _)) ?_
  have ne : s.heap.objs.size ≠ s.heap.objs.size + 1 := Nat.ne_of_lt (Nat.lt_succ_self _)
  refine ⟨by rw [upd_ne ne, upd_same], Nat.zero_le _, ne, e2, fun _ => none, (Heap.Ns1.of_empty e3).at fun o q => Heap.get?_push_of_some _ q, fun _ => True.intro, fun y hy => absurd rfl hy⟩

end


section
variable {X : Cx} {o e value : Expr} {f : Str} {pos pos' tpos : Pos} {ta tv : TE}

end

section
variable {X : Cx} {pins : List (Addr × Obj)} {σ : St} {H : Hp} {s : Shared} {A : Around} {E : Value → Shared → Prop} {Q : Value → Shared → Prop} {c : Value} {b : Bool}
inductive TyOf (K : PySem.W.Frag) (H : Hp) : V → Value → Prop where
  | non : TyOf K H .non (.type "NoneType")
  | bl (x : Bool) : TyOf K H (.bl x) (.type "bool")
  | int (i : Int) : TyOf K H (.int i) (.type "int")
  | str (x : Str) : TyOf K H (.str x) (.type "str")
  | flt (x : UInt64) : TyOf K H (.flt x) (.type "float")
  | lst {a : Addr} {xs : List V} (e : H a = some (.lst xs)) : TyOf K H (.ref a) (.type "list")
  | frz {a : Addr} {o : Obj} {xs : List V} (e : H a = some (.frz o (.lst xs))) : TyOf K H (.ref a) (.type "list")
  | tup {a : Addr} {xs : List V} (e : H a = some (.tup xs)) : TyOf K H (.ref a) (.type "tuple")
  | dK {a : Addr} {kvs : List (Key × V)} (e : H a = some (.dK kvs)) : TyOf K H (.ref a) (.type "dict")
  | dT {a : Addr} {kvs : List (List Key × V)} (e : H a = some (.dT kvs)) : TyOf K H (.ref a) (.type "dict")
  | ins {a C dx : Addr} {fs : List (Str × V)} (e : H a = some (.ins C dx fs)) (cl : Cls K C) (ha : PySem.W.findIn K (.ref C) "__class__" = some (some (.builtin "object.__class__")))
      (hn : PySem.W.specialIn K (.builtin "object.__class__") "__get__" = some (some (.builtin "getset_descriptor.__get__"))) (htk : PySem.W.takesIn K (.builtin "object.__class__") = some true)
      (hm : PySem.W.mroIn K C (.type "object") = some true) : TyOf K H (.ref a) (.ref C)
end
end L2

namespace L2
open PySem PySem.Spec PyProof.Rows

structure Room (k : Nat) (A : Around) : Prop where
  hd : A.handled = none
  dp : A.depth + 3 * k + 5 < recursionLimit
  un : A.units + 16 * k + 200 < cLine
theorem Room.mono {j k : Nat} {A : Around} (r : Room k A) (h : j ≤ k) : Room j A := ⟨r.hd, by have := r.dp; omega, by have := r.un; omega⟩
theorem Room.deeper {k : Nat} {A : Around} (r : Room (k + 1) A) (env : Env) : Room k (A.deeper env) :=
  ⟨r.hd, by have := r.dp; show A.depth + 1 + 3 * k + 5 < _; omega, by have := r.un; show A.units + 3 + 16 * k + 200 < _; omega⟩
theorem Room.in1 {k : Nat} {A : Around} (r : Room (k + 1) A) : Room k A.in1 :=
  ⟨r.hd, by have := r.dp; show A.depth + 3 * k + 5 < _; omega, by have := r.un; show A.units + 1 + 16 * k + 200 < _; omega⟩
theorem Room.depth {k : Nat} {A : Around} (r : Room k A) : A.depth < recursionLimit := by have := r.dp; omega
theorem Room.units {k : Nat} {A : Around} (r : Room k A) : A.units + 64 < cLine := by have := r.un; omega

def tNil : TA := fun _ H Q => Q [] H
def tCons (ta : TE) (tr : TA) : TA := fun σ H Q => ta σ H fun x H1 => tr σ H1 fun xs H2 => Q (x :: xs) H2
section
variable {X : Cx} {e : Expr} {es : List Expr} {te : TE} {t : TA} {pos : Pos}
theorem pa_nil : PA X [] tNil := fun _ _ _ _ H Q I h => Calls.spliced_nil ⟨[], H, I, .nil, h⟩
theorem pa_cons (ha : PE X e te) (hr : PA X es t) (hs : starEach (e :: es) X.env = (false, eval e X.env) :: starEach es X.env := by rfl) : PA X (e :: es) (tCons te t) := by
  intro pos pins s σ H Q I h
  rw [hs]
  show wpAny _ _ (spliced ((false, eval e X.env) :: backTo pos (starEach es X.env))) _ _ s
  refine Calls.spliced_cons (thn (ha pins s σ H _ I h) fun u s1 ⟨x, H1, I1, r1, q1⟩ => ?_)
  exact thn (hr pos pins s1 σ H1 _ I1 q1) fun us s2 ⟨xs, H2, I2, r2, q2⟩ => ⟨x :: xs, H2, I2, .cons r1 r2, q2⟩

def tTup (t : TA) : TE := fun σ H Q => t σ H fun xs H1 => xs.length ≤ sizeLine ∧ ∀ p, H1 p = none → Q (.ref p) (upd H1 p (.tup xs))
def tLst (t : TA) : TE := fun σ H Q => t σ H fun xs H1 => xs.length ≤ sizeLine ∧ ∀ p, H1 p = none → Q (.ref p) (upd H1 p (.lst xs))
theorem pe_tup {x1} (h : PA X es t) : PE X (.Tuple es x1 pos) (tTup t) := by
  intro pins s σ H Q I hq
  refine wpAny_Tuple_spliced (thn (h pos pins s σ H _ I hq) fun us s1 ⟨xs, H1, I1, r, z, q⟩ => ⟨by rw [← r.length]; exact z, ?_⟩)
  have hf : H1 s1.heap.objs.size = none := I1.hok.fresh (Nat.le_refl _)
  refine ⟨.ref s1.heap.objs.size, upd H1 s1.heap.objs.size (.tup xs), I1.laid (t' := s1.toks) (fun b u e => Heap.get?_push_of_some _ e) (Nat.le_refl _) ?_, rfl, q _ hf⟩
  exact ⟨z, us, r, ⟨_, Heap.get?_push_size _ rfl, rfl, _, rfl⟩⟩
theorem pe_lst (h : PA X es t) : PE X (.List es pos) (tLst t) := by
  intro pins s σ H Q I hq
  refine wpAny_List_spliced (thn (h pos pins s σ H _ I hq) fun us s1 ⟨xs, H1, I1, r, z, q⟩ => ⟨by rw [← r.length]; exact z, ?_⟩)
  have hf : H1 s1.heap.objs.size = none := I1.hok.fresh (Nat.le_refl _)
  refine ⟨.ref s1.heap.objs.size, upd H1 s1.heap.objs.size (.lst xs), I1.laid (t' := s1.toks) (fun b u e => Heap.get?_push_of_some _ e) (Nat.le_refl _) ?_, rfl, q _ hf⟩
  exact ⟨z, us, 0, r, Heap.get?_push_size _ rfl⟩
end

abbrev Sp := List V → Hp → VK → XK → Prop
abbrev CXT := List Env → Hp → Shared → XK → Value → Shared → Prop

structure Env0 (P : Program) (w : World) (K : PySem.W.Frag) (mg : Str → Option Value) (base : Heap) (A : Around) (outer : List Env) (s : Shared) (H : Hp) : Prop where
  frames : A.frames = some outer
  mod : Mod K mg base
  bs : ∀ b o, base.get? b = some o → s.heap.get? b = some o ∧ H b = none
  bsz : base.objs.size ≤ s.heap.objs.size
  funs : s.heap.FunFrames base outer
  frf : ∀ b ∈ frs outer, H b = none
  hok : HOk P w H s.heap
  bare : AllBare s.gens
def CE (outer : List Env) (P : Program) (w : World) (H : Hp) (s : Shared) (Q : VK) (u : Value) (s' : Shared) : Prop :=
  ∃ v H', s'.os = s.os ∧ AllBare s'.gens ∧ Un (frs outer) [] H H' s.heap s'.heap ∧ HOk P w H' s'.heap ∧ RelV v u ∧ Q v H'
def CR (CX : CXT) (outer : List Env) (P : Program) (w : World) (H : Hp) (s : Shared) (Q : VK) (E : XK) (r : Result) (s' : Shared) : Prop :=
  match r with
  | .ok (.ret u) => CE outer P w H s Q u s'
  | .ok _ => False
  | .error e => CX outer H s E e s'
structure FnOk (P : Program) (w : World) (K : PySem.W.Frag) (mg : Str → Option Value) (base : Heap) (CX : CXT) (k : Nat) (f : Addr) (fd : FuncData) (ps : List Str) (sp : Sp) : Prop where
  len : ∀ vs H Q E, sp vs H Q E → vs.length = ps.length
  run : ∀ (A : Around) (outer : List Env) (s : Shared) (H : Hp) (args : Args) (us : List Value) (vs : List V) (Q : VK) (E : XK), Room k A → Env0 P w K mg base A outer s H → BindsTo s fd args (ps.zip us) → Vals vs us → sp vs H Q E →
    codeAny (model P w) A (.call (.ref f) args) (CR CX outer P w H s Q E) s
theorem FnOk.mono {P : Program} {w : World} {K : PySem.W.Frag} {mg : Str → Option Value} {base : Heap} {CX : CXT} {j k : Nat} {f : Addr} {fd : FuncData} {ps : List Str} {sp : Sp} (F : FnOk P w K mg base CX j f fd ps sp) (h : j ≤ k) :
    FnOk P w K mg base CX k f fd ps sp := ⟨F.len, fun A outer s H args us vs Q E hr => F.run A outer s H args us vs Q E (hr.mono h)⟩

theorem Env0.in1 {P : Program} {w : World} {K : PySem.W.Frag} {mg : Str → Option Value} {base : Heap} {A : Around} {outer : List Env} {s : Shared} {H : Hp} (e : Env0 P w K mg base A outer s H) :
    Env0 P w K mg base A.in1 outer s H := ⟨e.frames, e.mod, e.bs, e.bsz, e.funs, e.frf, e.hok, e.bare⟩

section
variable {X : Cx} {pins : List (Addr × Obj)} {σ : St} {H : Hp} {s s' : Shared}
theorem Inv.env0 (I : Inv X pins σ H s) : Env0 X.prog X.w X.K X.mg X.base X.A X.stack s H :=
  ⟨I.ok.frames, I.ok.mod, I.bs, Nat.le_trans I.ok.bsz I.sz, I.stack, I.stkFree, I.hok, I.bare⟩
theorem Inv.after {Q : VK} {u : Value} (I : Inv X pins σ H s) (h : CE X.stack X.prog X.w H s Q u s') : EP X pins σ Q u s' := by
  obtain ⟨v, H', os, bare, un, hok, r, q⟩ := h
  obtain ⟨hh, g, d, t, os'⟩ := s'
  obtain rfl : os' = s.os := os
  exact ⟨v, H', I.call (h' := hh) (g' := g) (d' := d) (t' := t) (ch := []) un hok bare (fun b z => absurd z (by simp)), r, q⟩
end

def tCall (sp : Sp) (dvs : List V) (E : XK) (t : TA) : TE := fun σ H Q => t σ H fun vs H1 => sp (vs ++ dvs) H1 Q E

def Binds (K : PySem.W.Frag) (fd : FuncData) (ps : List Str) (ds : List Value) : Prop :=
  ∀ (s : Shared) (us : List Value), K.In s.heap → (us ++ ds).length = ps.length → BindsTo s fd ⟨us, []⟩ (ps.zip (us ++ ds))
theorem Binds.all {K : PySem.W.Frag} {fd : FuncData} {ps : List Str} (h : ∀ us : List Value, us.length = ps.length → bindArgs fd ⟨us, []⟩ = pure (ps.zip us)) : Binds K fd ps [] := fun s us _ hl => by
  rw [List.append_nil] at hl ⊢
  exact .of_eq (h us hl)

def Passes (CX : CXT) (X : Cx) (E : XK) : Prop := ∀ (pins : List (Addr × Obj)) (σ : St) (H : Hp) (s : Shared) (e : Value) (s' : Shared), Inv X pins σ H s → CX X.stack H s E e s' → X.xe e s'

section
variable {X : Cx} {CX : CXT} {k : Nat} {f C : Addr} {fd : FuncData} {ps : List Str} {sp : Sp} {dvs : List V} {ds : List Value} {E : XK} {x m : Str} {p pos apos : Pos} {e o : Expr} {es : List Expr} {ta : TE} {t : TA}

theorem run_fn {pins : List (Addr × Obj)} {σ : St} {H : Hp} {s : Shared} {Q : VK} {us : List Value} {vs : List V} (F : FnOk X.prog X.w X.K X.mg X.base CX k f fd ps sp) (hr : Room k X.A) (hb : Binds X.K fd ps ds) (hd : Vals dvs ds) (hx : Passes CX X E)
    (I : Inv X pins σ H s) (r : Vals vs us) (h : sp (vs ++ dvs) H Q E) : wpAny (model X.prog X.w) X.A (call (.ref f) us) (EP X pins σ Q) X.xe s := by
  have r2 : Vals (vs ++ dvs) (us ++ ds) := r.append hd
  have hl : (us ++ ds).length = ps.length := by rw [← r2.length]; exact F.len _ _ _ _ h
  refine wpAny_call (codeAny_mono (F.run X.A X.stack s H ⟨us, []⟩ (us ++ ds) (vs ++ dvs) Q E hr I.env0 (hb s us I.kIn hl) r2 h) fun r s' hq => ?_)
  cases r with
  | error e => exact hx pins σ H s e s' I hq
  | ok fl =>
    cases fl with
    | ret u => exact I.after hq
    | next => exact False.elim hq
    | brk => exact False.elim hq
    | cont => exact False.elim hq

theorem pe_call (F : FnOk X.prog X.w X.K X.mg X.base CX k f fd ps sp) (hr : Room k X.A) (hg : Gl X x) (hm : X.mg x = some (.ref f)) (hk : PySem.W.keepIn X.K (.ref f) = true) (hb : Binds X.K fd ps ds) (hd : Vals dvs ds) (hx : Passes CX X E)
    (ha : PA X (e :: es) t) (hdb : (x == ("__debug__" : Str)) = false := by decide) (he : starEach (e :: es) X.env = (false, eval e X.env) :: starEach es X.env := by rfl) (hpl : (backTo pos (starEach es X.env)).any (·.1) = false := by rfl) :
    PE X (.Call (.Name x p) (e :: es) [] pos) (tCall sp dvs E t) := by
  intro pins s σ H Q I h
  refine wpAny_Call_Name_kw (ld_glob I hg hm ?_ hdb)
  refine PySem.W.callWith_K (h₀ := X.base) I.ok.mod.kin hk (thn (ha pos pins s σ H _ I h) fun us s1 ⟨vs, H1, I1, r, q⟩ => ⟨I1.kIn, ?_⟩) he hpl
  exact run_fn F hr hb hd hx I1 r q


structure Mk (K : PySem.W.Frag) (C f : Addr) : Prop where
  makes : PySem.W.makesIn K C = true
  init : PySem.W.findIn K (.ref C) "__init__" = some (some (.ref f))
  fn : PySem.W.isFn K (.ref f) = true
  kp : PySem.W.keepIn K (.ref C) = true

end

section
variable {X : Cx} {CX : CXT} {k : Nat} {f C : Addr} {fd : FuncData} {ps ks : List Str} {sp : Sp} {E : XK} {x m : Str} {p pos apos kpos : Pos} {e o : Expr} {es : List Expr} {kws : List Keyword} {te ta : TE} {t tk : TA} {nm : Option Str}

structure KBinds (K : PySem.W.Frag) (fd : FuncData) (ps ks : List Str) (g : List Value → List Value → List Value) (gV : List V → List V → List V) : Prop where
  to : ∀ (s : Shared) (us ws : List Value), K.In s.heap → (g us ws).length = ps.length → BindsTo s fd ⟨us, ks.zip ws⟩ (ps.zip (g us ws))
  rel : ∀ {vs : List V} {us : List Value} {zs : List V} {ws : List Value}, Vals vs us → Vals zs ws → Vals (gV vs zs) (g us ws)
variable {g : List Value → List Value → List Value} {gV : List V → List V → List V}
end

structure FnScope (N P : List Str) (sc : Scope) : Prop where
  kind : sc.kind = .function
  co : sc.isCoroutine = false
  gen : sc.isGenerator = false
  nd : N.Nodup
  pre : N.take P.length = P
  par : ∀ x ∈ P, sc.names.lookup x = some .local ∨ sc.names.lookup x = some .cell
  nofree : ∀ y ∈ sc.names, y.2 ≠ .free

theorem bindL_out {kindOf : Str → Option NameKind} {x : Str} : ∀ {binds : List (Str × Value)} {m : Str → Option Value}, (∀ v, (x, v) ∉ binds) → bindL kindOf binds m x = m x
  | [], _, _ => rfl
  | (n, v) :: r, m, h => by
    unfold bindL
    rw [bindL_out fun w hw => h w (List.mem_cons_of_mem _ hw)]
    split
    · have : x ≠ n := by rintro rfl; exact h v List.mem_cons_self
      simp [this]
    · rfl
theorem bindC_out {kindOf : Str → Option NameKind} {x : Str} : ∀ {binds : List (Str × Value)} {m : Str → Option Value}, (∀ v, (x, v) ∉ binds) → bindC kindOf binds m x = m x
  | [], _, _ => rfl
  | (n, v) :: r, m, h => by
    unfold bindC
    rw [bindC_out fun w hw => h w (List.mem_cons_of_mem _ hw)]
    split
    · rfl
    · have : x ≠ n := by rintro rfl; exact h v List.mem_cons_self
      simp [this]
theorem bindL_get {kindOf : Str → Option NameKind} {x : Str} {v : Value} : ∀ {P : List Str} {vs : List Value} {i : Nat} {m : Str → Option Value}, P.Nodup → P[i]? = some x → vs[i]? = some v → kindOf x = some .local →
    bindL kindOf (P.zip vs) m x = some v
  | [], _, _, _, _, h, _, _ => by simp at h
  | _ :: _, [], _, _, _, _, h, _ => by simp at h
  | p :: P, w :: vs, 0, m, nd, h1, h2, hk => by
    simp at h1 h2; subst h1; subst h2
    show bindL kindOf ((p, w) :: P.zip vs) m p = _
    unfold bindL
    rw [bindL_out fun v hv => (List.nodup_cons.mp nd).1 (List.of_mem_zip hv).1, if_pos hk]
    simp
  | p :: P, w :: vs, i + 1, m, nd, h1, h2, hk => by
    show bindL kindOf ((p, w) :: P.zip vs) m x = _
    unfold bindL
    exact bindL_get (i := i) (List.nodup_cons.mp nd).2 (by simpa using h1) (by simpa using h2) hk
theorem bindC_get {kindOf : Str → Option NameKind} {x : Str} {v : Value} : ∀ {P : List Str} {vs : List Value} {i : Nat} {m : Str → Option Value}, P.Nodup → P[i]? = some x → vs[i]? = some v → kindOf x ≠ some .local →
    bindC kindOf (P.zip vs) m x = some v
  | [], _, _, _, _, h, _, _ => by simp at h
  | _ :: _, [], _, _, _, _, h, _ => by simp at h
  | p :: P, w :: vs, 0, m, nd, h1, h2, hk => by
    simp at h1 h2; subst h1; subst h2
    show bindC kindOf ((p, w) :: P.zip vs) m p = _
    unfold bindC
    rw [bindC_out fun v hv => (List.nodup_cons.mp nd).1 (List.of_mem_zip hv).1, if_neg hk]
    simp
  | p :: P, w :: vs, i + 1, m, nd, h1, h2, hk => by
    show bindC kindOf ((p, w) :: P.zip vs) m x = _
    unfold bindC
    exact bindC_get (i := i) (List.nodup_cons.mp nd).2 (by simpa using h1) (by simpa using h2) hk

def start (N : List Str) (vs : List V) : St := vs.map some ++ List.replicate (N.length - vs.length) none

def cxOf (CX : CXT) (P : Program) (w : World) (K : PySem.W.Frag) (mg : Str → Option Value) (base : Heap) (N : List Str) (qual : Str) (scope : Scope) (f : Addr) (cd : Value) (A : Around) (outer : List Env) (s : Shared) (H : Hp) (E : XK) : Cx where
  prog := P
  w := w
  K := K
  mg := mg
  base := base
  A := A.deeper (envOfC qual scope s.heap.objs.size f cd)
  N := N
  s₀ := s
  H₀ := H
  env := envOfC qual scope s.heap.objs.size f cd
  outer := outer
  stack := envOfC qual scope s.heap.objs.size f cd :: outer
  ex := []
  calm := true
  fn := fun _ => true
  pn := []
  xe := fun e s' => wpAny (model P w) (A.deeper (envOfC qual scope s.heap.objs.size f cd)) (leaving (envOfC qual scope s.heap.objs.size f cd) e) (fun _ s'' => CX outer H s E e s'') (fun e' s'' => CX outer H s E e' s'') s'

theorem cell_has {sc : Scope} {n : Nat} {x : Str} (h : sc.names.lookup x = some .cell) : ∃ c, (cellsFrom n sc.names []).lookup x = some c := by
  have q := PySem.W.cellsFrom_some sc.names n [] (.inl h)
  exact Option.isSome_iff_exists.mp q

theorem inv_start {CX : CXT} {P : Program} {w : World} {K : PySem.W.Frag} {mg : Str → Option Value} {base : Heap} {N ps : List Str} {qual : Str} {scope : Scope} {f : Addr} {cd : Value} {A : Around} {outer : List Env} {s s1 : Shared} {H : Hp} {E : XK} {us : List Value} {vs : List V}
    (S : FnScope N ps scope) (hd : A.handled = none) (e0 : Env0 P w K mg base A outer s H) (hl : vs.length = ps.length) (r : Vals vs us)
    (x : InCallC s s.heap.objs.size (bindL (envOfC qual scope s.heap.objs.size f cd).kindOf (ps.zip us) fun _ => none) (cellsFrom (s.heap.objs.size + 1) scope.names []) (bindC (envOfC qual scope s.heap.objs.size f cd).kindOf (ps.zip us) fun _ => none) s1) :
    Inv (cxOf CX P w K mg base N qual scope f cd A outer s H E) [] (start N vs) H s1 := by
  have hpl : ps.length ≤ N.length := by have := congrArg List.length S.pre; rw [List.length_take] at this; omega
  obtain ⟨h1, tk, rfl, hk⟩ := x.done
  have noA : ∀ b : Addr, b ∉ (cxOf CX P w K mg base N qual scope f cd A outer s H E).ex := fun b z => absurd (show b ∈ ([] : List Addr) from z) (by simp)
  refine ⟨⟨e0.mod, S.kind, rfl, rfl, Nat.le_refl _, fun y z c h1 h2 => ?_, fun y hy => ?_, fun y c _ h => ?_, fun _ => hd, Around.frames_deeper e0.frames, .inr ⟨rfl, rfl⟩, fun b z => absurd z (noA b), e0.bs, e0.bsz, fun b _ _ => noA b, fun b z => absurd z (noA b), e0.funs, e0.frf⟩,
    rfl, e0.bare, Un.kept hk, ⟨_, x.toInCall.ns, fun i y v h1 h2 h3 => ?_⟩, fun y c h => ⟨_, x.cell y c h⟩, e0.hok.fresh (Nat.le_refl _), fun y c h => ?_, fun p hp => absurd (show p ∈ ([] : List (Addr × Obj)) from hp) (by simp), e0.hok.kept hk, ?_⟩
  · exact name_of_addr x.apart (PySem.mem_of_lookup h1) (PySem.mem_of_lookup h2)
  · have hy : scope.names.lookup y = some .cell ∨ scope.names.lookup y = some .free := hy
    rcases hy with hy | hy
    · exact cell_has hy
    · exact absurd rfl (S.nofree _ (PySem.mem_of_lookup hy))
  · exact Nat.le_of_lt (x.above y c (PySem.mem_of_lookup h))
  · have hi : i < vs.length := by
      unfold start at h2
      by_cases hi : i < vs.length
      · exact hi
      · rw [List.getElem?_append_right (by simpa using hi)] at h2
        rw [List.getElem?_replicate] at h2
        split at h2 <;> cases h2
    have ha : vs[i]? = some v := by
      unfold start at h2
      rw [List.getElem?_append_left (by simpa using hi), List.getElem?_map] at h2
      cases e : vs[i]? with
      | none => rw [e] at h2; cases h2
      | some a => rw [e] at h2; cases h2; rfl
    obtain ⟨u, hu, rv⟩ := r.get ha
    have hp : ps[i]? = some y := by
      rw [← S.pre, List.getElem?_take_of_lt (by omega)]; exact h1
    have ndP : ps.Nodup := by rw [← S.pre]; exact S.nd.sublist (List.take_sublist _ _)
    refine ⟨u, rv, ?_⟩
    rcases S.par y (List.mem_of_getElem? hp) with k | k
    · exact .inl ⟨k, bindL_get ndP hp hu k⟩
    · obtain ⟨c, e⟩ := cell_has (n := s.heap.objs.size + 1) k
      refine .inr ⟨.inl k, c, e, ?_⟩
      have q := x.cell y c e
      rw [bindC_get ndP hp hu (by show scope.names.lookup y ≠ _; rw [k]; decide)] at q
      exact q
  · exact e0.hok.fresh (Nat.le_of_lt (x.above y c (PySem.mem_of_lookup h)))
  · unfold start
    show _ = N.length
    rw [List.length_append, List.length_map, List.length_replicate]
    omega

theorem fn_of {CX : CXT} {P : Program} {w : World} {K : PySem.W.Frag} {mg : Str → Option Value} {base : Heap} {k : Nat} {f : Addr} {name qual : Str} {params : Arguments} {body : List Stmt} {scope : Scope} {dV kV doc pm cdv ct oc : Value} {an od : Option Addr}
    {osl : Array (Option Value)} {N ps : List Str} {sp : Sp} (lk : K.lookup f = some ⟨oc, od, .func (PySem.W.fnOf name qual params body scope dV kV doc pm an cdv ct), osl⟩) (hcd : PySem.W.codeIn K cdv qual = true) (S : FnScope N ps scope)
    (len : ∀ vs H Q E, sp vs H Q E → vs.length = ps.length)
    (hbody : ∀ (A : Around) (outer : List Env) (s : Shared) (H : Hp) (vs : List V) (Q : VK) (E : XK), Room k (A.deeper (envOfC qual scope s.heap.objs.size f cdv)) → sp vs H Q E →
      ∃ t, PSs (cxOf CX P w K mg base N qual scope f cdv A outer s H E) body t ∧ t { nx := fun _ H' => Q .non H', rt := Q } (start N vs) H) :
    FnOk P w K mg base CX (k + 1) f (PySem.W.fnOf name qual params body scope dV kV doc pm an cdv ct) ps sp := by
  refine ⟨len, fun A outer s H args us vs Q E hr e0 hb r hsp => ?_⟩
  have hl := len _ _ _ _ hsp
  have KX : K.In s.heap := e0.mod.kin.keeps fun b o e => (e0.bs b o e).1
  have lim : s.heap.NoLimit := e0.mod.nolimit.keeps fun b o e => (e0.bs b o e).1
  have hkind : ∀ y ∈ ps.zip us, scope.names.lookup y.1 = some .local ∨ (scope.names.lookup y.1 = some .cell ∧ ((cellsFrom (s.heap.objs.size + 1) scope.names []).lookup y.1).isSome = true) := fun ⟨n, v⟩ hy => by
    rcases S.par n (List.of_mem_zip hy).1 with q | q
    · exact .inl q
    · exact .inr ⟨q, PySem.W.cellsFrom_some _ _ _ (.inl q)⟩
  refine codeAny_call_function hr.depth (KX _ _ lk) rfl S.co S.gen rfl (PySem.W.codeRec_of KX hcd) (hb _ _ _ _ ?_)
  refine wpAny_newFunctionEnv_cells S.kind hkind fun env he s1 x => ?_
  subst he
  refine ⟨lim.keeps x.toInCall.keep, codeAny_func ?_⟩
  obtain ⟨t, ht, hq⟩ := hbody A outer s H vs Q E (hr.deeper _) hsp
  have I : Inv (cxOf CX P w K mg base N qual scope f cdv A outer s H E) [] (start N vs) H s1 := inv_start S hr.hd e0 hl r x
  refine wpAny_mono (ht [] s1 (start N vs) H _ I hq) (fun fl s' hs => ?_) fun e s' hs => hs
  have fin : ∀ {σ' : St} {H' : Hp} {v : V} {u : Value}, Inv (cxOf CX P w K mg base N qual scope f cdv A outer s H E) [] σ' H' s' → RelV v u → Q v H' → CE outer P w H s Q u s' :=
    fun {σ' H' v u} J rv q => ⟨v, H', J.os, J.bare, J.base, J.hok, rv, q⟩
  cases fl with
  | ret u =>
    obtain ⟨v, σ', H', J, rv, q⟩ := hs
    exact fin J rv q
  | next =>
    obtain ⟨σ', H', J, q⟩ := hs
    exact fin (v := V.non) (u := Value.none) J rfl q
  | brk =>
    obtain ⟨_, _, _, q⟩ := hs
    exact False.elim q
  | cont =>
    obtain ⟨_, _, _, q⟩ := hs
    exact False.elim q
end L2

namespace L2
open PySem PySem.Spec PyProof.Rows
section
variable {X : Cx} {x : Str} {p pos : Pos} {e : Expr} {es : List Expr} {t : TA} {id T : String} {r : List V → Hp → VK → Prop}

def tCB (r : List V → Hp → VK → Prop) (t : TA) : TE := fun σ H Q => t σ H fun vs H1 => r vs H1 Q
theorem pe_callB (hc : CallR X (.builtin id) r) (hg : Gl X x) (hm : X.mg x = none) (hv : bootBuiltins x = some (.builtin id)) (ha : PA X (e :: es) t) (hn : x ≠ "__name__" := by decide) (hdb : (x == ("__debug__" : Str)) = false := by decide)
    (he : starEach (e :: es) X.env = (false, eval e X.env) :: starEach es X.env := by rfl) (hpl : (backTo pos (starEach es X.env)).any (·.1) = false := by rfl) : PE X (.Call (.Name x p) (e :: es) [] pos) (tCB r t) := by
  intro pins s σ H Q I h
  refine wpAny_Call_Name_kw (ld_blt I hg hm hv ?_ hn hdb)
  exact PyProof.Rows.callWith_builtin1 (thn (ha pos pins s σ H _ I h) fun us s1 ⟨vs, H1, I1, r1, q1⟩ => hc pins s1 σ H1 vs us Q I1 r1 q1) he hpl
theorem pe_callTy (hc : CallR X (.type T) r) (hg : Gl X x) (hm : X.mg x = none) (hv : bootBuiltins x = some (.type T)) (ha : PA X (e :: es) t) (hn : x ≠ "__name__" := by decide) (hdb : (x == ("__debug__" : Str)) = false := by decide)
    (he : starEach (e :: es) X.env = (false, eval e X.env) :: starEach es X.env := by rfl) (hpl : (backTo pos (starEach es X.env)).any (·.1) = false := by rfl) : PE X (.Call (.Name x p) (e :: es) [] pos) (tCB r t) := by
  intro pins s σ H Q I h
  refine wpAny_Call_Name_kw (ld_blt I hg hm hv ?_ hn hdb)
  exact PyProof.Rows.callWith_type1 (thn (ha pos pins s σ H _ I h) fun us s1 ⟨vs, H1, I1, r1, q1⟩ => hc pins s1 σ H1 vs us Q I1 r1 q1) he hpl
end
end L2

namespace HT
open PySem PyProof.Rows



section
open PySem.SeqAt
open PySem.AutoSeq1 (wpAny_loadPart')
open PySem.MeetsSeq PySem.MeetsSeq2 PySem.MeetsSeq3

end

section
variable {prog : Program} {w : World} {A : Around} {E : Value → Shared → Prop} {s : Shared}


theorem cat_tup {t b : Addr} {vs ws : List Value} {Q : Value → Shared → Prop} (ht : IsTup s.heap t vs.toArray) (hb : IsTup s.heap b ws.toArray) (hv : vs ≠ [])
    (h1 : ws = [] → Q (.ref t) s) (h2 : ws ≠ [] → Q (.ref s.heap.objs.size) { s with heap := s.heap.push { cls := .type "tuple", data := .seq (vs ++ ws).toArray } })
    (hsz : vs.length + ws.length ≤ sizeLine) : wpAny (model prog w) A (binaryOp .Add (.ref t) (.ref b)) Q E s := by
  obtain ⟨⟨cls, dd, data, sl⟩, ho, hc, n, hd⟩ := id ht
  obtain ⟨⟨cls2, dd2, data2, sl2⟩, ho2, hc2, n2, hd2⟩ := id hb
  simp only at hc hd hc2 hd2
  subst hc hd hc2 hd2
  have e : vs.toArray ++ ws.toArray = (vs ++ ws).toArray := by simp
  by_cases hw : ws = []
  · exact concat_meets ⟨_, ho, rfl⟩ ⟨_, ho2, rfl⟩ noFill_tuple_add seq_tuple_add PySem.F.slot_tuple_add PySem.F.entry_tuple_add (PySem.F.args_tuple_add_2 _ _)
      (tuple_addW1 t b vs.toArray ws.toArray n n2 dd dd2 sl sl2 (by simpa using hv) (by simp [hw])) ⟨ho, ho2, h1 hw⟩
  · refine concat_meets ⟨_, ho, rfl⟩ ⟨_, ho2, rfl⟩ noFill_tuple_add seq_tuple_add PySem.F.slot_tuple_add PySem.F.entry_tuple_add (PySem.F.args_tuple_add_2 _ _)
      (tuple_addW2 t b vs.toArray ws.toArray n n2 dd dd2 sl sl2 (by simpa using hv) (by simpa using hw) (by rw [List.size_toArray, List.size_toArray]; exact hsz)) ⟨ho, ho2, ?_⟩
    rw [e]
    exact h2 hw

def sIx (n d : Nat) : Option Int → Nat
  | none => d
  | some v => if v < 0 then (v + (n : Int)).toNat else min v.toNat n
theorem sIx_none (n d : Nat) : sIx n d none = d := rfl
theorem sIx_nat (n d k : Nat) : sIx n d (some (k : Int)) = min k n := by
  show (if (k : Int) < 0 then ((k : Int) + (n : Int)).toNat else min (k : Int).toNat n) = min k n
  rw [if_neg (by omega), Int.toNat_natCast]
theorem sIx_le (n d : Nat) (hd : d ≤ n) (o : Option Int) : sIx n d o ≤ n := by
  cases o with
  | none => exact hd
  | some v =>
    show (if v < 0 then (v + (n : Int)).toNat else min v.toNat n) ≤ n
    by_cases hv : v < 0
    · rw [if_pos hv]; omega
    · rw [if_neg hv]; exact Nat.min_le_right _ _
theorem clip_eq (v : Int) (n d : Nat) : (if v < 0 then max (v + (n : Int)) 0 else min v (n : Int)) = ((sIx n d (some v) : Nat) : Int) := by
  show (if v < 0 then max (v + (n : Int)) 0 else min v (n : Int)) = (((if v < 0 then (v + (n : Int)).toNat else min v.toNat n) : Nat) : Int)
  by_cases hv : v < 0
  · simp only [if_pos hv]; omega
  · simp only [if_neg hv]; omega
theorem adjust_gen (lo hi : Option Int) (n : Nat) : Builtin.Slice.sliceAdjust lo hi 1 (n : Int) = (((sIx n 0 lo : Nat) : Int), ((sIx n n hi : Nat) : Int)) := by
  have h1 : ¬ ((1 : Int) < 0) := by omega
  unfold Builtin.Slice.sliceAdjust
  simp only [h1, if_false]
  refine Prod.ext ?_ ?_
  · cases lo with
    | none => rfl
    | some v => exact clip_eq v n 0
  · cases hi with
    | none => rfl
    | some v => exact clip_eq v n n
theorem places_gen (i j : Nat) : Builtin.Slice.slicePlaces (i : Int) (j : Int) 1 = j - i := by
  unfold Builtin.Slice.slicePlaces
  have h1 : (1 : Int) > 0 := by omega
  simp only [h1, if_true, Int.ediv_one]
  split <;> omega
theorem slicePart_ {v : Value} {o : Option Int} {Q : Option Int → Shared → Prop} (p : IsPart v o) (h : Q o s) : wpAny (model prog w) A (Builtin.Slice.slicePartIndex v) Q E s := by
  cases p with
  | none => exact slicePart_none h
  | int i t => exact slicePart_int h
theorem sliceApplied_gen {sl : Addr} {vl vu : Value} {lo hi : Option Int} {n : Nat} {Q : Int × Int × Nat → Shared → Prop} (hs : s.heap.IsSliceOf sl vl vu .none) (pl : IsPart vl lo) (pu : IsPart vu hi)
    (h : Q (((sIx n 0 lo : Nat) : Int), 1, sIx n n hi - sIx n 0 lo) s) : wpAny (model prog w) A (Builtin.Slice.sliceApplied (.ref sl) (pure (n : Int))) Q E s := by
  obtain ⟨os, hos, hcs, hds⟩ := id hs
  unfold Builtin.Slice.sliceApplied Builtin.Slice.sliceFields
  refine wpAny_bind (wpAny_bind (wpAny_field hos hds (x := vl) rfl (wpAny_bind (wpAny_field hos hds (x := vu) rfl (wpAny_bind (wpAny_field hos hds (x := .none) rfl (wpAny_pure ?_)))))))
  refine wpAny_bind (slicePart_none ?_)
  show wpAny _ _ (if ((1 : Int) == 0) = true then _ else _) _ _ s
  rw [if_neg (by decide)]
  refine wpAny_bind (slicePart_ pl (wpAny_bind (slicePart_ pu (wpAny_bind (wpAny_pure ?_)))))
  show wpAny _ _ (match Builtin.Slice.sliceAdjust lo hi 1 (n : Int) with | (lo, hi) => pure (lo, (1 : Int), Builtin.Slice.slicePlaces lo hi 1)) _ _ s
  rw [adjust_gen lo hi n]
  show wpAny _ _ (pure (((sIx n 0 lo : Nat) : Int), (1 : Int), Builtin.Slice.slicePlaces ((sIx n 0 lo : Nat) : Int) ((sIx n n hi : Nat) : Int) 1)) _ _ s
  rw [places_gen]
  exact wpAny_pure h
theorem pick_gen (xs : Array Value) (i k : Nat) : ((List.range k).filterMap fun (m : Nat) => xs[((i : Int) + (m : Int) * 1).toNat]?).toArray = ((xs.toList.drop i).take k).toArray := by
  have e : (fun (m : Nat) => xs[((i : Int) + (m : Int) * 1).toNat]?) = fun m => xs[i + m]? := by
    funext m
    have : ((i : Int) + (m : Int) * 1).toNat = i + m := by omega
    rw [this]
  rw [e]
  have := pick_run xs i k
  rw [List.filterMap_map] at this
  have e2 : ((fun x => xs[x]?) ∘ fun x => i + x) = fun m => xs[i + m]? := rfl
  rw [e2] at this
  rw [this]

theorem getItem_tuple_cut {t sl : Addr} {items : Array Value} {vl vu : Value} {lo hi : Option Int} {Q : Value → Shared → Prop} (ht : IsTup s.heap t items) (hs : s.heap.IsSliceOf sl vl vu .none) (pl : IsPart vl lo) (pu : IsPart vu hi)
    (hw : ¬ (sIx items.size 0 lo = 0 ∧ sIx items.size items.size hi = items.size))
    (h : Q (.ref s.heap.objs.size) { s with heap := s.heap.push { cls := .type "tuple", data := .seq ((items.toList.drop (sIx items.size 0 lo)).take (sIx items.size items.size hi - sIx items.size 0 lo)).toArray } })
    (hsz : items.size ≤ sizeLine) : wpAny (model prog w) A (getItem (.ref t) (.ref sl)) Q E s := by
  have htake : sizeOk (.seq ((items.toList.drop (sIx items.size 0 lo)).take (sIx items.size items.size hi - sIx items.size 0 lo)).toArray) := by
    show ((items.toList.drop (sIx items.size 0 lo)).take (sIx items.size items.size hi - sIx items.size 0 lo)).toArray.size ≤ sizeLine
    rw [List.size_toArray, List.length_take, List.length_drop, Array.length_toList]
    omega
  have hj : sIx items.size items.size hi ≤ items.size := sIx_le _ _ (Nat.le_refl _) hi
  obtain ⟨os, hos, hcs, hds⟩ := id hs
  have hTs : s.TypeIs (.ref sl) "slice" := ⟨os, hos, hcs⟩
  unfold getItem
  try with_reducible refine wpAny_holding ?_
  first | refine wpAny_bind (wpAny_pure ?_) | skip
  refine wpAny_bind (wpAny_sequenceKey ht.typeIs (by decide) ?_)
  refine wpAny_bind (wpAny_callSpecial?_slot (name := Str.ofString "__getitem__") ht.typeIs PyProof.Rows.slot_tuple_getitem
    (wpAny_call_entry PyProof.Rows.slot_tuple_getitem ht.typeIs entry_tuple_getitem ?_ (args_tuple_getitem _ _)))
  show wpAny _ _ (Builtin.Tuple.tupleItemsOf (.ref t) >>= _) _ _ s
  refine wpAny_bind (tupleItemsOf_ ht ?_)
  refine wpAny_bind (wpAny_typeOf hTs ?_)
  rw [if_pos (by decide)]
  refine wpAny_bind (sliceApplied_gen hs pl pu ?_)
  have hno : ¬ ((((sIx items.size 0 lo : Nat) : Int) == 0 && (1 : Int) == 1 && (sIx items.size items.size hi - sIx items.size 0 lo) == items.size) = true) := by
    intro q
    rw [Bool.and_eq_true, Bool.and_eq_true] at q
    have q1 : ((sIx items.size 0 lo : Nat) : Int) = 0 := eq_of_beq q.1.1
    have q2 : sIx items.size items.size hi - sIx items.size 0 lo = items.size := eq_of_beq q.2
    exact hw ⟨by omega, by omega⟩
  show wpAny _ _ (if (((sIx items.size 0 lo : Nat) : Int) == 0 && (1 : Int) == 1 && (sIx items.size items.size hi - sIx items.size 0 lo) == items.size) = true then _ else _) _ _ s
  rw [if_neg hno, pick_gen]
  first
    | exact wpAny_bind (m := Builtin.Tuple.tupleExact _) (wpAny_newObj_type (wpAny_pure ⟨_, rfl, wpAny_pure h⟩) htake)
    | exact wpAny_bind (m := Builtin.Tuple.tupleExact _) (wpAny_newObj_type (wpAny_bind (wpAny_pure (wpAny_pure ⟨_, rfl, wpAny_pure h⟩))) htake)
    | exact wpAny_bind (wpAny_bind (m := Builtin.Tuple.tupleExact _) (wpAny_newObj_type (wpAny_pure (wpAny_pure ⟨_, rfl, wpAny_pure h⟩)) htake))
    | exact wpAny_bind (wpAny_bind (m := Builtin.Tuple.tupleExact _) (wpAny_newObj_type (wpAny_pure ⟨_, rfl, wpAny_pure h⟩) htake))
end
end HT

namespace L2
open PySem PySem.Spec PyProof.Rows

abbrev TO := St → Hp → (Option Int → Hp → Prop) → Prop
def PO (X : Cx) (e : Option Expr) (t : TO) : Prop :=
  ∀ (pins : List (Addr × Obj)) (s : Shared) (σ : St) (H : Hp) (Q : Option Int → Hp → Prop), Inv X pins σ H s → t σ H Q →
    wpAny (model X.prog X.w) X.A (evalPart e X.env) (fun u s' => ∃ o H', Inv X pins σ H' s' ∧ IsPart u o ∧ Q o H') X.xe s
def tNoPart : TO := fun _ H Q => Q none H
def tPart (t : TE) : TO := fun σ H Q => t σ H fun x H1 => ∃ i, x = .int i ∧ Q (some i) H1


section
variable {X : Cx} {e : Expr} {te : TE} {lo hi : Option Expr} {tl th : TO} {pos p2 : Pos}

theorem po_none : PO X none tNoPart := by
  intro pins s σ H Q I h
  rw [evalPart_none]
  exact wpAny_pure ⟨none, H, I, .none, h⟩
theorem po_some (h : PE X e te) : PO X (some e) (tPart te) := by
  intro pins s σ H Q I hw
  rw [evalPart_some]
  refine thn (h pins s σ H _ I hw) fun u s1 ⟨x, H1, I1, r1, q1⟩ => ?_
  obtain ⟨i, rfl, q⟩ := q1
  obtain ⟨t, rfl⟩ := r1
  exact ⟨some i, H1, I1, .int i t, q⟩

def SlR (X : Cx) (r : V → Option Int → Option Int → Hp → VK → Prop) : Prop :=
  ∀ (pins : List (Addr × Obj)) (s : Shared) (σ : St) (H : Hp) (x : V) (v vl vu : Value) (lo hi : Option Int) (sl : Addr) (Q : VK), Inv X pins σ H s → RelV x v → s.heap.IsSliceOf sl vl vu .none → IsPart vl lo → IsPart vu hi → r x lo hi H Q →
    ∃ T id, typeLookup (.type T) "__getitem__" = pure (some (.builtin id)) ∧ s.TypeIs v T ∧ wpAny (model X.prog X.w) X.A (getItem v (.ref sl)) (EP X pins σ Q) X.xe s
theorem SlR.or {r r' : V → Option Int → Option Int → Hp → VK → Prop} (h : SlR X r) (h' : SlR X r') : SlR X (fun x lo hi H Q => r x lo hi H Q ∨ r' x lo hi H Q) := by
  intro pins s σ H x v vl vu lo hi sl Q I rx hs pl pu q
  rcases q with q | q
  · exact h pins s σ H x v vl vu lo hi sl Q I rx hs pl pu q
  · exact h' pins s σ H x v vl vu lo hi sl Q I rx hs pl pu q
def tSl (r : V → Option Int → Option Int → Hp → VK → Prop) (te : TE) (tl th : TO) : TE := fun σ H Q => te σ H fun x H1 => tl σ H1 fun l H2 => th σ H2 fun u H3 => r x l u H3 Q
theorem pe_slice {r : V → Option Int → Option Int → Hp → VK → Prop} (hr : SlR X r) (he : PE X e te) (hl : PO X lo tl) (hu : PO X hi th) : PE X (.Subscript e (.Slice lo hi none p2) pos) (tSl r te tl th) := by
  intro pins s σ H Q I h
  refine Subscript_ (thn (he pins s σ H _ I h) fun v s1 ⟨x, H1, I1, r1, q1⟩ => ?_)
  refine wpAny_Slice (thn (hl pins s1 σ H1 _ I1 q1) fun vl s2 ⟨l, H2, I2, pl, q2⟩ => thn (hu pins s2 σ H2 _ I2 q2) fun vu s3 ⟨u, H3, I3, pu, q3⟩ => ?_)
  rw [evalPart_none]
  refine wpAny_pure ?_
  have I4 : Inv X pins σ H3 { s3 with heap := s3.heap.push { cls := .type "slice", data := .fields #[vl, vu, .none] } } := I3.kept (t' := s3.toks) fun b ob q => Heap.get?_push_of_some _ q
  obtain ⟨T, id, hT, ht, hg⟩ := hr pins { s3 with heap := s3.heap.push { cls := .type "slice", data := .fields #[vl, vu, .none] } } σ H3 x v vl vu l u s3.heap.objs.size Q I4 r1 (Heap.IsSliceOf.new ..) pl pu q3
  show wpAny (model X.prog X.w) X.A (subscriptTail e (.Slice lo hi none p2) v (.ref s3.heap.objs.size)) (EP X pins σ Q) X.xe { s3 with heap := s3.heap.push { cls := .type "slice", data := .fields #[vl, vu, .none] } }
  exact tail_any (ops := [.ref s3.heap.objs.size, v]) ht hT hg (by with_unfolding_all rfl)

def cutV (xs : List V) (lo hi : Option Int) : List V := (xs.drop (HT.sIx xs.length 0 lo)).take (HT.sIx xs.length xs.length hi - HT.sIx xs.length 0 lo)
theorem cutV_length (xs : List V) (lo hi : Option Int) : (cutV xs lo hi).length ≤ xs.length := by
  unfold cutV
  rw [List.length_take, List.length_drop]
  omega
def rSlT (K : PySem.W.Frag) : V → Option Int → Option Int → Hp → VK → Prop := fun x lo hi H Q => ∃ a xs, x = .ref a ∧ SqT K H a xs ∧
  ¬ (HT.sIx xs.length 0 lo = 0 ∧ HT.sIx xs.length xs.length hi = xs.length) ∧ ∀ p, H p = none → Q (.ref p) (upd H p (.tup (cutV xs lo hi)))
theorem sl_tup : SlR X (rSlT X.K) := by
  intro pins s σ H x v vl vu lo hi sl Q I rx hs pl pu h
  obtain ⟨a, xs, rfl, hx, hw, q⟩ := h
  cases rx
  obtain ⟨its, r, ht, hz⟩ := I.tuple hx
  have hlen : its.toArray.size = xs.length := by rw [List.size_toArray]; exact r.length.symm
  refine ⟨"tuple", _, PyProof.Rows.slot_tuple_getitem.lookup, ht.typeIs, ?_⟩
  refine HT.getItem_tuple_cut ht hs pl pu (by rw [hlen]; exact hw) ?_ (by rw [hlen]; exact hz)
  rw [hlen]
  refine ⟨.ref s.heap.objs.size, _, I.laid (t' := s.toks) (o := .tup (cutV xs lo hi)) (fun b ob q => Heap.get?_push_of_some _ q) (Nat.le_refl _) ?_, rfl, q _ (I.hok.fresh (Nat.le_refl _))⟩
  exact ⟨Nat.le_trans (cutV_length xs lo hi) hz, _, (r.drop (HT.sIx xs.length 0 lo)).take (HT.sIx xs.length xs.length hi - HT.sIx xs.length 0 lo), IsTup.new _ _⟩

def rCatT (K : PySem.W.Frag) : R2 := fun x y H Q => ∃ a b xs ys, x = .ref a ∧ y = .ref b ∧ SqT K H a xs ∧ SqT K H b ys ∧ xs ≠ [] ∧ xs.length + ys.length ≤ sizeLine ∧
  (ys = [] → Q (.ref a) H) ∧ (ys ≠ [] → ∀ p, H p = none → Q (.ref p) (upd H p (.tup (xs ++ ys))))
theorem Vals.nil_iff {xs : List V} {us : List Value} (r : Vals xs us) : us = [] ↔ xs = [] := by
  cases r with
  | nil => simp
  | cons _ _ => simp
theorem op_catT : OpR X (binaryOp .Add) (rCatT X.K) := by
  intro pins s σ H x y v u Q I rx ry h
  obtain ⟨a, b, xs, ys, rfl, rfl, ha, hb, hx, hz, q1, q2⟩ := h
  cases rx
  cases ry
  obtain ⟨its, r1, p1, _⟩ := I.tuple ha
  obtain ⟨its2, r2, p2, _⟩ := I.tuple hb
  refine HT.cat_tup p1 p2 (fun z => hx (r1.nil_iff.mp z)) (fun z => ⟨.ref a, H, I, rfl, q1 (r2.nil_iff.mp z)⟩) (fun z => ?_) (by rw [← r1.length, ← r2.length]; exact hz)
  refine ⟨.ref s.heap.objs.size, _, I.laid (t' := s.toks) (o := .tup (xs ++ ys)) (fun b ob q => Heap.get?_push_of_some _ q) (Nat.le_refl _) ?_, rfl, q2 (fun w => z (r2.nil_iff.mpr w)) _ (I.hok.fresh (Nat.le_refl _))⟩
  exact ⟨by rw [List.length_append]; exact hz, _, r1.append r2, IsTup.new _ _⟩
end
end L2

namespace L2
open PySem PySem.Spec PyProof.Rows

def ixN (n : Nat) (i : Int) : Option Nat := if 0 ≤ i then (if i < n then some i.toNat else none) else if -(n : Int) ≤ i then some (i + n).toNat else none
def atI {α : Type} (xs : List α) (i : Int) : Option α := (ixN xs.length i).bind fun j => xs[j]?
theorem ixN_seq {n : Nat} {i : Int} {j : Nat} (h : ixN n i = some j) : seqIndex? i n = some j ∧ j < n ∧ -(n : Int) ≤ i ∧ i < n := by
  unfold ixN at h
  by_cases h0 : 0 ≤ i
  · rw [if_pos h0] at h
    by_cases h1 : i < n
    · rw [if_pos h1] at h
      have e : i.toNat = j := Option.some.inj h
      exact ⟨by rw [seqIndex_of h0 h1, e], by omega, by omega, h1⟩
    · rw [if_neg h1] at h; cases h
  · rw [if_neg h0] at h
    by_cases h1 : -(n : Int) ≤ i
    · rw [if_pos h1] at h
      have e : (i + n).toNat = j := Option.some.inj h
      exact ⟨by rw [seqIndex_neg (by omega) h1, e], by omega, h1, by omega⟩
    · rw [if_neg h1] at h; cases h
theorem atI_get {α : Type} {xs : List α} {i : Int} {v : α} (h : atI xs i = some v) : ∃ j, seqIndex? i xs.length = some j ∧ xs[j]? = some v ∧ j < xs.length ∧ -(xs.length : Int) ≤ i ∧ i < xs.length := by
  unfold atI at h
  cases e : ixN xs.length i with
  | none => rw [e] at h; cases h
  | some j =>
    rw [e] at h
    obtain ⟨h1, h2, h3, h4⟩ := ixN_seq e
    exact ⟨j, h1, h, h2, h3, h4⟩
theorem atI_nat {α : Type} {xs : List α} {j : Nat} {v : α} (h : xs[j]? = some v) : atI xs (j : Int) = some v := by
  have hj : j < xs.length := (List.getElem?_eq_some_iff.mp h).1
  have e : ixN xs.length (j : Int) = some j := by
    unfold ixN
    rw [if_pos (by omega), if_pos (by omega)]; simp
  unfold atI; rw [e]; exact h

def PlainIx (b : Expr) : Prop := ∀ o i, subscripted b false o i = operate [o, i] (getItem o i)
def IxR (X : Cx) (r : R2) : Prop :=
  ∀ (value slice : Expr) (pins : List (Addr × Obj)) (s : Shared) (σ : St) (H : Hp) (x y : V) (v u : Value) (Q : VK), Inv X pins σ H s → RelV x v → RelV y u → r x y H Q →
    subscripted slice false v u = operate [v, u] (getItem v u) → wpAny (model X.prog X.w) X.A (subscriptTail value slice v u) (EP X pins σ Q) X.xe s
def MtR (X : Cx) (id : String) (r : V → List V → Hp → VK → Prop) : Prop :=
  ∀ (pins : List (Addr × Obj)) (s : Shared) (σ : St) (H : Hp) (x : V) (xs : List V) (v : Value) (us : List Value) (Q : VK), Inv X pins σ H s → RelV x v → Vals xs us → r x xs H Q →
    wpAny (model X.prog X.w) X.A (call (.builtin id) (v :: us)) (EP X pins σ Q) X.xe s
section
variable {X : Cx} {a b : Expr} {ta tb : TE} {pos : Pos}
theorem IxR.or {r r' : R2} (h : IxR X r) (h' : IxR X r') : IxR X (fun x y H Q => r x y H Q ∨ r' x y H Q) := by
  intro value slice pins s σ H x y v u Q I rx ry q hs
  rcases q with q | q
  · exact h value slice pins s σ H x y v u Q I rx ry q hs
  · exact h' value slice pins s σ H x y v u Q I rx ry q hs
theorem MtR.or {id : String} {r r' : V → List V → Hp → VK → Prop} (h : MtR X id r) (h' : MtR X id r') : MtR X id (fun x xs H Q => r x xs H Q ∨ r' x xs H Q) := by
  intro pins s σ H x xs v us Q I rx rs q
  rcases q with q | q
  · exact h pins s σ H x xs v us Q I rx rs q
  · exact h' pins s σ H x xs v us Q I rx rs q
theorem pe_ix {r : R2} (hr : IxR X r) (ha : PE X a ta) (hb : PE X b tb) (hs : PlainIx b) : PE X (.Subscript a b pos) (tOp r ta tb) := by
  intro pins s σ H Q I h
  exact Subscript_ (binT ha hb I h fun v u s2 x y H2 I2 rx ry q => hr a b pins s2 σ H2 x y v u Q I2 rx ry q (hs _ _))

def rIxL (K : PySem.W.Frag) : R2 := fun x y H Q => ∃ p xs i v, x = .ref p ∧ y = .int i ∧ SqL K H p xs ∧ atI xs i = some v ∧ Q v H
def rIxT (K : PySem.W.Frag) : R2 := fun x y H Q => ∃ p xs i v, x = .ref p ∧ y = .int i ∧ SqT K H p xs ∧ atI xs i = some v ∧ Q v H
def rIxS : R2 := fun x y H Q => ∃ z i c, x = .str z ∧ y = .int i ∧ z.length ≤ sizeLine ∧ atI z.cps.toList i = some c ∧ Q (.str ⟨#[c]⟩) H
theorem ix_list : IxR X (rIxL X.K) := by
  intro value slice pins s σ H x y v u Q I rx ry h hs
  obtain ⟨p, xs, i, z, rfl, rfl, hq, he, q⟩ := h
  cases rx
  obtain ⟨t, rfl⟩ := ry
  obtain ⟨its, r, pl, hz⟩ := I.list hq
  obtain ⟨j, h1, h2, h3, h4, h5⟩ := atI_get he
  obtain ⟨w, ew, rw'⟩ := r.get h2
  have hl := r.length
  have hn := line63
  have fin : EP X pins σ Q w s := ⟨z, H, I, rw', q⟩
  by_cases h0 : 0 ≤ i
  · have hj : i.toNat = j := by
      rw [seqIndex_of h0 h5] at h1
      exact Option.some.inj h1
    exact item_listR pl.isList h0 (by omega) (by rw [hj]; simpa using ew) fin hs
  · have hj : (i + (its.toArray.size : Int)).toNat = j := by
      rw [seqIndex_neg (by omega) h4] at h1
      rw [List.size_toArray, ← hl]
      exact Option.some.inj h1
    exact subscriptTail_builtinR (x := w) pl.isList.typeIs slot_list_getitem.lookup
      (wpAny_getItem_list_neg (Q := fun r s' => r = w ∧ EP X pins σ Q r s') pl.isList (by omega) (by rw [List.size_toArray] <;> omega) (by omega) (by rw [hj]; simpa using ew) ⟨rfl, fin⟩) hs
theorem ix_tup : IxR X (rIxT X.K) := by
  intro value slice pins s σ H x y v u Q I rx ry h hs
  obtain ⟨p, xs, i, z, rfl, rfl, hq, he, q⟩ := h
  cases rx
  obtain ⟨t, rfl⟩ := ry
  obtain ⟨its, r, pl, hz⟩ := I.tuple hq
  obtain ⟨j, h1, h2, h3, h4, h5⟩ := atI_get he
  obtain ⟨w, ew, rw'⟩ := r.get h2
  have hl := r.length
  have hn := line63
  have fin : EP X pins σ Q w s := ⟨z, H, I, rw', q⟩
  exact subscriptTail_builtinR (x := w) pl.typeIs slot_tuple_getitem.lookup
    (getItem_tuple (j := j) (Q := fun r s' => r = w ∧ EP X pins σ Q r s') pl (by omega) (by omega) (by rw [List.size_toArray, ← hl]; exact h1) (by simpa using ew) ⟨rfl, fin⟩) hs
theorem ix_str : IxR X rIxS := by
  intro value slice pins s σ H x y v u Q I rx ry h hs
  obtain ⟨z, i, c, rfl, rfl, hz, he, q⟩ := h
  obtain ⟨t, rfl⟩ := rx
  obtain ⟨t', rfl⟩ := ry
  obtain ⟨j, h1, h2, h3, h4, h5⟩ := atI_get he
  have hl : z.cps.toList.length = z.length := by simp [Str.length]
  rw [hl] at h1 h4 h5
  have hn := line63
  exact tail_any (typeIs_str s z t) slot_str_getitem.lookup (getItem_str (c := c) (by
    have e1 : decide (i < -(2 ^ 63 : Int)) = false := decide_eq_false (by omega)
    have e2 : decide (i ≥ 2 ^ 63) = false := decide_eq_false (by omega)
    rw [e1, e2, Bool.or_false]) (by rw [h1]; simpa using h2) ⟨.str ⟨#[c]⟩, H, I.tok _, ⟨_, rfl⟩, q⟩) hs

theorem mapSeq_set (its : List Value) (n j : Nat) (u : Value) : Obj.mapSeq (·.setIfInBounds j u) { cls := .type "list", data := .seq its.toArray n } = { cls := .type "list", data := .seq (its.set j u).toArray n } := by
  simp [Obj.mapSeq]
theorem Inv.lst {pins : List (Addr × Obj)} {σ : St} {H : Hp} {s : Shared} {p : Addr} {xs : List V} (I : Inv X pins σ H s) (h : H p = some (.lst xs)) :
    ∃ (its : List Value) (n : Nat), Vals xs its ∧ s.heap.get? p = some { cls := .type "list", data := .seq its.toArray n } ∧ xs.length ≤ sizeLine := by
  obtain ⟨z, its, n, r, e⟩ := I.hok p _ h
  exact ⟨its, n, r, e, z⟩
theorem Inv.lstUpd {pins : List (Addr × Obj)} {σ : St} {H : Hp} {s : Shared} {p : Addr} {xs ys : List V} {its its' : List Value} {n n' : Nat} {f : Obj → Obj} (I : Inv X pins σ H s) (h : H p = some (.lst xs))
    (ho : s.heap.get? p = some { cls := .type "list", data := .seq its.toArray n }) (hf : f { cls := .type "list", data := .seq its.toArray n } = { cls := .type "list", data := .seq its'.toArray n' }) (r : Vals ys its') (hz : ys.length ≤ sizeLine) (t : Nat) :
    Inv X pins σ (upd H p (.lst ys)) { s with heap := s.heap.update p f, toks := t } := by
  have e : (s.heap.update p f).get? p = some { cls := .type "list", data := .seq its'.toArray n' } := by
    rw [Heap.get?_update_self f ho (by rw [hf] <;> rfl), hf]
  refine I.write (x := p) (e := p) (by rw [h]; trivial) (.inl rfl) (fun b u hb q => (Heap.get?_update_other _ _ (Ne.symm hb)).trans q) ⟨_, e⟩ ?_
  exact ⟨hz, its', n', r, e⟩
def rSetL : V → V → V → Hp → (Hp → Prop) → Prop := fun o i v H Q => ∃ p xs k j, o = .ref p ∧ i = .int k ∧ H p = some (.lst xs) ∧ ixN xs.length k = some j ∧ Q (upd H p (.lst (xs.set j v)))
theorem set_list : PSet X rSetL := by
  intro pins s σ H o i v ov iv u Q I ro ri rv h
  obtain ⟨p, xs, k, j, rfl, rfl, hp, hj, q⟩ := h
  cases ro
  obtain ⟨t, rfl⟩ := ri
  obtain ⟨its, n, r, ho, hz⟩ := I.lst hp
  obtain ⟨h1, h2, h3, h4⟩ := ixN_seq hj
  have hl := r.length
  have hn := line63
  have I' : Inv X pins σ (upd H p (.lst (xs.set j v))) { s with heap := s.heap.update p (Obj.mapSeq (·.setIfInBounds j u)) } :=
    I.lstUpd hp ho (mapSeq_set its n j u) (r.set rv j) (by rw [List.length_set]; exact hz) s.toks
  by_cases h0 : 0 ≤ k
  · have hk : k.toNat = j := by
      rw [seqIndex_of h0 h4] at h1
      exact Option.some.inj h1
    exact PySem.W.ki_setAt ho h0 (by omega) (by rw [List.size_toArray, ← hl]; exact h4) (by rw [hk]; exact ⟨_, I', q⟩)
  · have hk : (k + (its.toArray.size : Int)).toNat = j := by
      rw [seqIndex_neg (by omega) h3] at h1
      rw [List.size_toArray, ← hl]
      exact Option.some.inj h1
    exact PySem.W.ki_setBack ho (by omega) (by rw [List.size_toArray, ← hl]; exact h3) (by omega) (by rw [hk]; exact ⟨_, I', q⟩)

theorem slice_bounds (lo hi : Option Int) (n : Nat) : (sliceBounds lo hi none n).1 = ((HT.sIx n 0 lo : Nat) : Int) ∧ (sliceBounds lo hi none n).2.1 = ((HT.sIx n n hi : Nat) : Int) ∧ (sliceBounds lo hi none n).2.2 = 1 := by
  refine ⟨?_, ?_, rfl⟩
  · cases lo with
    | none => simp [sliceBounds, HT.sIx]
    | some i =>
      simp only [sliceBounds, HT.sIx, Option.getD_none, show (1 : Int) > 0 by decide, if_true]
      by_cases h : i < 0
      · simp only [h, if_true] <;> omega
      · simp only [h, if_false] <;> omega
  · cases hi with
    | none => simp [sliceBounds, HT.sIx]
    | some i =>
      simp only [sliceBounds, HT.sIx, Option.getD_none, show (1 : Int) > 0 by decide, if_true]
      by_cases h : i < 0
      · simp only [h, if_true] <;> omega
      · simp only [h, if_false] <;> omega
theorem slicePick_cut (its : List Value) (lo hi : Option Int) : slicePick its.toArray lo hi none = ((its.drop (HT.sIx its.length 0 lo)).take (HT.sIx its.length its.length hi - HT.sIx its.length 0 lo)).toArray := by
  obtain ⟨h1, h2, h3⟩ := slice_bounds lo hi its.toArray.size
  unfold slicePick
  rw [h1, h2, h3]
  simp only [sliceRange_one, pick_run, List.size_toArray] <;> rfl
def rSlL (K : PySem.W.Frag) : V → Option Int → Option Int → Hp → VK → Prop := fun x lo hi H Q => ∃ a xs, x = .ref a ∧ SqL K H a xs ∧ ∀ p, H p = none → Q (.ref p) (upd H p (.lst (cutV xs lo hi)))
theorem sl_list : SlR X (rSlL X.K) := by
  intro pins s σ H x v vl vu lo hi sl Q I rx hs pl pu h
  obtain ⟨a, xs, rfl, hx, q⟩ := h
  cases rx
  obtain ⟨its, r, ht, hz⟩ := I.list hx
  have hlen := r.length
  refine ⟨"list", _, slot_list_getitem.lookup, ht.isList.typeIs, ?_⟩
  refine wpAny_getItem_list_slice ht.isList hs pl pu .none (by simp) ?_ (by rw [List.size_toArray] <;> omega)
  rw [slicePick_cut, ← hlen]
  refine ⟨.ref s.heap.objs.size, _, I.laid (t' := s.toks) (o := .lst (cutV xs lo hi)) (fun b ob q => Heap.get?_push_of_some _ q) (Nat.le_refl _) ?_, rfl, q _ (I.hok.fresh (Nat.le_refl _))⟩
  exact ⟨Nat.le_trans (cutV_length xs lo hi) hz, _, 0, (r.drop (HT.sIx xs.length 0 lo)).take (HT.sIx xs.length xs.length hi - HT.sIx xs.length 0 lo), Heap.get?_push_size _ rfl⟩

def flatV : V → Bool
  | .non => true
  | .bl _ => true
  | .int _ => true
  | .str _ => true
  | _ => false
def eqV : V → V → Bool
  | .non, .non => true
  | .bl a, .bl b => a == b
  | .bl a, .int b => (if a then 1 else 0) == b
  | .int a, .bl b => a == (if b then 1 else 0)
  | .int a, .int b => a == b
  | .str a, .str b => a == b
  | _, _ => false
theorem eqAt_V {A : Around} {s : Shared} {y x : V} {u v : Value} (ry : RelV y u) (rx : RelV x v) (fy : flatV y = true) (fx : flatV x = true) : SeqAt.EqAt A s u v (eqV y x) := by
  cases y with
  | non =>
    cases ry
    cases x with
    | non => cases rx; exact SeqAt.EqAt.same _
    | bl b => cases rx; exact SeqAt.EqAt.none_bool b
    | int b => obtain ⟨t, rfl⟩ := rx; exact SeqAt.EqAt.none_int b t
    | str b => obtain ⟨t, rfl⟩ := rx; exact SeqAt.EqAt.none_str b t
    | _ => exact absurd (show false = true from fx) Bool.false_ne_true
  | bl a =>
    cases ry
    cases x with
    | non => cases rx; exact SeqAt.EqAt.bool_none a
    | bl b => cases rx; exact SeqAt.EqAt.bool_bool a b
    | int b => obtain ⟨t, rfl⟩ := rx; exact SeqAt.EqAt.bool_int a b t
    | str b => obtain ⟨t, rfl⟩ := rx; exact SeqAt.EqAt.bool_str a b t
    | _ => exact absurd (show false = true from fx) Bool.false_ne_true
  | int a =>
    obtain ⟨t', rfl⟩ := ry
    cases x with
    | non => cases rx; exact SeqAt.EqAt.int_none a t'
    | bl b => cases rx; exact SeqAt.EqAt.int_bool a t' b
    | int b => obtain ⟨t, rfl⟩ := rx; exact SeqAt.EqAt.int_int a t' b t
    | str b => obtain ⟨t, rfl⟩ := rx; exact SeqAt.EqAt.int_str a t' b t
    | _ => exact absurd (show false = true from fx) Bool.false_ne_true
  | str a =>
    obtain ⟨t', rfl⟩ := ry
    cases x with
    | non => cases rx; exact SeqAt.EqAt.str_none a t'
    | bl b => cases rx; exact SeqAt.EqAt.str_bool a t' b
    | int b => obtain ⟨t, rfl⟩ := rx; exact SeqAt.EqAt.str_int a t' b t
    | str b => obtain ⟨t, rfl⟩ := rx; exact SeqAt.EqAt.str_str a t' b t
    | _ => exact absurd (show false = true from fx) Bool.false_ne_true
  | _ => exact absurd (show false = true from fy) Bool.false_ne_true
def eqU (x : V) (u : Value) : Bool := match u with
  | .none => eqV .non x
  | .bool b => eqV (.bl b) x
  | .int i _ => eqV (.int i) x
  | .str z _ => eqV (.str z) x
  | _ => false
theorem eqU_of {x y : V} {u : Value} (r : RelV y u) (f : flatV y = true) : eqU x u = eqV y x := by
  cases y with
  | non => cases r; rfl
  | bl b => cases r; rfl
  | int i => obtain ⟨t, rfl⟩ := r; rfl
  | str z => obtain ⟨t, rfl⟩ := r; rfl
  | _ => exact absurd (show false = true from f) Bool.false_ne_true
theorem any_eqU {x : V} : ∀ {xs : List V} {us : List Value}, Vals xs us → xs.all flatV = true → us.any (eqU x) = xs.any fun y => eqV y x
  | _, _, .nil, _ => rfl
  | y :: xs, u :: us, .cons r t, f => by
    rw [List.all_cons, Bool.and_eq_true] at f
    rw [List.any_cons, List.any_cons, eqU_of r f.1, any_eqU t f.2]
theorem mem_eqAt {A : Around} {s : Shared} {x : V} {v : Value} (rx : RelV x v) (fx : flatV x = true) : ∀ {xs : List V} {us : List Value}, Vals xs us → xs.all flatV = true → ∀ u ∈ us, SeqAt.EqAt A s u v (eqU x u)
  | _, _, .nil, _ => fun u hu => by cases hu
  | y :: xs, u :: us, .cons r t, f => fun u' hu => by
    rw [List.all_cons, Bool.and_eq_true] at f
    rcases List.mem_cons.mp hu with rfl | hu
    · rw [eqU_of r f.1]; exact eqAt_V r rx f.1 fx
    · exact mem_eqAt rx fx t f.2 u' hu
def inV (x : V) (xs : List V) : Bool := xs.any fun y => eqV y x
def rIn (K : PySem.W.Frag) (neg : Bool) : R2 := fun x y H Q => ∃ p xs, y = .ref p ∧ (SqL K H p xs ∨ SqT K H p xs) ∧ flatV x = true ∧ xs.all flatV = true ∧ Q (.bl (if neg then !inV x xs else inV x xs)) H
theorem op_in_seq : OpR X (compareOp .In) (rIn X.K false) := by
  intro pins s σ H x y v u Q I rx ry h
  obtain ⟨p, xs, rfl, hq, fx, fs, q⟩ := h
  cases ry
  rcases hq with hq | hq
  · obtain ⟨its, r, pl, hz⟩ := I.list hq
    refine SeqAt.in_listAt (eqU x) pl.isList (fun w hw => mem_eqAt rx fx r fs w (by simpa using hw)) ⟨.bl _, H, I, rfl, ?_⟩
    rw [show its.toArray.any (eqU x) = its.any (eqU x) by simp, any_eqU r fs]
    exact q
  · obtain ⟨its, r, pl, hz⟩ := I.tuple hq
    refine SeqAt.in_tupleAt (eqU x) pl (fun w hw => mem_eqAt rx fx r fs w (by simpa using hw)) ⟨.bl _, H, I, rfl, ?_⟩
    rw [show its.toArray.any (eqU x) = its.any (eqU x) by simp, any_eqU r fs]
    exact q
theorem op_notIn_seq : OpR X (compareOp .NotIn) (rIn X.K true) := by
  intro pins s σ H x y v u Q I rx ry h
  obtain ⟨p, xs, rfl, hq, fx, fs, q⟩ := h
  cases ry
  rcases hq with hq | hq
  · obtain ⟨its, r, pl, hz⟩ := I.list hq
    refine SeqAt.notIn_listAt (eqU x) pl.isList (fun w hw => mem_eqAt rx fx r fs w (by simpa using hw)) ⟨.bl _, H, I, rfl, ?_⟩
    rw [show its.toArray.any (eqU x) = its.any (eqU x) by simp, any_eqU r fs]
    exact q
  · obtain ⟨its, r, pl, hz⟩ := I.tuple hq
    refine SeqAt.notIn_tupleAt (eqU x) pl (fun w hw => mem_eqAt rx fx r fs w (by simpa using hw)) ⟨.bl _, H, I, rfl, ?_⟩
    rw [show its.toArray.any (eqU x) = its.any (eqU x) by simp, any_eqU r fs]
    exact q

theorem call_len_seq : CallR X (.builtin "len") (fun xs H Q => ∃ p ys, xs = [.ref p] ∧ (SqL X.K H p ys ∨ SqT X.K H p ys) ∧ Q (.int ys.length) H) := by
  intro pins s σ H xs us Q I r h
  obtain ⟨p, ys, rfl, hq, q⟩ := h
  obtain ⟨u, rfl, rx⟩ := vals1 r
  cases rx
  have hn := line63
  rcases hq with hq | hq
  · obtain ⟨its, r', pl, hz⟩ := I.list hq
    have hlen := r'.length
    exact Calls.call_len_list pl.isList (by simp only [List.size_toArray] <;> omega) ⟨.int ys.length, H, I.tok _, ⟨s.toks + 1, by rw [List.size_toArray, hlen]⟩, q⟩
  · obtain ⟨its, r', pl, hz⟩ := I.tuple hq
    have hlen := r'.length
    exact len_tuple pl (by simp only [List.size_toArray] <;> omega) ⟨.int ys.length, H, I.tok _, ⟨s.toks + 1, by rw [List.size_toArray, hlen]⟩, q⟩
theorem CallR.or {f : Value} {r r' : List V → Hp → VK → Prop} (h : CallR X f r) (h' : CallR X f r') : CallR X f (fun xs H Q => r xs H Q ∨ r' xs H Q) := by
  intro pins s σ H xs us Q I rs q
  rcases q with q | q
  · exact h pins s σ H xs us Q I rs q
  · exact h' pins s σ H xs us Q I rs q
theorem call_list_of : CallR X (.type "list") (fun xs H Q => ∃ p ys, xs = [.ref p] ∧ (SqL X.K H p ys ∨ SqT X.K H p ys) ∧ ∀ l, H l = none → Q (.ref l) (upd H l (.lst ys))) := by
  intro pins s σ H xs us Q I r h
  obtain ⟨p, ys, rfl, hq, q⟩ := h
  obtain ⟨u, rfl, rx⟩ := vals1 r
  cases rx
  have fin : ∀ (its : List Value), Vals ys its → ys.length ≤ sizeLine → ∀ (h' : Heap) (c' : Nat), (∀ b o', s.heap.get? b = some o' → h'.get? b = some o') →
      h'.get? s.heap.objs.size = some { cls := .type "list", dict := none, data := .seq its.toArray c', slots := #[] } → EP X pins σ Q (.ref s.heap.objs.size) { s with heap := h' } := fun its r' hz h' c' kp e =>
    ⟨.ref s.heap.objs.size, _, I.laid (t' := s.toks) kp (Nat.le_refl _) (show ObjOk X.prog X.w _ h' _ (.lst ys) from ⟨hz, its, c', r', e⟩), rfl, q _ (I.hok.fresh (Nat.le_refl _))⟩
  rcases hq with hq | hq
  · obtain ⟨its, r', pl, hz⟩ := I.list hq
    have hlen := r'.length
    obtain ⟨o, ho, hc, n, hd⟩ := pl.isList
    exact call_list_seq p (.inl rfl) ho hc hd (fun h' c' kp e => fin its r' hz h' c' kp e) (by simp only [List.size_toArray] <;> omega)
  · obtain ⟨its, r', pl, hz⟩ := I.tuple hq
    have hlen := r'.length
    obtain ⟨o, ho, hc, n, hd⟩ := pl
    exact call_list_seq p (.inr rfl) ho hc hd (fun h' c' kp e => fin its r' hz h' c' kp e) (by simp only [List.size_toArray] <;> omega)
theorem call_tuple_of : CallR X (.type "tuple") (fun xs H Q => ∃ p ys, xs = [.ref p] ∧ ((SqL X.K H p ys ∧ ∀ l, H l = none → Q (.ref l) (upd H l (.tup ys))) ∨ (SqT X.K H p ys ∧ Q (.ref p) H))) := by
  intro pins s σ H xs us Q I r h
  obtain ⟨p, ys, rfl, h⟩ := h
  obtain ⟨u, rfl, rx⟩ := vals1 r
  cases rx
  rcases h with ⟨hq, q⟩ | ⟨hq, q⟩
  · obtain ⟨its, r', pl, hz⟩ := I.list hq
    have hlen := r'.length
    refine call_tuple_list pl.isList (fun h' kp => ?_) (by simp only [List.size_toArray] <;> omega)
    have I1 : Inv X pins σ H { s with heap := h' } := I.kept (t' := s.toks) kp
    have I2 : Inv X pins σ (upd H h'.objs.size (.tup ys)) { s with heap := h'.push { cls := .type "tuple", data := .seq its.toArray } } :=
      I1.laid (t' := s.toks) (fun b o e => Heap.get?_push_of_some _ e) (Nat.le_refl _) (show ObjOk X.prog X.w _ _ _ (.tup ys) from ⟨hz, its, r', IsTup.new _ _⟩)
    exact ⟨.ref h'.objs.size, _, I2, rfl, q _ (I1.hok.fresh (Nat.le_refl _))⟩
  · obtain ⟨its, r', pl, hz⟩ := I.tuple hq
    exact call_tuple_same pl ⟨.ref p, H, I, rfl, q⟩

def tyV (K : PySem.W.Frag) (T : String) (x : V) (H : Hp) : Prop := match x with
  | .str _ => T = "str"
  | .int _ => T = "int"
  | .ref p => (T = "list" ∧ ∃ xs, SqL K H p xs) ∨ (T = "tuple" ∧ ∃ o, K.lookup p = some o ∧ o.cls = .type "tuple" ∧ o.dict = none) ∨
      (T = "dict" ∧ ((∃ kvs, H p = some (.dK kvs)) ∨ ∃ kvs, H p = some (.dT kvs))) ∨ (T = "set" ∧ ∃ S n, H p = some (.set S n))
  | _ => False
theorem tyV_is {pins : List (Addr × Obj)} {σ : St} {H : Hp} {s : Shared} {T : String} {x : V} {v : Value} (I : Inv X pins σ H s) (r : RelV x v) (ty : tyV X.K T x H) :
    s.TypeIs v T ∧ ∀ a, v = .ref a → ∃ ob, s.heap.get? a = some ob ∧ ob.dict = none := by
  cases x with
  | str z =>
    obtain ⟨t, rfl⟩ := r
    cases (show T = "str" from ty)
    exact ⟨typeIs_str s z t, fun _ e => nomatch e⟩
  | int i =>
    obtain ⟨t, rfl⟩ := r
    cases (show T = "int" from ty)
    exact ⟨typeIs_int s i t, fun _ e => nomatch e⟩
  | ref p =>
    cases r
    rcases ty with ⟨rfl, xs, hq⟩ | ⟨rfl, o, hk, hc, hd⟩ | ⟨rfl, hk⟩ | ⟨rfl, S, n, hk⟩
    · obtain ⟨its, _, pl, _⟩ := I.list hq
      refine ⟨pl.isList.typeIs, fun a e => ?_⟩
      cases e
      obtain ⟨o, n, e, c, hd, _⟩ := pl
      exact ⟨o, e, hd⟩
    · refine ⟨⟨o, I.kIn p o hk, hc⟩, fun a e => ?_⟩
      cases e
      exact ⟨o, I.kIn _ o hk, hd⟩
    · have z : ∃ o, s.heap.get? p = some o ∧ o.ExactDict := by
        rcases hk with ⟨kvs, hk⟩ | ⟨kvs, hk⟩
        · obtain ⟨_, _, _, _, o, _, _, e, ex, _⟩ := I.hok p _ hk
          exact ⟨o, e, ex⟩
        · obtain ⟨_, _, _, _, o, _, _, e, ex, _⟩ := I.hok p _ hk
          exact ⟨o, e, ex⟩
      obtain ⟨o, e, ex⟩ := z
      refine ⟨⟨o, e, ex.1⟩, fun a e2 => ?_⟩
      cases e2
      exact ⟨o, e, ex.2.1⟩
    · obtain ⟨o, _, _, _, e, ex, _⟩ := I.hok p _ hk
      refine ⟨⟨o, e, ex.1⟩, fun a e2 => ?_⟩
      cases e2
      exact ⟨o, e, ex.2.1⟩
  | _ => exact False.elim ty
def tBM0 (K : PySem.W.Frag) (T : String) (r : V → List V → Hp → VK → Prop) (to : TE) : TE := fun σ H Q => to σ H fun x H1 => tyV K T x H1 ∧ r x [] H1 Q
def tBM (K : PySem.W.Frag) (T : String) (r : V → List V → Hp → VK → Prop) (to : TE) (t : TA) : TE := fun σ H Q => to σ H fun x H1 => tyV K T x H1 ∧ t σ H1 fun xs H2 => r x xs H2 Q
variable {o e : Expr} {es : List Expr} {to : TE} {t : TA} {name : Str} {apos cpos : Pos} {T id : String} {r : V → List V → Hp → VK → Prop}
theorem pe_bm0 (pa : PlainAttrs T) (slot : Slot T name id) (hty : typeOf (.builtin id) = pure (.type "method_descriptor")) (hm : MtR X id r) (ho : PE X o to)
    (hbase : attributeBase o name X.env (eval o X.env) = eval o X.env := by rfl) (hline : (apos.endLine == cpos.line) = true := by rfl) : PE X (.Call (.Attribute o name apos) [] [] cpos) (tBM0 X.K T r to) := by
  intro pins s σ H Q I h
  refine wpAny_Call_method0_late hbase hline (thn (ho pins s σ H _ I h) fun v s1 ⟨x, H1, I1, r1, ty, q1⟩ => ?_)
  obtain ⟨h1, h2⟩ := tyV_is I1 r1 ty
  exact ⟨T, id, pa, slot, hty, h1, h2, Calls.callWith_builtin rfl (PySem.evalArgs_none (hm pins s1 σ H1 x [] v [] Q I1 r1 .nil q1))⟩
theorem pe_bm (pa : PlainAttrs T) (slot : Slot T name id) (hty : typeOf (.builtin id) = pure (.type "method_descriptor")) (hm : MtR X id r) (ho : PE X o to) (ha : PA X (e :: es) t)
    (hbase : attributeBase o name X.env (eval o X.env) = eval o X.env := by rfl)
    (hfew : ((backTo cpos (starEach (e :: es) X.env)).all (fun x => !x.1) && (backToKw cpos (keywordEach [] X.env)).all (fun x => x.1.isSome)
      && decide ((e :: es).length + ([] : List Keyword).length + (if ([] : List Keyword).isEmpty then 0 else 1) < 30)) = true := by rfl)
    (hline : (apos.endLine == cpos.line) = true := by rfl) (hs : starEach (e :: es) X.env = (false, eval e X.env) :: starEach es X.env := by rfl) (hplain : (backTo cpos (starEach es X.env)).any (·.1) = false := by rfl) :
    PE X (.Call (.Attribute o name apos) (e :: es) [] cpos) (tBM X.K T r to t) := by
  intro pins s σ H Q I h
  refine wpAny_Call_method_late hbase hfew hline rfl (thn (ho pins s σ H _ I h) fun v s1 ⟨x, H1, I1, r1, ty, q1⟩ => ?_)
  obtain ⟨h1, h2⟩ := tyV_is I1 r1 ty
  refine ⟨T, id, pa, slot, hty, h1, h2, ?_⟩
  have hA := ha cpos pins s1 σ H1 _ I1 q1
  rw [hs] at hA ⊢
  refine Calls.callWith_builtin (by show (false || (backTo cpos (starEach es X.env)).any (·.1)) = false; rw [hplain] <;> rfl) (Calls.evalArgs_plain ?_)
  exact thn hA fun us s2 ⟨vs, H2, I2, r2, q2⟩ => hm pins s2 σ H2 x vs v us Q I2 r1 r2 q2
/- xs.append(e), list.index on a module's tuple .. are MtR facts of 06m -/
end
end L2

namespace L2
open PySem PySem.Spec PyProof.Rows

def MtM (X : Cx) (id : String) (r : V → List V → Hp → VK → Prop) : Prop :=
  ∀ (pins : List (Addr × Obj)) (s : Shared) (σ : St) (H : Hp) (x : V) (xs : List V) (v : Value) (us : List Value) (Q : VK), Inv X pins σ H s → RelV x v → Vals xs us → r x xs H Q →
    wpAny (model X.prog X.w) X.A (call (.builtin id) (v :: us)) (EP X pins σ Q) X.xe s

theorem Vals.one : ∀ {x : V} {us : List Value}, Vals [x] us → ∃ u, us = [u] ∧ RelV x u
  | _, _, .cons r .nil => ⟨_, rfl, r⟩
theorem Vals.two : ∀ {x y : V} {us : List Value}, Vals [x, y] us → ∃ u v, us = [u, v] ∧ RelV x u ∧ RelV y v
  | _, _, _, .cons r (.cons q .nil) => ⟨_, _, rfl, r, q⟩
theorem Vals.zero : ∀ {us : List Value}, Vals [] us → us = []
  | _, .nil => rfl
theorem Vals.dropLast {xs : List V} {us : List Value} (h : Vals xs us) : Vals xs.dropLast us.dropLast := by
  induction h with
  | nil => exact .nil
  | cons r t ih =>
    cases t with
    | nil => exact .nil
    | cons q t' => exact .cons r ih
theorem Vals.eraseIdx : ∀ {xs : List V} {us : List Value} (i : Nat), Vals xs us → Vals (xs.eraseIdx i) (us.eraseIdx i)
  | _, _, _, .nil => .nil
  | _, _, 0, .cons _ t => t
  | _, _, i + 1, .cons r t => .cons r (Vals.eraseIdx i t)
theorem Vals.reverse {xs : List V} {us : List Value} (h : Vals xs us) : Vals xs.reverse us.reverse := by
  induction h with
  | nil => exact .nil
  | cons r t ih => rw [List.reverse_cons, List.reverse_cons]; exact Vals.append ih (.cons r .nil)
theorem erase_last {α : Type} (l : List α) : l.eraseIdx (l.length - 1) = l.dropLast := by
  induction l with
  | nil => rfl
  | cons a r ih =>
    cases r with
    | nil => rfl
    | cons b r =>
      have e : (a :: b :: r).length - 1 = ((b :: r).length - 1) + 1 := by
        have h1 : (a :: b :: r).length = r.length + 2 := rfl
        have h2 : (b :: r).length = r.length + 1 := rfl
        omega
      rw [e, List.eraseIdx_cons_succ, ih]
      all_goals rfl

section
variable {X : Cx} {pins : List (Addr × Obj)} {σ : St} {H : Hp} {s : Shared} {l b : Addr} {xs ys zs : List V}

theorem Inv.lset {its its' : List Value} {n : Nat} {f : Array Value → Array Value} {t' : Nat} (I : Inv X pins σ H s) (hH : H l = some (.lst xs))
    (e : s.heap.get? l = some { cls := .type "list", data := .seq its.toArray n }) (hf : f its.toArray = its'.toArray) (hv : Vals ys its') (hz : ys.length ≤ sizeLine) :
    Inv X pins σ (upd H l (.lst ys)) { s with heap := s.heap.update l (Obj.mapSeq f), toks := t' } := by
  have q := PySem.IsL.update e f
  rw [hf] at q
  refine I.write (x := l) (e := l) (by rw [hH]; exact trivial) (.inl rfl) (fun b' u hb hu => (Heap.get?_update_other s.heap (Obj.mapSeq f) (Ne.symm hb)).trans hu) ⟨_, q⟩ ?_
  exact ⟨hz, its', _, hv, q⟩
theorem Inv.lnew {its : List Value} {t' : Nat} (I : Inv X pins σ H s) (hv : Vals ys its) (hz : ys.length ≤ sizeLine) :
    Inv X pins σ (upd H s.heap.objs.size (.lst ys)) { s with heap := s.heap.push { cls := .type "list", data := .seq its.toArray }, toks := t' } :=
  I.laid (fun _ _ q => Heap.get?_push_of_some _ q) (Nat.le_refl _) ⟨hz, its, 0, hv, Heap.get?_push_size _ rfl⟩
theorem Inv.fresh (I : Inv X pins σ H s) : H s.heap.objs.size = none := I.hok.fresh (Nat.le_refl _)
theorem Inv.lstM (I : Inv X pins σ H s) (hH : H l = some (.lst xs)) : xs.length ≤ sizeLine ∧ ∃ (its : List Value) (n : Nat), Vals xs its ∧ xs.length = its.length ∧ s.heap.get? l = some { cls := .type "list", data := .seq its.toArray n } := by
  obtain ⟨z, its, n, r, e⟩ := I.hok l _ hH
  exact ⟨z, its, n, r, r.length, e⟩

theorem notLongL {n : Nat} (h : n ≤ sizeLine) : Builtin.List.listTooLong n = false := by
  unfold Builtin.List.listTooLong
  exact decide_eq_false (by omega)
end

section
variable {X : Cx}

def rAppend : V → List V → Hp → VK → Prop := fun x vs H Q => ∃ l xs y, x = .ref l ∧ vs = [y] ∧ H l = some (.lst xs) ∧ xs.length < sizeLine ∧ Q .non (upd H l (.lst (xs ++ [y])))
theorem mt_append : MtM X "list.append" rAppend := by
  intro pins s σ H x vs v us Q I rx rv h
  obtain ⟨l, xs, y, rfl, rfl, hH, hz, q⟩ := h
  cases rx
  obtain ⟨u, rfl, ru⟩ := rv.one
  obtain ⟨z, its, n, r, hl, e⟩ := I.lstM hH
  refine call_meets F.slot_list_append ⟨_, e, rfl⟩ F.entry_list_append (F.args_list_append_2 _ _) (PySem.list_append l its.toArray n u (by rw [List.size_toArray]; omega)) ⟨e, ?_⟩
  refine ⟨.non, _, I.lset (its' := its ++ [u]) hH e (by simp) (r.append (.cons ru .nil)) ?_, rfl, q⟩
  rw [List.length_append, List.length_singleton]
  omega

def rExtend : V → List V → Hp → VK → Prop := fun x vs H Q => ∃ l b xs zs, x = .ref l ∧ vs = [.ref b] ∧ H l = some (.lst xs) ∧ H b = some (.lst zs) ∧ xs.length + zs.length ≤ sizeLine ∧ Q .non (upd H l (.lst (xs ++ zs)))
theorem mt_extend : MtM X "list.extend" rExtend := by
  intro pins s σ H x vs v us Q I rx rv h
  obtain ⟨l, b, xs, zs, rfl, rfl, hH, hB, hz, q⟩ := h
  cases rx
  obtain ⟨u, rfl, ru⟩ := rv.one
  cases ru
  obtain ⟨z, its, n, r, hl, e⟩ := I.lstM hH
  obtain ⟨z2, its2, n2, r2, hl2, e2⟩ := I.lstM hB
  have hsz : its.toArray.size + its2.toArray.size ≤ sizeLine := by rw [List.size_toArray, List.size_toArray]; omega
  have hlong : ¬ (!its.toArray.isEmpty && Builtin.List.listTooLong (its.toArray.size + its2.toArray.size)) = true := by
    rw [notLongL hsz, Bool.and_false]
    exact Bool.false_ne_true
  refine call_meets F.slot_list_extend ⟨_, e, rfl⟩ F.entry_list_extend (F.args_list_extend_2 _ _)
    (AutoSeq1.list_extend_list_list_0 l its.toArray n b its2.toArray n2 hlong (by rw [List.size_toArray]; omega) (by omega)) ⟨e, e2, ?_⟩
  refine ⟨.non, _, I.lset (its' := its ++ its2) hH e (by simp) (r.append r2) ?_, rfl, q⟩
  rw [List.length_append]
  omega

def rPop : V → List V → Hp → VK → Prop := fun x vs H Q => ∃ l xs y, x = .ref l ∧ vs = [] ∧ H l = some (.lst xs) ∧ xs[xs.length - 1]? = some y ∧ Q y (upd H l (.lst xs.dropLast))
theorem mt_pop : MtM X "list.pop" rPop := by
  intro pins s σ H x vs v us Q I rx rv h
  obtain ⟨l, xs, y, rfl, rfl, hH, hy, q⟩ := h
  cases rx
  have hus := rv.zero
  subst hus
  obtain ⟨z, its, n, r, hl, e⟩ := I.lstM hH
  obtain ⟨u, hu, ru⟩ := r.get hy
  have hy' : its.toArray[its.toArray.size - 1]? = some u := by
    show its.toArray[its.length - 1]? = some u
    rw [← Array.getElem?_toList, ← hl]
    exact hu
  refine call_meets F.slot_list_pop ⟨_, e, rfl⟩ F.entry_list_pop (F.args_list_pop_1 _) (MeetsSeq.list_pop_last l its.toArray n u hy' (by rw [List.size_toArray]; omega)) ⟨e, ?_⟩
  refine ⟨y, _, I.lset (its' := its.dropLast) hH e ?_ r.dropLast ?_, ru, q⟩
  · show its.toArray.eraseIdxIfInBounds (its.toArray.size - 1) = its.dropLast.toArray
    rw [List.size_toArray, List.eraseIdxIfInBounds_toArray, erase_last]
  · rw [List.length_dropLast]
    omega




def rCat : R2 := fun x y H Q => ∃ l b xs zs, x = .ref l ∧ y = .ref b ∧ H l = some (.lst xs) ∧ H b = some (.lst zs) ∧ xs.length + zs.length ≤ sizeLine ∧ ∀ p, H p = none → Q (.ref p) (upd H p (.lst (xs ++ zs)))
theorem op_cat : OpR X (binaryOp .Add) rCat := by
  intro pins s σ H x y v u Q I rx ry h
  obtain ⟨l, b, xs, zs, rfl, rfl, hH, hB, hz, q⟩ := h
  cases rx
  cases ry
  obtain ⟨z, its, n, r, hl, e⟩ := I.lstM hH
  obtain ⟨z2, its2, n2, r2, hl2, e2⟩ := I.lstM hB
  refine PySem.P.add_list e e2 ?_ (by rw [List.size_toArray, List.size_toArray]; omega)
  have ea : its.toArray ++ its2.toArray = (its ++ its2).toArray := by simp
  rw [ea]
  exact ⟨.ref _, _, I.lnew (t' := s.toks) (r.append r2) (by rw [List.length_append]; omega), rfl, q _ I.fresh⟩

end

section
variable {prog : Program} {w : World} {A : Around} {E : Value → Shared → Prop} {s : Shared}
set_option maxRecDepth 100000 in
end

section
variable {X : Cx}
end
end L2

namespace Att
open PySem PySem.W PySem.Calls PyProof.Rows

theorem ints_of_wellAll {P : Params} {h : Heap} : ∀ (ns : List Int) (vs : List Value), WellAll P h vs (ns.map WData.int) → IntsAre vs ns := by
  intro ns
  induction ns with
  | nil =>
    intro vs w
    rw [List.map_nil] at w
    cases w
    exact .nil
  | cons n ns ih =>
    intro vs w
    rw [List.map_cons] at w
    cases w with
    | cons a b =>
      cases a
      exact .cons _ _ (ih _ b)

theorem script_of {l : OpenLaw} {n : Nat} (hn : l.most = some n) {P : Params} {h : Heap} {args : List WData} {vals : List Value}
    (hpre : l.row.toRowW.claim.pre args = true) (hwl : WellAll P h vals args) :
    ∃ a vs ns, vals = [Value.ref a] ∧ args = [WData.list (ns.map WData.int)] ∧ h.get? a = some { cls := .type "list", data := .seq vs.toArray } ∧ IntsAre vs ns ∧ ns.length ≤ n := by
  have hsh : WShape.hasAll [] args [.list .int] = true := (pre_splitW hpre).1
  have hc : l.pre.holds [] { args := args } = true := (pre_splitW hpre).2
  obtain ⟨d, r, rfl, h1, h2⟩ := hasAllW_cons hsh
  obtain rfl := hasAllW_nil h2
  obtain ⟨xs, rfl, h3⟩ := hasW_list h1
  obtain ⟨ns, rfl⟩ := items_int h3
  have hlen : ns.length ≤ n := by
    unfold OpenLaw.pre at hc
    have h4 : (WTm.not (.lt (.lit (.int (n : Int))) (.len (.arg 0)))).holds [] { args := [.list (ns.map .int)] } = true := by
      have h4 := (holds_andW hc).1
      rw [hn] at h4
      exact h4
    have h5 := condW_of h4 (w_not (w_lt w_lit (w_len_list (w_arg rfl))))
    rw [List.length_map] at h5
    refine Nat.le_of_not_lt fun q => ?_
    have q' : (n : Int) < ((ns.length : Nat) : Int) := by omega
    first
      | (rw [decide_eq_true q'] at h5; exact absurd h5 (by decide))
      | (simp at h5; omega)
  cases hwl with
  | cons w1 w2 =>
    cases w2
    cases w1 with
    | list ho hall => exact ⟨_, _, ns, rfl, rfl, ho, ints_of_wellAll ns _ hall, hlen⟩

theorem post_true (l : OpenLaw) (args : List WData) : l.row.toRowW.claim.post args (.bool true) args = true :=
  postW_of (r := l.row.toRowW) (X := (true == true))
    (show WShape.has [] (.bool true) .bool = true by first | rfl | decide | simp [WShape.has, WShape.arms, WShape.armsAll])
    (show (WTm.eq .res (.lit (.bool true))).value [] { args := args, res := some (.bool true), after := args } = some (.bool (true == true)) from w_eq_bool (w_res rfl) w_lit) rfl


theorem attach_call {l : OpenLaw} {n : Nat} {q : Program} {loose : List Str} {XP : (Str → Option Value) → Heap → Prop} {YP : World → Heap → Prop} {d : DefRec}
    (hn : l.most = some n) (hdf : d.params.defaults = [])
    (call : ∀ (w : World) (s₀ s₁ : Shared) (mg mb : Str → Option Value) (fa : Addr) (o : Obj) (pm cd doc : Value) (a : Addr) (vs : List Value) (ns : List Int),
      Ground q loose [] XP w s₀ mg mb s₁.heap → YP w s₁.heap →
      s₁.heap.get? fa = some o → o.data = .func (docDef d.name d.params d.body d.scope pm cd doc) → s₁.heap.CodeRec cd d.name → mg d.name = some (.ref fa) →
      s₁.heap.get? a = some { cls := .type "list", data := .seq vs.toArray } → IntsAre vs ns → ns.length ≤ n → s₁.gens = #[] →
      codeAny (model l.prog w) callerA (.call (.ref fa) ⟨[.ref a], []⟩) (fun r s' => r = .ok (.ret (.bool true)) ∧ OldK s₁.heap s'.heap ∧ s'.os = s₁.os ∧ AllBare s'.gens) s₁) :
    WalkO q loose XP YP l.row.toRowW d [] (fun f vs => PySem.call f vs) := by
  intro w s₀ s₁ mg mb G Y fa o pm cd doc dV kV ho hd hcd hD hmg hg args vals as hpre hlay hrd hwl hlo
  obtain rfl : dV = .none := Dflts.none hD hdf
  obtain rfl : kV = .none := Dflts.noKw hD
  obtain ⟨a, vs, ns, rfl, rfl, hobj, hints, hlen⟩ := script_of hn hpre hwl
  refine enter_call (codeAny_mono (call w s₀ s₁ mg mb fa o pm cd doc a vs ns G Y ho (fd_plain hd) hcd hmg hobj hints hlen hg) fun r s' hq => ?_)
  obtain ⟨rfl, h2, h3, h4⟩ := hq
  exact ⟨.inl ⟨.bool true, .bool true, [], rfl, fun _ => rfl, .bool true, post_true l _, fun _ => ⟨List.Pairwise.nil, fun _ hm => (nomatch hm)⟩⟩, h2, h3, h4⟩


section
variable {prog : Program} {w : World} {A : Around} {E : Value → Shared → Prop} {s : Shared} {K : Frag}





def ledger (h : Heap) (L d : Addr) : List (Addr × Obj) := (List.range h.objs.size).filterMap fun a => if a = L ∨ a = d then none else (h.get? a).map fun o => (a, o)

end
end Att

namespace L2
open PySem PySem.Spec PyProof.Rows

theorem vals_ints : ∀ {vs : List Value} {ns : List Int}, IntsAre vs ns → Vals (ns.map V.int) vs
  | _, _, .nil => .nil
  | _, _, .cons n t h => .cons ⟨t, rfl⟩ (vals_ints h)

def Only (H : Hp) : Prop := ∀ b, H b = none ∨ ∃ o xs, H b = some (.frz o (.lst xs))

theorem law_call {P : Program} {w : World} {K : PySem.W.Frag} {mg mb : Str → Option Value} {CX : CXT} {k : Nat} {fa a : Addr} {fd : FuncData} {x : Str} {sp : Sp} {s₁ : Shared} {vs : List Value} {ns : List Int}
    (KX : K.In s₁.heap) (hns : s₁.heap.Ns mainGlobals mg) (hb : s₁.heap.Ns builtinsNs mb) (hbb : ∀ x : Str, x ≠ "__name__" → mb x = bootBuiltins x) (hlim : s₁.heap.NoLimit) (hg : s₁.gens = #[])
    (ha : s₁.heap.get? a = some { cls := .type "list", data := .seq vs.toArray }) (hi : IntsAre vs ns) (hl : ns.length ≤ sizeLine) (hr : Room k callerA)
    (F : ∀ base : Heap, K.In base → base.Ns mainGlobals mg → FnOk P w K mg base CX k fa fd [x] sp) (hbind : ∀ (s : Shared) (u : Value), BindsTo s fd ⟨[u], []⟩ [(x, u)])
    (hsp : ∀ H : Hp, Only H → SqL K H a (ns.map V.int) → sp [.ref a] H (fun v _ => v = .bl true) fun _ _ _ => False)
    (hCX : ∀ H e s', CX [] H s₁ (fun _ _ _ => False) e s' → False) :
    codeAny (model P w) callerA (.call (.ref fa) ⟨[.ref a], []⟩) (fun r s' => r = .ok (.ret (.bool true)) ∧ OldK s₁.heap s'.heap ∧ s'.os = s₁.os ∧ AllBare s'.gens) s₁ := by
  have rv := vals_ints hi
  have lenV := hi.length
  -- from an abstract heap in which nothing but the script may be tracked
  have core : ∀ H : Hp, Only H → SqL K H a (ns.map V.int) → HOk P w H s₁.heap → (∀ b, H b ≠ none → b = a) → (H a ≠ none → K.lookup a = none) →
      codeAny (model P w) callerA (.call (.ref fa) ⟨[.ref a], []⟩) (fun r s' => r = .ok (.ret (.bool true)) ∧ OldK s₁.heap s'.heap ∧ s'.os = s₁.os ∧ AllBare s'.gens) s₁ := by
    intro H hO hS hok hA hK
    have base_of : ∀ {b : Addr} {o : Obj}, s₁.heap.get? b = some o → H b = none → (hidT s₁.heap H).get? b = some o := fun e n => hidT_get e n
    have noA : ∀ {b : Addr} {o : Obj} {es : Array DictEntry} {ep : Nat}, s₁.heap.get? b = some o → o.data = .dict es ep → H b = none := fun {b o es ep} e d => by
      cases q : H b with
      | none => rfl
      | some u =>
        have e' : b = a := hA b (by rw [q]; simp)
        subst e'
        rw [ha] at e; cases e
        have d' : Data.seq vs.toArray _ = Data.dict es ep := d
        cases d'
    have nsK : ∀ {b : Addr} {m : Str → Option Value}, s₁.heap.Ns b m → (hidT s₁.heap H).Ns b m := fun {b m} ⟨o, es, ep, e, d, r⟩ => ⟨o, es, ep, base_of e (noA e d), d, r⟩
    have hKb : K.In (hidT s₁.heap H) := fun b o e => base_of (KX b o e) (by
      cases q : H b with
      | none => rfl
      | some u =>
        have e' : b = a := hA b (by rw [q]; simp)
        subst e'
        rw [hK (by rw [q]; simp)] at e; cases e)
    have hM : Mod K mg (hidT s₁.heap H) := ⟨hKb, nsK hns, ⟨mb, nsK hb, hbb⟩, let ⟨mc, h1, h2⟩ := hlim; ⟨mc, nsK h1, h2⟩⟩
    have e0 : Env0 P w K mg (hidT s₁.heap H) callerA [] s₁ H := ⟨rfl, hM, fun b o e => of_hidT e, Nat.le_of_eq (hidT_size _ _), trivial, fun b hb => absurd (show b ∈ ([] : List Addr) from hb) (by simp), hok, .of_eq hg⟩
    refine codeAny_mono ((F _ hKb (nsK hns)).run callerA [] s₁ H ⟨[.ref a], []⟩ [.ref a] [.ref a] _ _ hr e0 (hbind s₁ (.ref a)) (.cons rfl .nil) (hsp H hO hS)) fun r s' h => ?_
    cases r with
    | error e => exact (hCX H e s' h).elim
    | ok fl =>
      cases fl with
      | next => exact False.elim h
      | brk => exact False.elim h
      | cont => exact False.elim h
      | ret u =>
        obtain ⟨v, H', os, bare, un, hok', r', q⟩ := h
        have q' : v = .bl true := q
        subst q'
        obtain rfl : u = Value.bool true := r'
        refine ⟨rfl, OldK.of_keep fun b o e => ?_, os, bare⟩
        cases q : H b with
        | none => exact un.keep b o e q (by intro z; exact absurd (show b ∈ ([] : List Addr) from z) (by simp)) (by simp)
        | some u =>
          rcases hO b with z | ⟨ob, xs, z⟩
          · rw [q] at z; cases z
          · have z2 := un.frzs b ob _ z
            obtain ⟨e1, _⟩ := hok b _ z
            obtain ⟨e2, _⟩ := hok' b _ z2
            rw [e] at e1; cases e1
            exact e2
  cases hk : K.lookup a with
  | some o =>
    -- the script is one of the module's own objects
    have e := KX a o hk
    rw [ha] at e
    cases e
    refine core (fun _ => none) (fun _ => .inl rfl) (.inr ⟨_, vs.toArray, _, hk, rfl, rfl, rfl, by rw [List.size_toArray, lenV]; exact hl, by simpa using rv⟩) (fun b u z => by have z' : (none : Option HO) = some u := z; cases z') (fun b z => absurd rfl z) fun z => absurd rfl z
  | none =>
    refine core (fun b => if b = a then some (.frz { cls := .type "list", data := .seq vs.toArray } (.lst (ns.map V.int))) else none) (fun b => ?_) (.inl (.inr ⟨{ cls := .type "list", data := .seq vs.toArray }, if_pos rfl⟩)) (fun b u z => ?_) (fun b z => ?_) fun _ => hk
    · by_cases hb : b = a
      · exact .inr ⟨_, _, if_pos hb⟩
      · exact .inl (if_neg hb)
    · by_cases hb : b = a
      · have z' := (if_pos hb).symm.trans z
        cases z'
        subst hb
        exact ⟨ha, by rw [List.length_map]; exact hl, vs, _, rv, ha⟩
      · have z' := (if_neg hb).symm.trans z
        cases z'
    · by_cases hb : b = a
      · exact hb
      · exact absurd (if_neg hb) z
end L2

namespace L2
open PySem PySem.Spec PyProof.Rows

abbrev KOf {K : PySem.W.Frag} {h : Heap} (_ : K.In h) : PySem.W.Frag := K

theorem walk_of {l : PySem.W.OpenLaw} {n k : Nat} {q : Program} {loose : List Str} {XP : (Str → Option Value) → Heap → Prop} {YP : World → Heap → Prop} {d : DefRec} {K : Params → PySem.W.Frag} {CX : World → CXT} {sp : World → Sp} {x : Str}
    (hn : l.most = some n) (hn2 : n ≤ sizeLine) (hdf : d.params.defaults = []) (hr : Room k callerA)
    (hY : ∀ (w : World) (h : Heap), YP w h → (K w.params).In h)
    (F : ∀ (w : World) (mg : Str → Option Value) (fa : Addr) (h : Heap), (K w.params).In h → h.Ns mainGlobals mg → mg d.name = some (.ref fa) →
      ∃ fd : FuncData, (∀ (s : Shared) (u : Value), BindsTo s fd ⟨[u], []⟩ [(x, u)]) ∧
        ∀ base : Heap, (K w.params).In base → base.Ns mainGlobals mg → FnOk l.prog w (K w.params) mg base (CX w) k fa fd [x] (sp w))
    (hsp : ∀ (w : World) (H : Hp) (a : Addr) (ns : List Int), ns.length ≤ n → Only H → SqL (K w.params) H a (ns.map V.int) → sp w [.ref a] H (fun v _ => v = .bl true) fun _ _ _ => False)
    (hCX : ∀ (w : World) (H : Hp) (s : Shared) (e : Value) (s' : Shared), CX w [] H s (fun _ _ _ => False) e s' → False) :
    PySem.W.WalkO q loose XP YP l.row.toRowW d [] (fun f vs => PySem.call f vs) := by
  refine Att.attach_call hn hdf fun w s₀ s₁ mg mb fa o pm cd doc a vs ns G Y ho hd hcd hmg hobj hints hlen hg => ?_
  have KX := hY w _ Y
  obtain ⟨fd, hb, hF⟩ := F w mg fa _ KX G.T.g hmg
  exact law_call KX G.T.g G.T.b G.T.builtins G.T.nolimit hg hobj hints (Nat.le_trans hlen hn2) hr hF hb (fun H hO hS => hsp w H a ns hlen hO hS) fun H e s' => hCX w H s₁ e s'
end L2

/- THE LAST THEOREM (shape; LID, My.* are yours):
   My.Adr: a structure of the addresses that your layer names (classes, functions); My.Txt K t: a structure (Prop) of the equations over K;
   My.txt_mk : {K} {implicit addresses ..} (e1 : nsIn K mainGlobals "law" = some (some (.ref f))) (e2 : K.lookup f = some ⟨oc, od, .func (fnOf "law" "law" params body scope dV kV doc pm an cdv ct), sl⟩) (e3 : codeIn K cdv "law" = true) .. : ∃ t, My.Txt K t

set_option maxRecDepth 100000 in
set_option maxHeartbeats 0 in
theorem PySem.Challenge.cw_LID_holds : PySem.Challenge.rw_LID.Holds := by
  w_on; o_law; k_head; (case hw => w_witness2)
  k_fill
  refine L2.walk_of (l := PySem.Challenge.rw_LID) (n := 63) (k := 40) (x := "script") (CX := fun w => ..) (sp := fun _ => My.sp_law) rfl (by decide) rfl ⟨rfl, by decide, by decide⟩ (fun w h Y => PySem.W.kIn_of Y) ?F ?S ?C
  case F =>
    intro w mg fa h KX G hmg
    have T : ∃ t, My.Txt (L2.KOf KX) t := by
      dsimp only [L2.KOf]                          -- K must stand as «<heap const> w.params» for k_is
      refine' My.txt_mk ?e1 ?e2 ?e3 ..
      (case e1 => PySem.W.k_is)                    -- in the order: a name -> its address -> its object -> its parts
      (case e2 => PySem.W.k_is)
      ..
    obtain ⟨t, T⟩ := T
    have e0 := hmg.symm.trans (PySem.W.mg_of KX G T.law)
    cases e0                                       -- fa is the law's own address
    exact ⟨_, fun s u => .of_eq rfl, fun base kb nb => My.law_fn T kb nb⟩     -- if «.of_eq rfl» comes too early: refine' ⟨_, ?b, fun base kb nb => My.law_fn T kb nb⟩; exact fun s u => .of_eq rfl
  case S => exact fun w H a ns hl hO hS => ..
  case C => exact ..
(the tactic k_is has no namespace: write k_is) -/

namespace L2
open PySem PySem.Spec PyProof.Rows

def defArgs (s : Stmt) : Arguments := match s with
  | .FunctionDef _ a _ _ _ _ _ _ _ _ => a
  | _ => { posonlyargs := [], args := [], vararg := none, kwonlyargs := [], kw_defaults := [], kwarg := none, defaults := [] }
def defBody (s : Stmt) : List Stmt := match s with
  | .FunctionDef _ _ b _ _ _ _ _ _ _ => b
  | _ => []
def defScope (s : Stmt) : Scope := match s with
  | .FunctionDef _ _ _ _ _ _ sc _ _ _ => sc
  | _ => { kind := .function, names := [], isGenerator := false, isCoroutine := false }

abbrev CX0 : CXT := fun _ _ _ _ _ _ => False
abbrev E0 : XK := fun _ _ _ => False
theorem pass0 {X : Cx} : Passes CX0 X E0 := fun _ _ _ _ _ _ _ h => h.elim

structure Fun (K : PySem.W.Frag) (x qual : Str) (st : Stmt) (f : Addr) (fd : FuncData) : Prop where
  ex : ∃ (oc : Value) (od : Option Addr) (kV doc pm : Value) (an : Option Addr) (cdv ct : Value) (osl : Array (Option Value)),
    fd = PySem.W.fnOf x qual (defArgs st) (defBody st) (defScope st) .none kV doc pm an cdv ct ∧ K.lookup f = some ⟨oc, od, .func fd, osl⟩ ∧ PySem.W.codeIn K cdv qual = true
  kp : PySem.W.keepIn K (.ref f) = true
section
variable {P : Program} {w : World} {K : PySem.W.Frag} {mg : Str → Option Value} {base : Heap}
theorem Fun.ok {x qual : Str} {st : Stmt} {f : Addr} {fd : FuncData} {N ps : List Str} {k : Nat} {sp : Sp} (F : Fun K x qual st f fd) (S : FnScope N ps (defScope st)) (len : ∀ vs H Q E, sp vs H Q E → vs.length = ps.length)
    (hbody : ∀ (cdv : Value) (A : Around) (outer : List Env) (s : Shared) (H : Hp) (vs : List V) (Q : VK) (E : XK), Room k (A.deeper (envOfC qual (defScope st) s.heap.objs.size f cdv)) → sp vs H Q E →
      ∃ t, PSs (cxOf CX0 P w K mg base N qual (defScope st) f cdv A outer s H E).nox (defBody st) t ∧ t { nx := fun _ H' => Q .non H', rt := Q } (start N vs) H) : FnOk P w K mg base CX0 (k + 1) f fd ps sp := by
  obtain ⟨oc, od, kV, doc, pm, an, cdv, ct, osl, rfl, lk, hcd⟩ := F.ex
  refine fn_of lk hcd S len fun A outer s H vs Q E hr hsp => ?_
  obtain ⟨t, h, q⟩ := hbody cdv A outer s H vs Q E hr hsp
  exact ⟨t, h.nox, q⟩
theorem Fun.binds {x qual : Str} {st : Stmt} {f : Addr} {fd : FuncData} {ps : List Str} (F : Fun K x qual st f fd)
    (h : ∀ (kV doc pm : Value) (an : Option Addr) (cdv ct : Value) (us : List Value), us.length = ps.length → bindArgs (PySem.W.fnOf x qual (defArgs st) (defBody st) (defScope st) .none kV doc pm an cdv ct) ⟨us, []⟩ = pure (ps.zip us)) : Binds K fd ps [] := by
  obtain ⟨oc, od, kV, doc, pm, an, cdv, ct, osl, rfl, lk, hcd⟩ := F.ex
  exact .all (h kV doc pm an cdv ct)
theorem fun_mk {x qual : Str} {st : Stmt} {f : Addr} {oc : Value} {od an : Option Addr} {osl : Array (Option Value)} {kV doc pm cdv ct : Value} (l : K.lookup f = some ⟨oc, od, .func (PySem.W.fnOf x qual (defArgs st) (defBody st) (defScope st) .none kV doc pm an cdv ct), osl⟩)
    (c : PySem.W.codeIn K cdv qual = true) (k : PySem.W.keepIn K (.ref f) = true) : Fun K x qual st f (PySem.W.fnOf x qual (defArgs st) (defBody st) (defScope st) .none kV doc pm an cdv ct) := ⟨⟨oc, od, kV, doc, pm, an, cdv, ct, osl, rfl, l, c⟩, k⟩
end
theorem hu_of {A : Around} {k : Nat} (hr : Room k A) : A.units + 1 < cLine := Nat.lt_of_le_of_lt (Nat.add_le_add_left (by decide : 1 ≤ 64) _) hr.units

section
variable {X : Cx}
theorem pv (i : Nat) {x : Str} {pos : Pos} (hN : X.N[i]? = some x := by rfl) (hv : Vis X.env.scope x := by first | exact Or.inl rfl | exact Or.inr (Or.inl rfl) | exact Or.inr (Or.inr rfl)) (hd : (x == ("__debug__" : Str)) = false := by decide)
    (hcd : (x == ("__classdict__" : Str)) = false := by decide) : PE X (.Name x pos) (tVar i) := pe_var hN hv hd hcd
end

theorem iteF {A B : Prop} (h : B) : if false = true then A else B := by
  rw [if_neg Bool.false_ne_true]
  exact h
theorem iteT {A B : Prop} (h : A) : if true = true then A else B := by
  rw [if_pos rfl]
  exact h
theorem ite2 {c A B : Prop} [Decidable c] (h1 : c → A) (h2 : ¬ c → B) : if c then A else B := by
  by_cases h : c
  · rw [if_pos h]
    exact h1 h
  · rw [if_neg h]
    exact h2 h

def Same (H H' : Hp) : Prop := ∀ b o, H b = some o → H' b = some o
theorem Same.refl (H : Hp) : Same H H := fun _ _ h => h
theorem Same.trans {H H1 H2 : Hp} (a : Same H H1) (b : Same H1 H2) : Same H H2 := fun c o h => b c o (a c o h)
theorem Same.free {H H' : Hp} (e : Same H H') {l : Addr} (h : H' l = Option.none) : H l = Option.none := by
  cases q : H l with
  | none => rfl
  | some o =>
    rw [e l o q] at h
    cases h
theorem Same.seq {K : PySem.W.Frag} {H H' : Hp} {a : Addr} {xs : List V} (e : Same H H') (h : SqL K H a xs) : SqL K H' a xs := by
  rcases h with (h | ⟨o, h⟩) | h
  · exact .inl (.inl (e _ _ h))
  · exact .inl (.inr ⟨o, e _ _ h⟩)
  · exact .inr h

end L2

set_option Elab.async false
set_option linter.all false
set_option maxRecDepth 100000
set_option maxHeartbeats 4000000
namespace L2
open PySem PySem.Spec PyProof.Rows

section
variable {κ : Type} [DecidableEq κ]
def valV (kvs : List (κ × V)) (k : κ) : Option V := (kvs.find? fun kv => decide (kv.1 = k)).map (·.2)
def putK (kvs : List (κ × V)) (k : κ) (v : V) : List (κ × V) :=
  if (kvs.any fun kv => decide (kv.1 = k)) = true then kvs.map (fun kv => if kv.1 = k then (kv.1, v) else kv) else kvs ++ [(k, v)]
def dropK (kvs : List (κ × V)) (k : κ) : List (κ × V) := kvs.filter fun kv => decide (kv.1 ≠ k)

theorem valV_pos {p : κ × V} {r : List (κ × V)} {k : κ} (e : p.1 = k) : valV (p :: r) k = some p.2 := by simp [valV, List.find?_cons, e]
theorem valV_neg {p : κ × V} {r : List (κ × V)} {k : κ} (e : ¬ p.1 = k) : valV (p :: r) k = valV r k := by simp [valV, List.find?_cons, e]
theorem valV_any (k : κ) : ∀ kvs : List (κ × V), (kvs.any fun kv => decide (kv.1 = k)) = (valV kvs k).isSome
  | [] => rfl
  | p :: r => by
    rw [List.any_cons]
    by_cases e : p.1 = k
    · simp only [valV_pos e, decide_eq_true e, Bool.true_or, Option.isSome_some]
    · rw [valV_neg e, decide_eq_false e, Bool.false_or]; exact valV_any k r
theorem valV_map (k j : κ) (y : V) : ∀ kvs : List (κ × V), valV (kvs.map fun kv => if kv.1 = k then (kv.1, y) else kv) j = (valV kvs j).map fun x => if j = k then y else x
  | [] => rfl
  | p :: r => by
    have ih := valV_map k j y r
    rw [List.map_cons]
    by_cases h : p.1 = k
    · rw [if_pos h]
      by_cases e : p.1 = j
      · rw [valV_pos (p := (p.1, y)) e, valV_pos e, Option.map_some, if_pos (e.symm.trans h)]
      · rw [valV_neg (p := (p.1, y)) e, valV_neg e, ih]
    · rw [if_neg h]
      by_cases e : p.1 = j
      · rw [valV_pos (p := p) e, valV_pos e, Option.map_some, if_neg (fun z => h (e.trans z))]
      · rw [valV_neg (p := p) e, valV_neg e, ih]
theorem valV_snoc (k j : κ) (y : V) : ∀ kvs : List (κ × V), valV kvs k = none → valV (kvs ++ [(k, y)]) j = if j = k then some y else valV kvs j
  | [], _ => by
    by_cases e : k = j
    · rw [if_pos e.symm]; exact valV_pos (p := (k, y)) e
    · rw [if_neg (fun z => e z.symm)]; exact valV_neg (p := (k, y)) e
  | p :: r, hn => by
    rw [List.cons_append]
    have hk : ¬ p.1 = k := fun z => by rw [valV_pos z] at hn; cases hn
    rw [valV_neg hk] at hn
    have ih := valV_snoc k j y r hn
    by_cases e : p.1 = j
    · rw [valV_pos e, valV_pos e, if_neg (fun z => hk (e.trans z))]
    · rw [valV_neg e, valV_neg e, ih]
theorem valV_put (kvs : List (κ × V)) (k j : κ) (y : V) : valV (putK kvs k y) j = if j = k then some y else valV kvs j := by
  unfold putK
  by_cases a : (kvs.any fun kv => decide (kv.1 = k)) = true
  · rw [if_pos a, valV_map]
    rw [valV_any] at a
    by_cases e : j = k
    · obtain ⟨x, hx⟩ := Option.isSome_iff_exists.mp a
      rw [if_pos e, e, hx, Option.map_some, if_pos rfl]
    · rw [if_neg e]
      cases valV kvs j with
      | none => rfl
      | some x => rw [Option.map_some, if_neg e]
  · rw [if_neg a]
    refine valV_snoc k j y kvs ?_
    rw [valV_any] at a
    cases q : valV kvs k with
    | none => rfl
    | some x => rw [q] at a; exact (a rfl).elim
theorem length_putK (kvs : List (κ × V)) (k : κ) (v : V) : (putK kvs k v).length ≤ kvs.length + 1 := by
  unfold putK
  split
  · rw [List.length_map]; omega
  · rw [List.length_append, List.length_cons, List.length_nil]; omega

theorem RelO.isSome_eq {o : Option V} {u : Option Value} (r : RelO o u) : o.isSome = u.isSome := by
  cases o with
  | none => cases u with
    | none => rfl
    | some _ => exact (show False from r).elim
  | some _ => cases u with
    | none => exact (show False from r).elim
    | some _ => rfl
theorem RelO.getD {o : Option V} {u : Option Value} {d : V} {d' : Value} (r : RelO o u) (rd : RelV d d') : RelV (o.getD d) (u.getD d') := by
  cases o with
  | none => cases u with
    | none => exact rd
    | some _ => exact (show False from r).elim
  | some _ => cases u with
    | none => exact (show False from r).elim
    | some _ => exact r

theorem KV.val {kvs : List (κ × V)} {vs : List (κ × Value)} (r : KV kvs vs) (k : κ) : RelO (valV kvs k) (valueAt vs k) := by
  unfold KV at r
  induction r with
  | nil => exact True.intro
  | @cons p q ps qs h t ih =>
    obtain ⟨h1, h2⟩ := h
    by_cases e : p.1 = k
    · have e' : q.1 = k := h1.symm.trans e
      have b : valueAt (q :: qs) k = some q.2 := by simp [valueAt, List.find?_cons, e']
      rw [valV_pos e, b]; exact h2
    · have e' : ¬ q.1 = k := fun z => e (h1.trans z)
      have b : valueAt (q :: qs) k = valueAt qs k := by simp [valueAt, List.find?_cons, e']
      rw [valV_neg e, b]; exact ih
theorem KV.any {kvs : List (κ × V)} {vs : List (κ × Value)} (r : KV kvs vs) (k : κ) : (kvs.any fun kv => decide (kv.1 = k)) = vs.any fun kv => decide (kv.1 = k) := by
  unfold KV at r
  induction r with
  | nil => rfl
  | cons h t ih => rw [List.any_cons, List.any_cons, ih, h.1]
theorem KV.repl {kvs : List (κ × V)} {vs : List (κ × Value)} (r : KV kvs vs) (k : κ) {y : V} {u : Value} (ry : RelV y u) :
    KV (kvs.map fun kv => if kv.1 = k then (kv.1, y) else kv) (vs.map fun kv => if kv.1 = k then (kv.1, u) else kv) := by
  unfold KV at r ⊢
  induction r with
  | nil => exact .nil
  | @cons p q ps qs h t ih =>
    rw [List.map_cons, List.map_cons]
    refine .cons ?_ ih
    obtain ⟨h1, h2⟩ := h
    by_cases e : p.1 = k
    · rw [if_pos e, if_pos (h1.symm.trans e)]; exact ⟨h1, ry⟩
    · rw [if_neg e, if_neg (fun z => e (h1.trans z))]; exact ⟨h1, h2⟩
theorem KV.put {kvs : List (κ × V)} {vs : List (κ × Value)} (r : KV kvs vs) (k : κ) {y : V} {u : Value} (ry : RelV y u) : KV (putK kvs k y) (stored vs k u) := by
  unfold putK stored
  rw [r.any k]
  by_cases e : (vs.any fun kv => decide (kv.1 = k)) = true
  · rw [if_pos e, if_pos e]; exact r.repl k ry
  · rw [if_neg e, if_neg e]; exact Paired.snoc r ⟨rfl, ry⟩
theorem KV.drop {kvs : List (κ × V)} {vs : List (κ × Value)} (r : KV kvs vs) (k : κ) : KV (dropK kvs k) (without vs k) := by
  unfold KV at r ⊢
  unfold dropK without
  induction r with
  | nil => exact .nil
  | @cons p q ps qs h t ih =>
    obtain ⟨h1, h2⟩ := h
    rw [List.filter_cons, List.filter_cons]
    by_cases e : p.1 = k
    · have a : ¬ decide (p.1 ≠ k) = true := by simp [e]
      have b : ¬ decide (q.1 ≠ k) = true := by simp [h1.symm.trans e]
      rw [if_neg a, if_neg b]; exact ih
    · have e' : ¬ q.1 = k := fun z => e (h1.trans z)
      have a : decide (p.1 ≠ k) = true := by simp [e]
      have b : decide (q.1 ≠ k) = true := by simp [e']
      rw [if_pos a, if_pos b]; exact .cons ⟨h1, h2⟩ ih
theorem KV.keys {kvs : List (κ × V)} {vs : List (κ × Value)} (r : KV kvs vs) : kvs.map (·.1) = vs.map (·.1) := by
  unfold KV at r
  induction r with
  | nil => rfl
  | cons h t ih => rw [List.map_cons, List.map_cons, ih, h.1]
theorem KV.length {kvs : List (κ × V)} {vs : List (κ × Value)} (r : KV kvs vs) : kvs.length = vs.length := Paired.length r
end


theorem kV_is {P : Program} {w : World} {k : Key} {u : Value} (r : RelV (kV k) u) : (mixKind P w).is k u = true := by
  cases k with
  | inl i => obtain ⟨t, e⟩ := (show ∃ t, u = Value.int i t from r); subst e; exact mixKind_int P w i t
  | inr x => obtain ⟨t, e⟩ := (show ∃ t, u = Value.str x t from r); subst e; exact mixKind_str P w x t
theorem items_are {P : Program} {w : World} : ∀ {ks : List Key} {us : List Value}, Vals (ks.map kV) us → ItemsAre (mixKind P w) ks us
  | [], _, r => by rw [List.map_nil] at r; cases r; exact .nil
  | k :: ks, _, r => by
    rw [List.map_cons] at r
    cases r with
    | cons h t => exact .cons (kV_is h) (items_are t)

abbrev KT (H : Hp) : List (List Key × V) → List (List Key × Addr × Value) → Prop := Paired fun p q => p.1 = q.1 ∧ H q.2.1 = some (.tup (p.1.map kV)) ∧ RelV p.2 q.2.2
theorem KT.val {H : Hp} {kvs : List (List Key × V)} {xs : List (List Key × Addr × Value)} (r : KT H kvs xs) (k : List Key) : RelO (valV kvs k) ((atKey xs k).map (·.2)) := by
  induction r with
  | nil => exact True.intro
  | @cons p q ps qs h t ih =>
    obtain ⟨h1, _, h2⟩ := h
    by_cases e : p.1 = k
    · have e' : q.1 = k := h1.symm.trans e
      have b : atKey (q :: qs) k = some q.2 := by simp [atKey, List.find?_cons, e']
      rw [valV_pos e, b]; exact h2
    · have e' : ¬ q.1 = k := fun z => e (h1.trans z)
      have b : atKey (q :: qs) k = atKey qs k := by simp [atKey, List.find?_cons, e']
      rw [valV_neg e, b]; exact ih
theorem KT.repl {H : Hp} {kvs : List (List Key × V)} {xs : List (List Key × Addr × Value)} (r : KT H kvs xs) (k : List Key) {y : V} {u : Value} (ry : RelV y u) :
    KT H (kvs.map fun kv => if kv.1 = k then (kv.1, y) else kv) (xs.map (putAt k u)) := by
  induction r with
  | nil => exact .nil
  | @cons p q ps qs h t ih =>
    rw [List.map_cons, List.map_cons]
    refine .cons ?_ ih
    obtain ⟨h1, h2, h3⟩ := h
    unfold putAt
    by_cases e : p.1 = k
    · rw [if_pos e, if_pos (h1.symm.trans e)]; exact ⟨h1, h2, ry⟩
    · rw [if_neg e, if_neg (fun z => e (h1.trans z))]; exact ⟨h1, h2, h3⟩
theorem KT.put {H : Hp} {kvs : List (List Key × V)} {xs : List (List Key × Addr × Value)} (r : KT H kvs xs) (k : List Key) {b : Addr} {y : V} {u : Value} (hb : H b = some (.tup (k.map kV))) (ry : RelV y u) :
    KT H (putK kvs k y) (storedH xs k b u) := by
  have e : (kvs.any fun kv => decide (kv.1 = k)) = (atKey xs k).isSome := by
    rw [valV_any, (r.val k).isSome_eq, Option.isSome_map]
  unfold putK storedH
  rw [e]
  by_cases q : (atKey xs k).isSome = true
  · rw [if_pos q, if_pos q]; exact r.repl k ry
  · rw [if_neg q, if_neg q]; exact Paired.snoc r ⟨rfl, hb, ry⟩
theorem KT.keeps {H H' : Hp} {kvs : List (List Key × V)} {xs : List (List Key × Addr × Value)} (r : KT H kvs xs) (ht : ∀ b ys, H b = some (.tup ys) → H' b = some (.tup ys)) : KT H' kvs xs :=
  Paired.mapP r fun _ _ z => ⟨z.1, ht _ _ z.2.1, z.2.2⟩

section
variable {P : Program} {w : World} {H : Hp} {h : Heap} {a : Addr}
theorem rd_of {u : HO} (ok : HOk P w H h) (e : Rd H a u) : ObjOk P w H h a u := e.ok ok
theorem dk_rd {kvs : List (Key × V)} (ok : HOk P w H h) (e : Rd H a (.dK kvs)) : kvs.length ≤ sizeLine ∧ (a == sysModules) = false ∧ ∃ vs, KV kvs vs ∧ h.DictOf (mixKind P w) a vs :=
  show ObjOk P w H h a (.dK kvs) from rd_of ok e
theorem dk_of {kvs : List (Key × V)} (ok : HOk P w H h) (e : H a = some (.dK kvs)) : kvs.length ≤ sizeLine ∧ (a == sysModules) = false ∧ ∃ vs, KV kvs vs ∧ h.DictOf (mixKind P w) a vs := dk_rd ok (.inl e)
theorem key_of {ks : List Key} (ok : HOk P w H h) (e : H a = some (.tup (ks.map kV))) : (tupleKind (mixKind P w)).is h ks a := by
  obtain ⟨_, its, r, o, h1, h2, n, h3⟩ := (show ObjOk P w H h a (.tup (ks.map kV)) from ok a _ e)
  exact ⟨o, its.toArray, n, h1, h2, h3, by simpa using items_are r⟩
theorem dt_rd {kvs : List (List Key × V)} (ok : HOk P w H h) (e : Rd H a (.dT kvs)) : kvs.length ≤ sizeLine ∧ (a == sysModules) = false ∧
    ∃ xs, KT H kvs xs ∧ h.DictOfH (tupleKind (mixKind P w)) a xs := by
  obtain ⟨z, y, xs, r, o, es, ep, h1, h2, h3, h4, h5⟩ := (show ObjOk P w H h a (.dT kvs) from rd_of ok e)
  refine ⟨z, y, xs, r, o, es, ep, h1, h2, h3, h4, fun x hx => ?_, h5⟩
  have all : ∀ {l : List (List Key × V)} {m : List (List Key × Addr × Value)}, KT H l m → ∀ x ∈ m, (tupleKind (mixKind P w)).is h x.1 x.2.1 := by
    intro l m q
    induction q with
    | nil => intro x hx; exact nomatch hx
    | @cons p q ps qs hq t ih =>
      intro x hx
      rcases List.mem_cons.mp hx with e | hx
      · subst e
        exact key_of ok (by rw [← hq.1]; exact hq.2.1)
      · exact ih x hx
  exact all r x hx
end

def DGet (H : Hp) (a : Addr) (y : V) (r : Option V) : Prop :=
  (∃ kvs k, Rd H a (.dK kvs) ∧ y = kV k ∧ r = valV kvs k) ∨ ∃ kvs k b, Rd H a (.dT kvs) ∧ y = .ref b ∧ H b = some (.tup (k.map kV)) ∧ r = valV kvs k
def DPut (H : Hp) (a : Addr) (y v : V) (H' : Hp) : Prop :=
  (∃ kvs k, H a = some (.dK kvs) ∧ y = kV k ∧ kvs.length < sizeLine ∧ H' = upd H a (.dK (putK kvs k v))) ∨
  ∃ kvs k b, H a = some (.dT kvs) ∧ y = .ref b ∧ H b = some (.tup (k.map kV)) ∧ kvs.length < sizeLine ∧ H' = upd H a (.dT (putK kvs k v))
theorem DGet.k {H : Hp} {a : Addr} {kvs : List (Key × V)} {k : Key} (e : H a = some (.dK kvs)) : DGet H a (kV k) (valV kvs k) := .inl ⟨kvs, k, .inl e, rfl, rfl⟩
theorem DGet.t {H : Hp} {a b : Addr} {kvs : List (List Key × V)} {k : List Key} (e : H a = some (.dT kvs)) (eb : H b = some (.tup (k.map kV))) : DGet H a (.ref b) (valV kvs k) := .inr ⟨kvs, k, b, .inl e, rfl, eb, rfl⟩
theorem DPut.k {H : Hp} {a : Addr} {kvs : List (Key × V)} {k : Key} {v : V} (e : H a = some (.dK kvs)) (hl : kvs.length < sizeLine) : DPut H a (kV k) v (upd H a (.dK (putK kvs k v))) := .inl ⟨kvs, k, e, rfl, hl, rfl⟩
theorem DPut.t {H : Hp} {a b : Addr} {kvs : List (List Key × V)} {k : List Key} {v : V} (e : H a = some (.dT kvs)) (eb : H b = some (.tup (k.map kV))) (hl : kvs.length < sizeLine) :
    DPut H a (.ref b) v (upd H a (.dT (putK kvs k v))) := .inr ⟨kvs, k, b, e, rfl, eb, hl, rfl⟩


section
variable {X : Cx} {pins : List (Addr × Obj)} {σ : St} {H : Hp} {s : Shared} {a : Addr} {y v : V} {u r : Value} {o : Option V} {A : Around} {E : Value → Shared → Prop}

theorem Inv.big (I : Inv X pins σ H s) : sysModules < s.heap.objs.size := by
  have h : mainGlobals < s.heap.objs.size := (I.mod.glob.keeps I.bk).lt
  exact Nat.lt_trans (by decide) h

theorem d_in {Q : Value → Shared → Prop} (hu : A.units + 1 < cLine) (I : Inv X pins σ H s) (g : DGet H a y o) (ry : RelV y u) (h : ∀ s', Inv X pins σ H s' → Q (.bool o.isSome) s') :
    wpAny (model X.prog X.w) A (compareOp .In u (.ref a)) Q E s := by
  rcases g with ⟨kvs, k, e, ey, l⟩ | ⟨kvs, k, b, e, ey, eb, l⟩
  · subst ey
    obtain ⟨z, hd, vs, rel, dd⟩ := dk_rd I.hok e
    refine wpAny_in_of (kV_is ry) hd dd.mapOf ?_
    rw [← (rel.val k).isSome_eq, ← l]
    exact h _ (I.tok _)
  · subst ey
    cases (show u = Value.ref b from ry)
    obtain ⟨z, hd, xs, rel, dd⟩ := dt_rd I.hok e
    refine wpAny_in_heap (tupleKind_room_in1 hu) (key_of I.hok eb) hd dd ?_
    have q := (rel.val k).isSome_eq
    rw [Option.isSome_map] at q
    rw [← q, ← l]
    exact h _ (I.tok _)
theorem d_notIn {Q : Value → Shared → Prop} (hu : A.units + 1 < cLine) (I : Inv X pins σ H s) (g : DGet H a y o) (ry : RelV y u) (h : ∀ s', Inv X pins σ H s' → Q (.bool (!o.isSome)) s') :
    wpAny (model X.prog X.w) A (compareOp .NotIn u (.ref a)) Q E s := by
  rcases g with ⟨kvs, k, e, ey, l⟩ | ⟨kvs, k, b, e, ey, eb, l⟩
  · subst ey
    obtain ⟨z, hd, vs, rel, dd⟩ := dk_rd I.hok e
    refine wpAny_notIn_of (kV_is ry) hd dd.mapOf ?_
    rw [← (rel.val k).isSome_eq, ← l]
    exact h _ (I.tok _)
  · subst ey
    cases (show u = Value.ref b from ry)
    obtain ⟨z, hd, xs, rel, dd⟩ := dt_rd I.hok e
    refine wpAny_notIn_heap (tupleKind_room_in1 hu) (key_of I.hok eb) hd dd ?_
    have q := (rel.val k).isSome_eq
    rw [Option.isSome_map] at q
    rw [← q, ← l]
    exact h _ (I.tok _)
theorem dk_new {P : Program} {w : World} {H' : Hp} {h' : Heap} {kvs : List (Key × V)} {vs : List (Key × Value)} (z : kvs.length ≤ sizeLine) (hd : (a == sysModules) = false) (rel : KV kvs vs) (dd : h'.DictOf (mixKind P w) a vs) :
    ObjOk P w H' h' a (.dK kvs) := ⟨z, hd, vs, rel, dd⟩
end

section
variable {X : Cx} {pins : List (Addr × Obj)} {σ : St} {H : Hp} {s : Shared} {a : Addr} {kvs : List (Key × V)} {k : Key} {u : Value} {A : Around} {E : Value → Shared → Prop}
end




def tDIn (ty td : TE) : TE := fun σ H Q => ty σ H fun y H1 => td σ H1 fun x H2 => ∃ a o, x = .ref a ∧ DGet H2 a y o ∧ Q (.bl o.isSome) H2
def tDNotIn (ty td : TE) : TE := fun σ H Q => ty σ H fun y H1 => td σ H1 fun x H2 => ∃ a o, x = .ref a ∧ DGet H2 a y o ∧ Q (.bl (!o.isSome)) H2

section
variable {X : Cx} {o i e value : Expr} {pos pos' tpos : Pos} {td ty tv : TE}
theorem pc_din (hu : X.A.units + 1 < cLine) (hi : PE X i ty) (ho : PE X o td) : PC X .In i o (tDIn ty td) := by
  intro pins s σ H Q I h
  refine thn (hi pins s σ H _ I h) fun iv s1 ⟨y, H1, I1, ry, q1⟩ => thn (ho pins s1 σ H1 _ I1 q1) fun u s2 ⟨x, H2, I2, rx, a, ov, ex, g, q2⟩ => ?_
  subst ex
  obtain rfl : u = Value.ref a := rx
  exact d_in hu I2 g ry fun s3 I3 => ⟨.bl ov.isSome, H2, I3, rfl, q2⟩
theorem pc_dnotin (hu : X.A.units + 1 < cLine) (hi : PE X i ty) (ho : PE X o td) : PC X .NotIn i o (tDNotIn ty td) := by
  intro pins s σ H Q I h
  refine thn (hi pins s σ H _ I h) fun iv s1 ⟨y, H1, I1, ry, q1⟩ => thn (ho pins s1 σ H1 _ I1 q1) fun u s2 ⟨x, H2, I2, rx, a, ov, ex, g, q2⟩ => ?_
  subst ex
  obtain rfl : u = Value.ref a := rx
  exact d_notIn hu I2 g ry fun s3 I3 => ⟨.bl (!ov.isSome), H2, I3, rfl, q2⟩
end


section
variable {X : Cx} {pos : Pos}
end




structure M1 (X : Cx) (o : Expr) (m : Str) (apos : Pos) (e : Expr) (cpos : Pos) : Prop where
  base : attributeBase o m X.env (eval o X.env) = eval o X.env
  few : ((backTo cpos (starEach [e] X.env)).all (fun x => !x.1) && (backToKw cpos (keywordEach [] X.env)).all (fun x => x.1.isSome)
    && decide (([e] : List Expr).length + ([] : List Keyword).length + (if ([] : List Keyword).isEmpty then 0 else 1) < 30)) = true
  line : (apos.endLine == cpos.line) = true
  trees : backTo cpos (starEach [e] X.env) = [(false, eval e X.env)]
structure M2 (X : Cx) (o : Expr) (m : Str) (apos : Pos) (e f : Expr) (cpos : Pos) : Prop where
  base : attributeBase o m X.env (eval o X.env) = eval o X.env
  few : ((backTo cpos (starEach [e, f] X.env)).all (fun x => !x.1) && (backToKw cpos (keywordEach [] X.env)).all (fun x => x.1.isSome)
    && decide (([e, f] : List Expr).length + ([] : List Keyword).length + (if ([] : List Keyword).isEmpty then 0 else 1) < 30)) = true
  line : (apos.endLine == cpos.line) = true
  trees : backTo cpos (starEach [e, f] X.env) = [(false, eval e X.env), (false, eval f X.env)]


section
variable {X : Cx} {pins : List (Addr × Obj)} {σ : St} {H : Hp} {s : Shared} {a : Addr} {y d : V} {u r : Value} {o : Option V} {A : Around} {E : Value → Shared → Prop}
end

section
variable {X : Cx} {o e f : Expr} {apos cpos : Pos} {td ty tx : TE}
end

section
variable {X : Cx} {pins : List (Addr × Obj)} {σ : St} {H : Hp} {s : Shared} {a : Addr} {kvs : List (Key × V)} {A : Around} {E : Value → Shared → Prop}
end


section
variable {X : Cx} {pins : List (Addr × Obj)} {σ : St} {H : Hp} {s : Shared} {a : Addr} {y : V} {u : Value} {A : Around} {E : Value → Shared → Prop}
end
end L2

set_option Elab.async false
set_option linter.all false
set_option maxRecDepth 100000
set_option maxHeartbeats 4000000
namespace L2
open PySem
theorem lk_list_keys : typeLookup (.type "list") "keys" = pure none := by rw [typeLookup_type, builtinLookup_eq_fast]; kernel_rfl
theorem lk_list_hook : typeLookup (.type "list") "__getattr__" = pure none := by rw [typeLookup_type, builtinLookup_eq_fast]; kernel_rfl
section
variable {prog : Program} {w : World} {A : Around} {E : Value → Shared → Prop} {h : Heap} {g : Array GenState} {d : Drawn} {t : Nat} {os : OsState} {a : Addr} {o : Obj}
theorem sub_AE : isSubtype (.type "AttributeError") (.type "AttributeError") = pure true := by rw [isSubtype_type]; kernel_rfl
theorem own_AE {m : Str} {tk : Tok} : ownMembersOf (.type "AttributeError") [.str m tk] = #[unsetMember, unsetMember] := by kernel_rfl
theorem first_AE {m : Str} {tk : Tok} : firstArgMember (.type "AttributeError") [.str m tk] = pure .none := by kernel_rfl
theorem raise_attr {α : Type} {self : Value} {name msg : Str} {Q : α → Shared → Prop} (hm : msg.length ≤ sizeLine) (hh : A.handled = none)
    (hq : ∀ h' t' e oe, (∀ b o, h.get? b = some o → h'.get? b = some o) → h'.get? e = some oe → oe.cls = .type "AttributeError" → E (.ref e) ⟨h', g, d, t', os⟩) :
    wpAny (model prog w) A (raiseAttrError self name msg) Q E ⟨h, g, d, t, os⟩ := by
  have f1 := sub_AE
  unfold raiseAttrError newExc
  refine wpAny_bind (wpAny_mkStr ?_ hm)
  have fe := first_AE (m := msg) (tk := t)
  rw [own_AE]
  repeat (any_goals (first | assumption | wp_step))
  unfold raiseNew
  refine wpAny_bind (wpAny_handled ?_)
  rw [hh]
  refine wpAny_bind (wpAny_pure ?_)
  refine wpAny_throw ?_
  refine hq _ _ _ _ (fun b o q => ?_) (Heap.get?_update_self _ (Heap.get?_push_size _ rfl) rfl) rfl
  have lt := Heap.lt_size q
  rw [Heap.get?_update_other _ _ (by rw [Heap.size_push]; exact Nat.ne_of_gt (Nat.lt_succ_of_lt lt))]
  exact Heap.get?_push_of_some _ (Heap.get?_push_of_some _ q)
theorem keys_entry {tk : Tok} {its : Array Value} {n : Nat} {Q : Fin → Shared → Prop} (hx : h.get? a = some { cls := .type "list", data := .seq its n }) (hh : A.handled = none)
    (hq : ∀ h' t' e oe, (∀ b o, h.get? b = some o → h'.get? b = some o) → h'.get? e = some oe → oe.cls = .type "AttributeError" → E (.ref e) ⟨h', g, d, t', os⟩) :
    wpAny (model prog w) A (Builtin.«object.__getattribute__» ⟨[.ref a, .str "keys" tk], []⟩) Q E ⟨h, g, d, t, os⟩ := by
  have hT : (⟨h, g, d, t, os⟩ : Shared).TypeIs (.ref a) "list" := ⟨_, hx, rfl⟩
  have f4 := lk_list_keys
  repeat (any_goals (first | assumption | wp_step))
  exact raise_attr (by decide +kernel) hh hq
theorem keys_none {its : Array Value} {n : Nat} {Q : Option Value → Shared → Prop} (hx : h.get? a = some { cls := .type "list", data := .seq its n }) (hh : A.handled = none)
    (hq : ∀ h' t', (∀ b o, h.get? b = some o → h'.get? b = some o) → Q none ⟨h', g, d, t', os⟩) : wpAny (model prog w) A (getAttr? (.ref a) "keys") Q E ⟨h, g, d, t, os⟩ := by
  have hT : ∀ t', (⟨h, g, d, t', os⟩ : Shared).TypeIs (.ref a) "list" := fun t' => ⟨_, hx, rfl⟩
  have f1 := sub_AE
  have f2 := F.slot_list_getattribute.lookup
  have f3 := F.slot_list_getattribute.bind (.ref a)
  have f4 := lk_list_hook
  unfold getAttr? getAttrBy? getAttrBy
  refine wpAny_bind (wpAny_mkText (wpAny_bind (wpAny_attempt (wpAny_holding (wpAny_bind (wpAny_typeOf (hT _) ?_))))))
  rw [f2]
  refine wpAny_bind (wpAny_pure ?_)
  show wpAny _ _ (getAttrByItsOwn _ _ _ _ _ _) _ _ _
  unfold getAttrByItsOwn
  refine wpAny_bind (wpAny_pure (a := none) (wpAny_bind (wpAny_attempt (wpAny_holding ?_))))
  show wpAny _ _ (boundAndCalled _ _ _) _ _ _
  unfold boundAndCalled
  rw [f3]
  refine wpAny_bind (wpAny_pure (wpAny_call (codeAny_call_builtin F.slot_list_getattribute.plain F.entry_list_ga (F.slot_list_getattribute.check _ _ _ _ _ _ _ _ (hT _) (F.args_list_getattribute_2 _ _) (keys_entry hx hh fun h' t' e oe k ee ec => ?_)))))
  have te : (⟨h', g, d, t', os⟩ : Shared).TypeIs (.ref e) "AttributeError" := ⟨oe, ee, ec⟩
  show wpAny _ _ (getattributeRaised _ _ _ _ _ _ _) _ _ _
  unfold getattributeRaised
  refine wpAny_bind (wpAny_isInstance te f1 ?_)
  rw [if_pos rfl]
  show wpAny _ _ (typeLookup _ _ >>= _) _ _ _
  rw [f4]
  refine wpAny_bind (wpAny_pure ?_)
  show wpAny _ _ (throw _) _ _ _
  refine wpAny_throw ?_
  refine wpAny_bind (wpAny_isInstance te f1 ?_)
  rw [if_pos rfl]
  exact wpAny_pure (hq h' t' k)
end
end L2

set_option Elab.async false
set_option linter.all false
set_option maxRecDepth 100000
set_option maxHeartbeats 4000000
namespace L2
open PySem
theorem plain_dul : plainId "dict.update.loop" = true := by decide +kernel
theorem entry_dul : entryFor table "dict.update.loop" = some Builtin.«dict.update.loop» := entryFor_of_tree (by kernel_rfl)
section
variable {prog : Program} {w : World} {K : Type} [DecidableEq K] {knd : KeyKind prog w K} {A : Around} {E : Value → Shared → Prop}
def PairAt (knd : KeyKind prog w K) (h : Heap) (u : Value) (kv : K × Value) : Prop :=
  ∃ t key n o, u = .ref t ∧ knd.is kv.1 key = true ∧ h.get? t = some o ∧ o.cls = .type "tuple" ∧ o.data = .seq #[key, kv.2] n
theorem PairAt.keep {h h' : Heap} {u : Value} {kv : K × Value} (p : PairAt knd h u kv) (k : ∀ b o, o.cls = .type "tuple" → h.get? b = some o → h'.get? b = some o) : PairAt knd h' u kv :=
  let ⟨t, key, n, o, a, b, c, d, e⟩ := p; ⟨t, key, n, o, a, b, k t o d c, d, e⟩
theorem dul_go {R : Result → Shared → Prop} {d it l : Addr} {items : Array Value} (hh : A.handled = none) : ∀ (more : List (K × Value)) (i : Nat) (s : Shared) (kvs : List (K × Value)) (j : Int) (tk : Tok), items.size = i + more.length →
    s.heap.DictOf knd d kvs → s.heap.IsListIter it l i → s.heap.IsList l items → (∀ m kv, more[m]? = some kv → ∃ u, items[i + m]? = some u ∧ PairAt knd s.heap u kv) → kvs.length + more.length ≤ sizeLine →
    (∀ h' t', h'.DictOf knd d (more.foldl (fun a p => stored a p.1 p.2) kvs) → (∀ b o, b ≠ d → b ≠ it → s.heap.get? b = some o → h'.get? b = some o) → R (.ok (.ret .none)) { s with heap := h', toks := t' }) →
    codeAny (model prog w) A (.builtin "dict.update.loop" ⟨[.ref d, .ref it, .int j tk, .none], []⟩) R s := by
  intro more
  induction more with
  | nil =>
    intro i s kvs j tk hi hd hit hl hp hz hR
    refine codeAny_builtin entry_dul ?_
    rw [Around.under_plainId plain_dul _]
    unfold Builtin.«dict.update.loop»
    have hs : items[i]? = none := Array.getElem?_eq_none (by rw [hi]; exact Nat.le_refl _)
    refine wpAny_bind (wpAny_pyNext_list_end hh hit hl hs fun h1 eb => ?_)
    have nd : d ≠ it := fun z => by
      obtain ⟨o, _, _, q, _, c, _⟩ := hd
      obtain ⟨o', q', _, c'⟩ := hit
      rw [z, q'] at q; cases q; rw [c'] at c; cases c
    show wpAny _ _ (Builtin.Dict.addKeywords d [] >>= _) _ _ _
    exact wpAny_bind (wpAny_pure (wpAny_pure (hR h1 s.toks (hd.extBut eb nd) fun b o n1 n2 q => eb b o n2 q)))
  | cons kv more ih =>
    intro i s kvs j tk hi hd hit hl hp hz hR
    refine codeAny_builtin entry_dul ?_
    rw [Around.under_plainId plain_dul _]
    unfold Builtin.«dict.update.loop»
    obtain ⟨u, hu, t, key, n, o, rfl, hk, ho, hc, hdt⟩ := hp 0 kv rfl
    refine wpAny_bind (wpAny_pyNext_list_item hit hl hu fun h1 it1 sb => ?_)
    have nd : d ≠ it := fun z => by
      obtain ⟨o, _, _, q, _, c, _⟩ := hd
      obtain ⟨o', q', _, c'⟩ := hit
      rw [z, q'] at q; cases q; rw [c'] at c; cases c
    have n2 : ∀ b o, (o.cls = .type "tuple" ∨ o.cls = .type "list") → s.heap.get? b = some o → b ≠ d ∧ b ≠ it := by
      intro b o c q
      constructor
      · intro z
        obtain ⟨o', q', c'⟩ := hd.typeIs
        rw [z, q'] at q; cases q; rw [c'] at c; rcases c with c | c <;> exact absurd c (by decide)
      · intro z
        obtain ⟨o', q', c', _⟩ := hit
        rw [z, q'] at q; cases q; rw [c'] at c; rcases c with c | c <;> exact absurd c (by decide)
    have nt : ∀ b o, o.cls = .type "tuple" → s.heap.get? b = some o → b ≠ d ∧ b ≠ it := fun b o c q => n2 b o (.inl c) q
    have nl : l ≠ d ∧ l ≠ it := by
      obtain ⟨o, q, c, _⟩ := hl
      exact n2 l o (.inr c) q
    have ho1 : h1.get? t = some o := (sb.2 t (nt t o hc ho).2).trans ho
    have hd1 : h1.DictOf knd d kvs := hd.sameBut sb nd
    refine wpAny_bind (wpAny_holding (wpAny_bind (wpAny_tryCatch ?_)))
    unfold Builtin.Dict.pairItems
    refine wpAny_bind (wpAny_typeOf (T := "tuple") ⟨o, ho1, hc⟩ ?_)
    rw [if_pos (by decide)]
    refine wpAny_bind (wpAny_seqItems ho1 hdt (wpAny_pure ?_))
    show wpAny _ _ (holding [key, kv.2] (dictSet d key kv.2)) _ _ _
    rw [List.length_cons] at hz hi
    refine wpAny_holding (wpAny_dictSet_pairs (s := { s with heap := h1 }) hk hd1 (fun h2 hd2 sb2 => ?_) (by omega))
    have kk : ∀ b o, b ≠ d → b ≠ it → s.heap.get? b = some o → h2.get? b = some o := fun b o n1 n2 q => (sb2.2 b n1).trans ((sb.2 b n2).trans q)
    have ln : (stored kvs kv.1 kv.2).length ≤ kvs.length + 1 := by
      unfold stored
      split
      · simp
      · simp
    refine wpAny_pure ⟨plainId_quiet plain_dul _, ih (i + 1) _ _ _ _ (by omega) hd2 (it1.at fun o q => (sb2.2 it (Ne.symm nd)).trans q) (hl.at fun o q => kk l o nl.1 nl.2 q) (fun m kv' e => ?_) (by omega) fun h3 t3 hd3 k3 => ?_⟩
    · obtain ⟨u', e1, e2⟩ := hp (m + 1) kv' e
      exact ⟨u', by rw [← e1]; congr 1; omega, e2.keep fun b o c q => kk b o (nt b o c q).1 (nt b o c q).2 q⟩
    · exact hR h3 t3 hd3 fun b o n1 n2 q => k3 b o n1 n2 (kk b o n1 n2 q)
theorem sub_ld : (Value.type "list" != Value.type "dict") = true := by decide
theorem call_dict_list {s : Shared} {l : Addr} {items : Array Value} {n : Nat} {more : List (K × Value)} {Q : Value → Shared → Prop} (knd : KeyKind prog w K) (hh : A.handled = none) (hx : s.heap.get? l = some { cls := .type "list", data := .seq items n })
    (hi : items.size = more.length) (hp : ∀ (m : Nat) kv, more[m]? = some kv → ∃ u, items[m]? = some u ∧ PairAt knd s.heap u kv) (hz : more.length ≤ sizeLine)
    (h : ∀ h' t', h'.DictOf knd s.heap.objs.size (more.foldl (fun a p => stored a p.1 p.2) []) → (∀ b o, s.heap.get? b = some o → h'.get? b = some o) → Q (.ref s.heap.objs.size) { s with heap := h', toks := t' }) :
    wpAny (model prog w) A (call (.type "dict") [.ref l]) Q E s := by
  refine callType_codes (Q₁ := fun obj s₁ => obj = .ref s.heap.objs.size ∧ s₁ = { s with heap := s.heap.push { cls := .type "dict", data := .dict #[] } }) F.kt_called_dict (F.kt_typeCall_dict_1 _) F.entry_dict_init (kt_code_dict_new _ ⟨rfl, rfl⟩) ?_
  rintro obj s₁ ⟨rfl, rfl⟩
  have new0 : (s.heap.push { cls := .type "dict", data := .dict #[] }).DictOf knd s.heap.objs.size [] := Heap.DictOf.new s.heap
  have l0 := Heap.get?_push_of_some { cls := .type "dict", data := .dict #[] } hx
  refine ⟨new0.typeIs, F.args_dict_init_2 _ _, ?_⟩
  unfold Builtin.«dict.__init__» Builtin.Dict.selfAndRest
  refine wpAny_bind (wpAny_bind (wpAny_notOrdered_dict new0.typeIs (wpAny_pure ?_)))
  show wpAny _ _ (Builtin.Dict.updateFrom "dict.__init__" s.heap.objs.size (.ref l) [] .none) _ _ _
  unfold Builtin.Dict.updateFrom
  refine wpAny_bind (wpAny_typeOf (T := "list") ⟨_, l0, rfl⟩ ?_)
  rw [if_pos sub_ld]
  refine wpAny_bind (keys_none l0 hh fun h1 t1 k1 => ?_)
  refine wpAny_bind (wpAny_rule ?_)
  have l1 := k1 _ _ l0
  refine wpAny_bind (wpAny_pyIter_list ⟨_, l1, rfl, _, rfl⟩ ?_)
  have k2 : ∀ b o, s.heap.get? b = some o → (h1.push { cls := .type "list_iterator", data := .fields #[.ref l, .int 0 0] }).get? b = some o := fun b o q => Heap.get?_push_of_some _ (k1 _ _ (Heap.get?_push_of_some _ q))
  refine wpAny_pure ⟨plainId_quiet plain_dul _, dul_go (knd := knd) (A := A.in1) (l := l) (items := items) (show A.in1.handled = none from hh) more 0 _ [] _ _ (by rw [hi, Nat.zero_add]) ?_ ⟨_, Heap.get?_push_size _ rfl, rfl, rfl⟩ ⟨_, k2 _ _ hx, rfl, n, rfl⟩ (fun m kv e => ?_) (by simpa using hz) fun h' t' hd k3 => ?_⟩
  · obtain ⟨o, es, ep, q, r⟩ := new0
    exact ⟨o, es, ep, Heap.get?_push_of_some _ (k1 _ _ q), r⟩
  · obtain ⟨u, e1, e2⟩ := hp m kv e
    exact ⟨u, by rw [Nat.zero_add]; exact e1, e2.keep fun b o _ q => k2 b o q⟩
  · refine ⟨rfl, h h' t' hd fun b o q => k3 b o (Nat.ne_of_lt (Heap.lt_size q)) ?_ (k2 b o q)⟩
    have := Heap.lt_size (k1 _ _ (Heap.get?_push_of_some { cls := .type "dict", data := .dict #[] } q))
    exact Nat.ne_of_lt this
end
end L2

set_option Elab.async false
set_option linter.all false
set_option maxRecDepth 100000
set_option maxHeartbeats 4000000
namespace L2
open PySem PySem.Spec PyProof.Rows




def PIfs (X : Cx) (ifs : List Expr) (t : TT) : Prop :=
  ∀ (pins : List (Addr × Obj)) (s : Shared) (σ : St) (H : Hp) (Q : Bool → Hp → Prop), Inv X pins σ H s → t σ H Q →
    wpAny (model X.prog X.w) X.A (forIn ifs true fun c r => if r = true then do let ok ← isTrue c X.env (eval c X.env); pure (ForInStep.yield ok) else pure (ForInStep.yield r)) (TP X pins σ Q) X.xe s
def tTrue : TT := fun _ H Q => Q true H
theorem pif_nil {X : Cx} : PIfs X [] tTrue := fun _ _ _ H _ I h => wpAny_tests_nil ⟨H, I, h⟩
theorem pif_one {X : Cx} {c : Expr} {t : TT} (h : PT X c t) : PIfs X [c] t := fun pins s σ H Q I hw => wpAny_tests_one (h pins s σ H Q I hw)


theorem compLoop_go {prog : Program} {w : World} {A : Around} {R : Result → Shared → Prop} {s : Shared} {elt target iter : Expr} {ifs : List Expr} {scope : Scope} {pos : Pos} {it acc : Value} {env : Env} (I : Nat → Shared → Prop)
    (turn : ∀ n s, I n s → wpAny (model prog w) A (pyNext it) (fun r s₁ => match r with
      | none => R (.ok .next) s₁
      | some v => wpAny (model prog w) A (letOwnedTupleGo target it v) (fun _ s₁ => wpAny (model prog w) A (assign target env v) (fun _ s₂ =>
          wpAny (model prog w) A (forIn ifs true fun c r => if r = true then do let ok ← isTrue c env (eval c env); pure (ForInStep.yield ok) else pure (ForInStep.yield r)) (fun ok s₃ =>
            if ok = true then wpAny (model prog w) A (eval elt env) (fun x s₄ =>
              wpAny (model prog w) A (call (.builtin "list.append") [acc, x]) (fun _ s₅ => ∃ m, m < n ∧ I m s₅) (fun _ _ => False) s₄) (fun _ _ => False) s₃
            else ∃ m, m < n ∧ I m s₃) (fun _ _ => False) s₂) (fun _ _ => False) s₁) (fun _ _ => False) s₁) (fun _ _ => False) s)
    (n : Nat) (h : I n s) :
    codeAny (model prog w) A (.compLoop (.ListComp elt [⟨target, iter, ifs, 0⟩] scope pos) 0 it acc env) R s := by
  refine codeAny_loop rfl I (fun n s hI => ?_) n h
  show wpAny _ A ((compTurn (.ListComp elt [⟨target, iter, ifs, 0⟩] scope pos) 0 it acc env).onRaise (fun x => do noteFrame x env; theTreesLotGoes x)) _ _ s
  refine wpAny_noted ?_
  rw [compTurn_list]
  refine wpAny_bind (wpAny_standAt (wpAny_bind (wpAny_mono (turn n s hI) (fun r s₁ h₁ => ?_) fun _ _ h' => h'.elim)))
  cases r with
  | none => exact wpAny_pure h₁
  | some v =>
    refine wpAny_bind (wpAny_mono h₁ (fun _ s₂ h₂ => ?_) fun _ _ h' => h'.elim)
    refine wpAny_bind (wpAny_mono h₂ (fun _ s₂ h₂ => wpAny_bind (wpAny_mono h₂ (fun ok s₃ h₃ => ?_) fun _ _ h' => h'.elim)) fun _ _ h' => h'.elim)
    cases ok with
    | false => exact wpAny_pure ⟨rfl, h₃⟩
    | true =>
      exact wpAny_bind (wpAny_bind (wpAny_mono h₃ (fun x s₄ h₄ => wpAny_bind (wpAny_mono h₄ (fun _ s₅ h₅ => wpAny_pure (wpAny_pure ⟨rfl, h₅⟩)) fun _ _ h' => h'.elim)) fun _ _ h' => h'.elim))


end L2

set_option Elab.async false
set_option linter.all false
set_option maxRecDepth 100000
set_option maxHeartbeats 4000000
namespace L2
open PySem PySem.Spec PyProof.Rows



inductive ClsOf (K : PySem.W.Frag) (H : Hp) : V → String → Prop where
  | bl (x : Bool) : ClsOf K H (.bl x) "bool"
  | int (i : Int) : ClsOf K H (.int i) "int"
  | str (x : Str) : ClsOf K H (.str x) "str"
  | tup {a : Addr} {xs : List V} (e : SqT K H a xs) : ClsOf K H (.ref a) "tuple"
theorem call_isinst {X : Cx} : CallR X (.builtin "isinstance") (fun xs H Q => ∃ x T n b, xs = [x, .ty n] ∧ ClsOf X.K H x T ∧ PySem.W.kitOne X.K (.type T) (.type n) = some b ∧ Q (.bl b) H) := by
  intro pins s σ H xs us Q I r h
  obtain ⟨x, T, n, b, rfl, ty, e, q⟩ := h
  obtain ⟨u, w', rfl, rx, rn⟩ := vals2 r
  cases (show w' = Value.type n from rn)
  have fin : ∀ tk, EP X pins σ Q (.bool b) { s with toks := tk } := fun tk => ⟨.bl b, H, I.tok _, rfl, q⟩
  cases ty with
  | bl y => cases (show u = Value.bool y from rx); exact PySem.W.kia_one PySem.W.kitx_bool I.kIn True.intro e (fun z => nomatch z) fin
  | int i => obtain ⟨t, z⟩ := (show ∃ t, u = Value.int i t from rx); cases z; exact PySem.W.kia_one PySem.W.kitx_int I.kIn True.intro e (fun z => nomatch z) fin
  | str y => obtain ⟨t, z⟩ := (show ∃ t, u = Value.str y t from rx); cases z; exact PySem.W.kia_one PySem.W.kitx_str I.kIn True.intro e (fun z => nomatch z) fin
  | @tup a ys hq =>
    cases (show u = Value.ref a from rx)
    obtain ⟨its, _, ⟨o, h1, h2, _⟩, _⟩ := I.tuple hq
    exact PySem.W.kia_one PySem.W.kitx_tuple I.kIn ⟨o, h1, h2⟩ e (fun z => nomatch z) fin


end L2

set_option Elab.async false
set_option linter.all false
set_option maxRecDepth 100000
set_option maxHeartbeats 4000000
namespace L2
open PySem
structure Clos (env : Env) (scope : Scope) (cl : List (Str × Addr)) : Prop where
  eq : closureFor scope env = pure cl
  sub : ∀ y c, cl.lookup y = some c → env.cells.lookup y = some c
  all : ∀ y, (y, NameKind.free) ∈ scope.names → ∃ c, cl.lookup y = some c
theorem lookup_put {y n : Str} {c : Addr} {l : List (Str × Addr)} : ((n, c) :: l).lookup y = if y = n then some c else l.lookup y := by
  by_cases h : y = n
  · rw [if_pos h]; simp [List.lookup, h]
  · rw [if_neg h]; simp [List.lookup, beq_eq_false_iff_ne.mpr h]
theorem clos_of {env : Env} {scope : Scope} (h : ∀ y, (y, NameKind.free) ∈ scope.names → ∃ c, env.cells.lookup y = some c) : ∃ cl, Clos env scope cl := by
  have go : ∀ (names : List (Str × NameKind)) (acc : List (Str × Addr)), (∀ y, (y, NameKind.free) ∈ names → ∃ c, env.cells.lookup y = some c) → (∀ y c, acc.lookup y = some c → env.cells.lookup y = some c) →
      ∃ cl, (forIn names acc fun (x : Str × NameKind) (cs : List (Str × Addr)) => (if x.2 == .free then do let c ← cellOf env x.1; pure (ForInStep.yield ((x.1, c) :: cs)) else pure (ForInStep.yield cs) : Sem (ForInStep (List (Str × Addr))))) = pure cl ∧
        (∀ y c, cl.lookup y = some c → env.cells.lookup y = some c) ∧ (∀ y, (y, NameKind.free) ∈ names → ∃ c, cl.lookup y = some c) ∧ ∀ y c, acc.lookup y = some c → ∃ c', cl.lookup y = some c' := by
    intro names
    induction names with
    | nil => intro acc _ hs; exact ⟨acc, rfl, hs, fun y hy => absurd hy (by simp), fun y c e => ⟨c, e⟩⟩
    | cons x r ih =>
      intro acc hf hs
      obtain ⟨n, k⟩ := x
      rw [List.forIn_cons]
      by_cases hk : k = .free
      · subst hk
        obtain ⟨c0, e0⟩ := hf n List.mem_cons_self
        obtain ⟨cl, e1, e2, e3, e4⟩ := ih ((n, c0) :: acc) (fun y hy => hf y (List.mem_cons_of_mem _ hy)) (fun y c e => by
          rw [lookup_put] at e
          by_cases z : y = n
          · rw [if_pos z] at e; cases e; rw [z]; exact e0
          · rw [if_neg z] at e; exact hs y c e)
        refine ⟨cl, ?_, e2, fun y hy => ?_, fun y c e => ?_⟩
        · rw [← e1]
          have : cellOf env n = pure c0 := by unfold cellOf; rw [e0]
          simp only [this]
          rfl
        · rcases List.mem_cons.mp hy with z | z
          · cases z; exact e4 n c0 (by rw [lookup_put, if_pos rfl])
          · exact e3 y z
        · by_cases z : y = n
          · exact e4 y c0 (by rw [lookup_put, if_pos z])
          · exact e4 y c (by rw [lookup_put, if_neg z]; exact e)
      · obtain ⟨cl, e1, e2, e3, e4⟩ := ih acc (fun y hy => hf y (List.mem_cons_of_mem _ hy)) hs
        refine ⟨cl, ?_, e2, fun y hy => ?_, e4⟩
        · rw [← e1]
          have : (k == NameKind.free) = false := by simpa using hk
          simp only [this]
          rfl
        · rcases List.mem_cons.mp hy with z | z
          · cases z; exact absurd rfl hk
          · exact e3 y z
  obtain ⟨cl, e1, e2, e3, _⟩ := go scope.names [] h (fun y c e => by simp at e)
  refine ⟨cl, ?_, e2, e3⟩
  unfold closureFor
  exact Eq.trans (congrArg (fun t : Sem (List (Str × Addr)) => t >>= fun cs => pure cs) e1) rfl
theorem relabel_free {scope : Scope} {env : Env} {y : Str} (hk : env.scope.kind = .function) (hy : scope.names.lookup y = some .free) (he : env.kindOf y = some .cell) : (relabel scope env).names.lookup y = some .cell := by
  have go : ∀ l : List (Str × NameKind), l.lookup y = some .free → (l.map fun (x : Str × NameKind) => if (x.2 == NameKind.free && env.scope.kind == .function && env.kindOf x.1 == some .cell) then (x.1, NameKind.cell) else (x.1, x.2)).lookup y = some .cell := by
    intro l
    induction l with
    | nil => intro z; cases z
    | cons x r ih =>
      obtain ⟨n, k⟩ := x
      intro hy
      rw [List.map_cons]
      by_cases z : y = n
      · subst z
        simp [List.lookup] at hy
        subst hy
        simp [List.lookup, hk, he]
      · have zb : (y == n) = false := beq_eq_false_iff_ne.mpr z
        simp only [List.lookup, zb] at hy
        have := ih hy
        dsimp only
        split <;> simp only [List.lookup, zb] <;> exact this
  exact go _ hy
theorem mem_lk {α : Type} {y : Str} {v : α} : ∀ {l : List (Str × α)}, l.lookup y = some v → (y, v) ∈ l
  | [], h => by cases h
  | (n, u) :: r, h => by
    by_cases z : y = n
    · subst z
      simp [List.lookup] at h
      subst h
      exact List.mem_cons_self
    · have zb : (y == n) = false := beq_eq_false_iff_ne.mpr z
      simp only [List.lookup, zb] at h
      exact List.mem_cons_of_mem _ (mem_lk h)
theorem relabel_kind {scope : Scope} {env : Env} {y : Str} {k : NameKind} (h : (relabel scope env).names.lookup y = some k) (hk : k = .cell ∨ k = .free) (hc : ∀ z ∈ scope.names, z.2 ≠ .cell) : (y, NameKind.free) ∈ scope.names := by
  have m := mem_lk h
  unfold relabel at m
  obtain ⟨⟨n, k'⟩, m1, m2⟩ := List.mem_map.mp m
  dsimp only at m2
  split at m2
  · rename_i q
    cases m2
    simp at q
    obtain ⟨⟨q, _⟩, _⟩ := q
    subst q
    exact m1
  · cases m2
    rcases hk with hk | hk
    · exact absurd hk (hc _ m1)
    · rw [← hk]; exact m1
end L2

set_option Elab.async false
set_option linter.all false
set_option maxRecDepth 100000
set_option maxHeartbeats 4000000
namespace L2
open PySem PySem.Spec PyProof.Rows

def cxD (X : Cx) (scope : Scope) (cl : List (Str × Addr)) (C : Addr) (s1 : Shared) (H1 : Hp) (N : List Str) (fp : List Addr) : Cx :=
  { X with N := N, s₀ := s1, H₀ := H1, env := compEnvC scope cl C X.env, outer := X.stack, stack := X.stack, ex := fp, fn := fun _ => false, pn := [], xe := fun _ _ => False }
structure Caps (X : Cx) (scope : Scope) (js : List (Nat × Str)) : Prop where
  at_ : ∀ p ∈ js, X.N[p.1]? = some p.2 ∧ X.env.scope.names.lookup p.2 = some .cell ∧ scope.names.lookup p.2 = some .free
  all : ∀ y, (y, NameKind.free) ∈ scope.names → X.env.scope.names.lookup y = some .cell
def capS (ts : List Str) (js : List (Nat × Str)) (σ : St) : St := ts.map (fun _ => none) ++ js.map fun p => (σ[p.1]?).join

theorem inv_compG {X : Cx} {pins : List (Addr × Obj)} {σ : St} {H : Hp} {s1 s4 : Shared} {scope : Scope} {ts : List Str} {js : List (Nat × Str)} {cl : List (Str × Addr)} {fp : List Addr} {C : Addr} {m : Str → Option Value}
    (I : Inv X pins σ H s1) (hf : ∀ b ∈ fp, FpOk X pins H b) (hfl : ∀ b ∈ fp, b < s1.heap.objs.size) (hkind : scope.kind = .function) (hcell : ∀ y ∈ scope.names, y.2 ≠ .cell) (cp : Caps X scope js) (hcl : Clos X.env scope cl)
    (hC : s1.heap.objs.size < C) (ho : s4.os = s1.os) (hg : s4.gens = s1.gens) (old : ∀ b o, s1.heap.get? b = some o → s4.heap.get? b = some o) (hn : s4.heap.Ns C m)
    (hD : s4.heap.get? s1.heap.objs.size = some { cls := .type "list", data := .seq ([] : List Value).toArray 0 }) :
    Inv (cxD X scope cl C s1 H (ts ++ js.map (·.2)) fp) [] (capS ts js σ) (upd H s1.heap.objs.size (.lst [])) s4 := by
  have xk : X.env.scope.kind = .function := I.ok.kind
  have has : ∀ y, ((relabel scope X.env).names.lookup y = some .cell ∨ (relabel scope X.env).names.lookup y = some .free) → ∃ c, cl.lookup y = some c := fun y hy => hcl.all y (by
    rcases hy with hy | hy
    · exact relabel_kind hy (.inl rfl) hcell
    · exact relabel_kind hy (.inr rfl) hcell)
  have lt : ∀ y c, cl.lookup y = some c → c < s1.heap.objs.size := fun y c e => by
    obtain ⟨v, o, ho, _⟩ := I.cell y c (hcl.sub y c e)
    exact Heap.lt_size ho
  refine ⟨⟨I.ok.mod, hkind, I.ok.glob, I.ok.blt, Nat.le_of_lt hC, fun y z c h1 h2 => I.ok.inj y z c (hcl.sub _ _ h1) (hcl.sub _ _ h2), has, fun y c h _ => absurd (show false = true from h) Bool.false_ne_true, I.ok.hd, I.ok.frames, .inl rfl,
      fun b hb => ⟨Nat.ne_of_lt (Nat.lt_trans (hfl b hb) hC), fun y c h => (hf b hb).2.2.2.2.1 y c (hcl.sub _ _ h)⟩, I.bs, Nat.le_trans I.ok.bsz I.sz, fun b o e hb => ?_, fun b hb => ?_, I.stack, I.stkFree⟩,
    ho, ?_, Un.laid old (Nat.le_refl _) I.fresh, ⟨m, hn, fun i y v e1 e2 _ => ?_⟩, fun y c h => ?_, ?_, fun y c h => ?_, fun p hp => absurd (show p ∈ ([] : List (Addr × Obj)) from hp) (by simp), I.hok.laid old (Nat.le_refl _) ?_, ?_⟩
  · obtain ⟨_, _, _, h4, _⟩ := hf b hb
    rcases h4 with h4 | h4
    · exact I.ok.noex b o e h4
    · exact absurd (Nat.lt_of_lt_of_le (Heap.lt_size (I.ok.bs b o e).1) h4) (Nat.lt_irrefl _)
  · intro hb'
    obtain ⟨_, h2, h3, _⟩ := hf b hb
    rcases List.mem_cons.mp (I.stkSub b hb') with z | z
    · exact h2 z
    · exact h3 z
  · rw [hg]; exact I.bare
  · have e1' : (ts ++ js.map (·.2))[i]? = some y := e1
    have e2' : (ts.map (fun _ => (none : Option V)) ++ js.map fun p => (σ[p.1]?).join)[i]? = some (some v) := e2
    by_cases hi : i < ts.length
    · rw [List.getElem?_append_left (by simpa using hi)] at e2'
      simp [hi] at e2'
    · rw [List.getElem?_append_right (by omega)] at e1'
      rw [List.getElem?_append_right (by simpa using Nat.le_of_not_lt hi)] at e2'
      rw [List.length_map] at e2'
      rw [List.getElem?_map] at e1' e2'
      cases hj : js[i - ts.length]? with
      | none => rw [hj] at e1'; cases e1'
      | some p =>
        rw [hj] at e1' e2'
        simp only [Option.map_some, Option.some.injEq] at e1' e2'
        obtain ⟨a1, a2, a3⟩ := cp.at_ p (List.mem_of_getElem? hj)
        subst e1'
        have es : σ[p.1]? = some (some v) := by
          cases q : σ[p.1]? with
          | none => rw [q] at e2'; cases e2'
          | some z => rw [q] at e2'; exact congrArg some e2'
        obtain ⟨m0, hn0, lk⟩ := I.loc
        obtain ⟨u, ru, l⟩ := lk p.1 p.2 v a1 es (.inr (.inl a2))
        rcases l with l | ⟨_, c, ec, o, hc, hd⟩
        · have l1 : X.env.scope.names.lookup p.2 = some .local := l.1
          rw [a2] at l1; cases l1
        · obtain ⟨c', ec'⟩ := hcl.all p.2 (mem_lk a3)
          have e3 := hcl.sub _ _ ec'
          rw [ec] at e3
          cases e3
          exact ⟨u, ru, .inr ⟨.inl (relabel_free xk a3 a2), c, ec', o, old _ _ hc, hd⟩⟩
  · obtain ⟨v, o, h1, h2⟩ := I.cell y c (hcl.sub y c h)
    exact ⟨v, o, old _ _ h1, h2⟩
  · show upd H s1.heap.objs.size (.lst []) C = none
    rw [upd_ne (Nat.ne_of_gt hC)]
    exact I.hok.fresh (Nat.le_of_lt hC)
  · show upd H s1.heap.objs.size (.lst []) c = none
    rw [upd_ne (Nat.ne_of_lt (lt y c h))]
    exact I.freeC y c (hcl.sub y c h)
  · exact ⟨by show 0 ≤ sizeLine; decide, [], 0, .nil, hD⟩
  · show (capS ts js σ).length = (ts ++ js.map (·.2)).length
    simp [capS]

def tCompG (wi : TI) (ts : List Str) (js : List (Nat × Str)) (g : TG) (tif : TT) (te : TE) : TE := fun σ H Q => wi σ H fun J H1 => ∀ D, H1 D = none → ∃ W : Nat → Nat → List V → St → Hp → Prop, (∃ m, W 0 m [] (capS ts js σ) (upd H1 D (.lst []))) ∧
  ∀ i m ys σ' H, W i m ys σ' H → (J.stop i H ∧ Q (.ref D) H) ∨ (J.go i H ∧ ∃ m', m' < m ∧ ∀ x H', J.yld i H x H' → g x σ' H' fun σ2 H2 => tif σ2 H2 fun b H3 =>
    if b = true then te σ2 H3 fun y H4 => H4 D = some (.lst ys) ∧ ys.length < sizeLine ∧ W (i + 1) m' (ys ++ [y]) σ2 (upd H4 D (.lst (ys ++ [y]))) else W (i + 1) m' ys σ2 H3)

theorem pe_compG {X : Cx} {elt iter tg : Expr} {ifs : List Expr} {scope : Scope} {pos : Pos} {wi : TI} {g : TG} {tif : TT} {te : TE} (ts : List Str) (js : List (Nat × Str)) (hc : X.calm = true) (hi : PI X tg iter wi)
    (cp : Caps X scope js) (hcell : ∀ y ∈ scope.names, y.2 ≠ .cell) (hkind : scope.kind = .function)
    (hnames : ∀ y ∈ scope.names, y.2 = .local → scope.names.lookup y.1 = some .local)
    (hg : ∀ cl C s1 H1 fp, PG (cxD X scope cl C s1 H1 (ts ++ js.map (·.2)) fp) tg g)
    (hif : ∀ cl C s1 H1 fp, PIfs (cxD X scope cl C s1 H1 (ts ++ js.map (·.2)) fp) ifs tif) (he : ∀ cl C s1 H1 fp, PE (cxD X scope cl C s1 H1 (ts ++ js.map (·.2)) fp) elt te)
    (hs : ∀ x, foldedSetIterable iter X.env x = pure x := by intro _; rfl) :
    PE X (.ListComp elt [⟨tg, iter, ifs, 0⟩] scope pos) (tCompG wi ts js g tif te) := by
  intro pins s σ H Q I h
  rw [eval_ListComp]
  obtain ⟨cl, hcl⟩ := clos_of (env := X.env) (scope := scope) fun y hy => I.ok.has y (.inl (cp.all y hy))
  refine wpAny_comprehension_free (use := none) rfl hs hcl.eq hkind hnames (thn (hi pins s σ H _ I h) fun v s1 h1 => thn h1 fun itv s2 h2 => ?_)
  obtain ⟨it, fp, tn, J, H2, e, I2, T, st2, f2, h2⟩ := h2
  subst e
  obtain ⟨W, ⟨m0, w0⟩, turn⟩ := h2 s2.heap.objs.size I2.fresh
  have hfl : ∀ b ∈ fp, b < s2.heap.objs.size := fun b hb => by obtain ⟨o, e, _⟩ := T.obj _ _ st2 b hb; exact Heap.lt_size e
  refine wpAny_newObj_type (wpAny_newFunctionEnv hcell (by intro y hy; simp at hy) (fun h₁ hns₁ hsb₁ => ?_) hkind)
  dsimp only at hns₁ hsb₁ ⊢
  generalize hH2 : s2.heap.push { cls := .type "list", dict := none, data := .seq ([] : List Value).toArray } = G2 at hns₁ hsb₁ ⊢
  have hCs : G2.objs.size = s2.heap.objs.size + 1 := by rw [← hH2, Heap.size_push]
  have hDC : s2.heap.objs.size ≠ G2.objs.size := by rw [hCs]; exact Nat.ne_of_lt (Nat.lt_succ_self _)
  have old : ∀ b o, s2.heap.get? b = some o → h₁.get? b = some o := fun b o e =>
    hsb₁.extBut b o (by rw [hCs]; exact Nat.ne_of_lt (Nat.lt_succ_of_lt (Heap.lt_size e))) (Heap.get?_push_of_some _ (hH2 ▸ Heap.get?_push_of_some _ e))
  have hacc : h₁.get? s2.heap.objs.size = some { cls := .type "list", data := .seq ([] : List Value).toArray 0 } := hsb₁.extBut _ _ hDC (Heap.get?_push_of_some _ (hH2 ▸ Heap.get?_push_size _ rfl))
  generalize hX2 : cxD X scope cl G2.objs.size s2 H2 (ts ++ js.map (·.2)) fp = X2
  have I4 : Inv X2 [] (capS ts js σ) (upd H2 s2.heap.objs.size (.lst [])) { s2 with heap := h₁, toks := s2.toks + ([] : List (Str × Value)).length } := by
    rw [← hX2]
    exact inv_compG I2 f2 hfl hkind hcell cp hcl (by rw [hCs]; exact Nat.lt_succ_self _) rfl rfl old hns₁ hacc
  have x1 : X2.prog = X.prog := by rw [← hX2]; rfl
  have x2 : X2.w = X.w := by rw [← hX2]; rfl
  have x3 : X2.K = X.K := by rw [← hX2]; rfl
  have x4 : X2.calm = true := by rw [← hX2]; exact hc
  have x5 : X2.A = X.A := by rw [← hX2]; rfl
  have x6 : X2.env = compEnvC scope cl G2.objs.size X.env := by rw [← hX2]; rfl
  have x7 : X2.xe = fun _ _ => False := by rw [← hX2]; rfl
  have hg' : PG X2 tg g := by rw [← hX2]; exact hg _ _ _ _ _
  have hif' : PIfs X2 ifs tif := by rw [← hX2]; exact hif _ _ _ _ _
  have he' : PE X2 elt te := by rw [← hX2]; exact he _ _ _ _ _
  have st4 : tn 0 h₁ := T.keep _ _ _ st2 fun b _ o e => old b o e
  have stat : ∀ {H' : Hp} {pins' : List (Addr × Obj)}, (∀ b ∈ fp, H' b = none) → (∀ p ∈ pins', p.1 ∉ fp) → ∀ b ∈ fp, FpOk X2 pins' H' b := fun {H' pins'} hn hp b hb => by
    have o4 := I4.ok
    subst hX2
    exact ⟨hn b hb, (o4.exf b hb).1, o4.exfs b hb, .inl hb, (o4.exf b hb).2, fun p hp' => by
      have hp2 : p ∈ ([] : List (Addr × Obj)) ++ pins' := hp'
      rw [List.nil_append] at hp2
      intro z; exact hp p hp2 (by rw [z]; exact hb)⟩
  -- the end of the block
  have fin : ∀ {s' : Shared} {σ' : St} {H' : Hp}, Inv X2 [] σ' H' s' → Q (.ref s2.heap.objs.size) H' →
      compPost (model X.prog X.w) X.A X.xe none (EP X pins σ Q) (.ref s2.heap.objs.size) G2.objs.size (.ok .next) s' := fun {s' σ' H'} J' q => by
    subst hX2
    obtain ⟨m', hn', _⟩ := J'.loc
    refine ⟨m', hn', fun h' hs' => ?_⟩
    have u : Un (frs X.stack) fp H2 H' s2.heap s'.heap := J'.base
    have nC : ∀ b o, s2.heap.get? b = some o → b ≠ G2.objs.size := fun b o e => by rw [hCs]; exact Nat.ne_of_lt (Nat.lt_succ_of_lt (Heap.lt_size e))
    have u' : Un (frs X.stack) fp H2 H' s2.heap h' := ⟨fun b o e n hb hx => (hs'.2 b (nC b o e)).trans (u.keep b o e n hb hx), fun b o e n hb hx => by
        obtain ⟨sl, z⟩ := u.slot b o e n hb hx
        exact ⟨sl, (hs'.2 b (nC b o e)).trans z⟩, u.free, fun b o e hx => by
        obtain ⟨o', z⟩ := u.there b o e hx
        exact ⟨o', (hs'.2 b (nC b o e)).trans z⟩, u.tups, u.frzs, u.tbls⟩
    have hok : HOk X.prog X.w H' h' := fun b ob e => by
      refine (J'.hok b ob e).stay (fun c w' hc' q' => (hs'.2 c ?_).trans q') (fun _ q => q) fun _ _ q => q
      intro z
      have fr : H' G2.objs.size = none := J'.free
      rcases hc' with z' | z'
      · rw [← z'] at e; rw [z, fr] at e; cases e
      · rw [z, fr] at z'; cases z'
    have I5 : Inv X pins σ H' { s' with heap := h' } := I2.call' (s' := { s' with heap := h' }) J'.os u' hok J'.bare fun b hb => by
      obtain ⟨_, f1, _, f3, f4, f5⟩ := f2 b hb
      exact ⟨f3, f1, f4, f5⟩
    exact ⟨.ref s2.heap.objs.size, H', I5, rfl, q⟩
  have loop : ∀ s₃ : Shared, s₃ = { s2 with heap := h₁, toks := s2.toks + ([] : List (Str × Value)).length } →
      codeAny (model X.prog X.w) X.A (.compLoop (.ListComp elt [⟨tg, iter, ifs, 0⟩] scope pos) 0 (.ref it) (.ref s2.heap.objs.size) (compEnvC scope cl G2.objs.size X.env))
        (compPost (model X.prog X.w) X.A X.xe none (EP X pins σ Q) (.ref s2.heap.objs.size) G2.objs.size) s₃ := by
    rintro s₃ rfl
    subst hX2
    refine compLoop_go (fun n s' => ∃ i ys σ' H', Inv (cxD X scope cl G2.objs.size s2 H2 (ts ++ js.map (·.2)) fp) [] σ' H' s' ∧ tn i s'.heap ∧ (∀ b ∈ fp, H' b = none) ∧ W i n ys σ' H') ?_ m0
      ⟨0, [], _, _, I4, st4, fun b hb => by rw [upd_ne (Nat.ne_of_lt (hfl b hb))]; exact (f2 b hb).1, w0⟩
    rintro n s' ⟨i, ys, σ0, H', J', st', fr', w'⟩
    rcases turn i n ys σ0 H' w' with ⟨stop, q⟩ | ⟨go, m', hm, step⟩
    · refine wpAny_mono (T.done (cxD X scope cl G2.objs.size s2 H2 (ts ++ js.map (·.2)) fp) rfl rfl rfl hc i [] s' _ H' (fun _ _ => False) J' (stat fr' (by simp)) st' stop) (fun r s4 ⟨hr, J4⟩ => ?_) fun _ _ z => z
      subst hr
      exact fin J4 q
    · refine wpAny_mono (T.item (cxD X scope cl G2.objs.size s2 H2 (ts ++ js.map (·.2)) fp) rfl rfl rfl hc i [] s' _ H' (fun _ _ => False) J' (stat fr' (by simp)) st' go) (fun r s4 ⟨u, hr, h4⟩ => ?_) fun _ _ z => z
      subst hr
      refine wpAny_mono h4 (fun _ s5 ⟨xv, H5, J5, r5, y5, st5, fr5⟩ => ?_) fun _ _ z => z
      have J5' := J5.pinned (stat fr5 (by simp)) (T.obj _ _ st5)
      have back : ∀ {s7 : Shared} {σ7 : St} {H7 : Hp}, Inv (cxD X scope cl G2.objs.size s2 H2 (ts ++ js.map (·.2)) fp) ([] ++ pinsAt fp s5.heap) σ7 H7 s7 → Inv (cxD X scope cl G2.objs.size s2 H2 (ts ++ js.map (·.2)) fp) [] σ7 H7 s7 ∧ tn (i + 1) s7.heap ∧ ∀ b ∈ fp, H7 b = none := fun {s7 σ7 H7} J7 => by
        refine ⟨J7.unpinned, T.keep _ _ _ st5 fun b hb o e => (J7.pin (b, o) (List.mem_append_right _ (List.mem_append_right _ (mem_pinsAt hb e)))).1, fun b hb => ?_⟩
        obtain ⟨o, e, d⟩ := T.obj _ _ st5 b hb
        exact (J7.pin (b, o) (List.mem_append_right _ (List.mem_append_right _ (mem_pinsAt hb e)))).2.1
      show wpAny _ _ (assign tg (cxD X scope cl G2.objs.size s2 H2 (ts ++ js.map (·.2)) fp).env u) _ _ s5
      refine wpAny_mono (hg' _ s5 _ H5 xv u _ J5' r5 (step xv H5 y5)) (fun _ s6 ⟨σ6, H6, J6, q6⟩ => ?_) fun _ _ z => z
      refine wpAny_mono (hif' _ s6 _ H6 _ J6 q6) (fun b s7 ⟨H7, J7, q7⟩ => ?_) fun _ _ z => z
      cases b with
      | false =>
        rw [if_neg Bool.false_ne_true] at q7 ⊢
        obtain ⟨J8, st8, fr8⟩ := back J7
        exact ⟨m', hm, i + 1, ys, σ6, H7, J8, st8, fr8, q7⟩
      | true =>
        rw [if_pos rfl] at q7 ⊢
        refine wpAny_mono (he' _ s7 _ H7 _ J7 q7) (fun yv s8 ⟨y, H8, J8, r8, hD8, hz8, w8⟩ => ?_) fun _ _ z => z
        refine wpAny_mono (mt_append (X := cxD X scope cl G2.objs.size s2 H2 (ts ++ js.map (·.2)) fp) _ s8 _ H8 (.ref s2.heap.objs.size) [y] (.ref s2.heap.objs.size) [yv] (fun v H' => W (i + 1) m' (ys ++ [y]) σ6 H') J8 rfl (.cons r8 .nil) ⟨s2.heap.objs.size, ys, y, rfl, rfl, hD8, hz8, w8⟩)
          (fun _ s9 ⟨_, H9, J9, _, w9⟩ => ?_) fun _ _ z => z
        obtain ⟨J10, st10, fr10⟩ := back J9
        exact ⟨m', hm, i + 1, ys ++ [y], σ6, H9, J10, st10, fr10, w9⟩
  exact codeAny_compStart_list (loop _ rfl) (T.self _ _ _ _ _ st4 (loop _ rfl))
end L2

set_option Elab.async false
set_option linter.all false
set_option maxRecDepth 100000
set_option maxHeartbeats 4000000
namespace L2
open PySem PySem.Spec PyProof.Rows

def Ite (K : PySem.W.Frag) (a : Addr) : It :=
  ⟨fun i H => ∃ xs x, SqL K H a xs ∧ xs[i]? = some x, fun i H x H' => ∃ t y, x = .ref t ∧ H t = none ∧ H' = upd H t (.tup [.int (i : Int), y]) ∧ ∀ xs, SqL K H a xs → xs[i]? = some y, fun i H => ∃ xs, SqL K H a xs ∧ xs.length ≤ i⟩
theorem turn_enum {P : Program} {w : World} {K : PySem.W.Frag} {elts : List Expr} {k : Nat} {tpos : Pos} (a e it : Addr) (hei : e ≠ it) :
    Turn P w K (.Tuple elts k tpos) (Ite K a) [e, it] e (fun i h => (∃ old, IsEnum h e it i old) ∧ h.IsListIter it a i) where
  mem := by simp
  obj := fun i h st b hb => by
    obtain ⟨⟨old, he⟩, o, e1, c, d⟩ := st
    rcases List.mem_cons.mp hb with rfl | hb
    · exact ⟨_, he, fun v z => by cases z⟩
    · obtain rfl : b = it := by simpa using hb
      exact ⟨o, e1, fun v z => by rw [d] at z; cases z⟩
  keep := fun i h h' st k => ⟨⟨st.1.choose, k e (by simp) _ st.1.choose_spec⟩, st.2.at fun o q => k it (by simp) o q⟩
  item := by
    intro X hP hw hK hc i pins s σ H E I hf st hg
    subst hP hw hK
    obtain ⟨xs, x, hq, hx⟩ := hg
    obtain ⟨its, rv, p, hz⟩ := I.list hq
    obtain ⟨u, hu, ru⟩ := rv.get hx
    obtain ⟨⟨old, he⟩, hit⟩ := st
    refine wpAny_pyNext_enum_item he hit p.isList (x := u) (by simpa using hu) hei fun h1 ho hit1 hT hsz hk => ?_
    refine ⟨_, rfl, wpAny_letOwnedTupleGo_enum ho fun h2 he2 sb => ?_⟩
    have ne : s.heap.objs.size ≠ e := Nat.ne_of_gt (Heap.lt_size he)
    have kk : ∀ b o, b ≠ e → b ≠ it → s.heap.get? b = some o → h2.get? b = some o := fun b o n1 n2 q => (sb.2 b n1).trans (hk b o n1 n2 q)
    have T2 : h2.get? s.heap.objs.size = some { cls := .type "tuple", data := .seq #[.int i s.toks, u] } := (sb.2 _ ne).trans hT
    have fe := hf e (by simp)
    have fi := hf it (by simp)
    have fT : H s.heap.objs.size = none := I.hok.fresh (Nat.le_refl _)
    have tr : ∀ b v, H b = some v → b ≠ e ∧ b ≠ it := fun b v q => ⟨fun z => (by rw [z, fe.1] at q; cases q), fun z => (by rw [z, fi.1] at q; cases q)⟩
    have nc : ∀ b, b ∉ [e, it] → b ≠ e ∧ b ≠ it := fun b z => ⟨fun q => z (by simp [q]), fun q => z (by simp [q])⟩
    have lt : ∀ b o, s.heap.get? b = some o → b ≠ s.heap.objs.size := fun b o q => Nat.ne_of_lt (Heap.lt_size q)
    have I2 : Inv X pins σ (upd H s.heap.objs.size (.tup [.int (i : Int), x])) { s with heap := h2, toks := s.toks + 1 } := by
      refine I.call (g' := s.gens) (t' := s.toks + 1) (d' := s.drawn) (ch := [e, it]) ⟨fun b o q _ _ c => kk b o (nc b c).1 (nc b c).2 q, fun b o q _ _ c => ⟨o.slots, kk b o (nc b c).1 (nc b c).2 q⟩,
        fun b o q n _ => by rw [upd_ne (lt b o q)]; exact n, fun b o q c => ⟨o, kk b o (nc b c).1 (nc b c).2 q⟩, fun b ys q => by rw [upd_ne (ne_of_none q fT)]; exact q, fun b o v q => by rw [upd_ne (ne_of_none q fT)]; exact q,
        fun b ps q => ⟨#[], by rw [upd_ne (ne_of_none q fT), q]; simp⟩⟩ (fun b v q => ?_) I.bare (fun b hb => ?_)
      · by_cases hb : b = s.heap.objs.size
        · subst hb
          rw [upd_same] at q
          cases q
          exact ⟨by show 2 ≤ sizeLine; decide, [.int i s.toks, u], .cons ⟨_, rfl⟩ (.cons ru .nil), _, T2, rfl, _, rfl⟩
        · rw [upd_ne hb] at q
          refine (I.hok b v q).stay (fun c o hc' z => ?_) (fun c q' => by rw [upd_ne (ne_of_none q' fT)]; exact q') fun c ys q' => by rw [upd_ne (ne_of_none q' fT)]; exact q'
          rcases hc' with rfl | hc'
          · exact kk c o (tr c _ q).1 (tr c _ q).2 z
          · exact kk c o (tr c _ hc').1 (tr c _ hc').2 z
      · rcases List.mem_cons.mp hb with rfl | hb
        · exact ⟨fe.2.2.2.1, fe.2.1, fe.2.2.2.2.1, fe.2.2.2.2.2⟩
        · obtain rfl : b = it := by simpa using hb
          exact ⟨fi.2.2.2.1, fi.2.1, fi.2.2.2.2.1, fi.2.2.2.2.2⟩
    refine ⟨.ref s.heap.objs.size, _, I2, rfl, ⟨_, x, rfl, fT, rfl, fun ys hy => by rw [I.list_inj hy hq]; exact hx⟩, ⟨⟨_, he2⟩, hit1.at fun o q => (sb.2 it hei.symm).trans q⟩, fun b hb => ?_⟩
    have hb' : H b = none ∧ ∃ o, s.heap.get? b = some o := by
      rcases List.mem_cons.mp hb with rfl | hb
      · exact ⟨fe.1, _, he⟩
      · obtain rfl : b = it := by simpa using hb
        obtain ⟨o, q, _⟩ := hit
        exact ⟨fi.1, o, q⟩
    obtain ⟨n, o, q⟩ := hb'
    rw [upd_ne (lt b o q)]
    exact n
  done := by
    intro X hP hw hK hc i pins s σ H E I hf st hg
    subst hP hw hK
    obtain ⟨xs, hq, hx⟩ := hg
    obtain ⟨its, rv, p, hz⟩ := I.list hq
    obtain ⟨⟨old, he⟩, hit⟩ := st
    obtain ⟨f0, f1, f2, f3, f4, f5⟩ := hf it (by simp)
    have hl := rv.length
    exact wpAny_pyNext_enum_end (I.ok.hd hc) he hit p.isList (by simp; omega) fun h' eb => ⟨rfl, I.turned (t' := s.toks) (fun b o hb e => eb b o hb e) f0 f1 f3 f4 f5⟩
  self := fun _ _ _ _ _ st h => wpAny_pyIter_enum st.1.choose_spec h
theorem boot_enum : bootBuiltins "enumerate" = some (.type "enumerate") := by decide +kernel
def iEnum (K : PySem.W.Frag) (ta : TA) : TI := fun σ H R => ta σ H fun vs H1 => ∃ a xs, vs = [.ref a] ∧ SqL K H1 a xs ∧ R (Ite K a) H1
theorem pi_enum {X : Cx} {elts : List Expr} {k : Nat} {tpos : Pos} {l : Expr} {ta : TA} {p pos : Pos} (hg : Gl X "enumerate") (hm : X.mg "enumerate" = none) (ha : PA X [l] ta) (hs : starEach [l] X.env = [(false, eval l X.env)] := by rfl) :
    PI X (.Tuple elts k tpos) (.Call (.Name "enumerate" p) [l] [] pos) (iEnum X.K ta) := by
  intro pins s σ H R I h
  refine Call_ (ld_blt I hg hm boot_enum (PyProof.Rows.callWith_type1 (thn (ha pos pins s σ H _ I h) fun us s1 ⟨vs, H1, I1, r1, q1⟩ => ?_) hs rfl))
  obtain ⟨a, xs, e, hq, q⟩ := q1
  subst e
  obtain ⟨u, rfl, rx⟩ := r1.one
  cases rx
  obtain ⟨its, rv, pl, hz⟩ := I1.list hq
  refine call_enumerate_list pl.isList fun h1 he hit hsz hk => wpAny_pyIter_enum he ?_
  refine ⟨s1.heap.objs.size + 1, [s1.heap.objs.size + 1, s1.heap.objs.size], _, _, H1, rfl, I1.kept (t' := s1.toks) fun b o e => hk b o e, turn_enum a _ _ (Nat.ne_of_gt (Nat.lt_succ_self _)), ⟨⟨_, he⟩, hit⟩, fun b hb => ?_, q⟩
  rcases List.mem_cons.mp hb with rfl | hb
  · exact I1.fpOk (Nat.le_succ _) (I1.hok.fresh (Nat.le_succ _))
  · obtain rfl : b = s1.heap.objs.size := by simpa using hb
    exact I1.fpOk (Nat.le_refl _) (I1.hok.fresh (Nat.le_refl _))
end L2

set_option Elab.async false
set_option linter.all false
set_option maxRecDepth 100000
set_option maxHeartbeats 4000000
namespace L2
open PySem PySem.Spec PyProof.Rows

def fillK (kvs acc : List (Key × V)) : List (Key × V) := kvs.foldl (fun a p => putK a p.1 p.2) acc
theorem fill_rel : ∀ {kvs : List (Key × V)} {vs : List (Key × Value)} {acc : List (Key × V)} {accv : List (Key × Value)}, KV kvs vs → KV acc accv → KV (fillK kvs acc) (vs.foldl (fun a p => stored a p.1 p.2) accv)
  | _, _, _, _, .nil, h => h
  | _, _, _, _, .cons (a := p) (b := q) r t, h => by
    obtain ⟨e, rv⟩ := r
    show KV (fillK _ (putK _ p.1 p.2)) (List.foldl _ (stored _ q.1 q.2) _)
    rw [← e]
    exact fill_rel t (h.put p.1 rv)
theorem fill_len : ∀ (kvs acc : List (Key × V)), (fillK kvs acc).length ≤ acc.length + kvs.length
  | [], acc => by simp [fillK]
  | p :: r, acc => by
    have := fill_len r (putK acc p.1 p.2)
    have := length_putK acc p.1 p.2
    show (fillK r (putK acc p.1 p.2)).length ≤ _
    rw [List.length_cons]
    omega
section
variable {X : Cx} {pins : List (Addr × Obj)} {σ : St} {H : Hp} {s : Shared}
theorem pairs_at (I : Inv X pins σ H s) : ∀ {ts : List Addr} {kvs : List (Key × V)} {its : List Value}, Paired (fun t kv => SqT X.K H t [kV kv.1, kv.2]) ts kvs → Vals (ts.map V.ref) its →
    ∃ vs : List (Key × Value), KV kvs vs ∧ Paired (fun u kv => PairAt (mixKind X.prog X.w) s.heap u kv) its vs
  | [], _, _, .nil, r => by
    rw [List.map_nil] at r
    cases r
    exact ⟨[], .nil, .nil⟩
  | t :: ts, kv :: kvs, _, .cons h p, r => by
    rw [List.map_cons] at r
    cases r with
    | cons r1 r2 =>
      obtain ⟨vs, e1, e2⟩ := pairs_at I p r2
      obtain ⟨its, rv, ⟨o, h1, h2, n, h3⟩, _⟩ := I.tuple h
      obtain ⟨u1, u2, rfl, q1, q2⟩ := vals2 rv
      exact ⟨(kv.1, u2) :: vs, .cons ⟨rfl, q2⟩ e1, .cons ⟨t, u1, n, o, r1, kV_is q1, h1, h2, h3⟩ e2⟩
theorem Paired.at_ {α β : Type} {F : α → β → Prop} : ∀ {xs : List α} {ys : List β}, Paired F xs ys → ∀ (m : Nat) (y : β), ys[m]? = some y → ∃ x, xs[m]? = some x ∧ F x y
  | _, _, .nil, m, y, e => by cases m <;> cases e
  | _, _, .cons h t, 0, y, e => by cases e; exact ⟨_, rfl, h⟩
  | _, _, .cons h t, m + 1, y, e => Paired.at_ t m y e
theorem call_dictP (hc : X.calm = true) : CallR X (.type "dict") (fun xs H Q => ∃ a ts kvs, xs = [.ref a] ∧ H a = some (.lst (ts.map V.ref)) ∧ Paired (fun t kv => SqT X.K H t [kV kv.1, kv.2]) ts kvs ∧ ∀ d, H d = none → Q (.ref d) (upd H d (.dK (fillK kvs [])))) := by
  intro pins s σ H xs us Q I r h
  obtain ⟨a, ts, kvs, rfl, e, p, q⟩ := h
  obtain ⟨u, rfl, rx⟩ := vals1 r
  cases (show u = Value.ref a from rx)
  obtain ⟨z, its, n, rv, ho⟩ := (show ObjOk X.prog X.w H s.heap a (.lst _) from I.hok a _ e)
  obtain ⟨vs, r1, r2⟩ := pairs_at I p rv
  have l1 := Paired.length r2
  have l2 := r1.length
  have l3 := Paired.length p
  rw [List.length_map] at z
  refine call_dict_list (mixKind X.prog X.w) (I.ok.hd hc) ho (by simpa using l1) (fun m kv em => ?_) (by omega) fun h' t' hd kk => ?_
  · obtain ⟨u, e1, e2⟩ := Paired.at_ r2 m kv em
    exact ⟨u, by simpa using e1, e2⟩
  · have new : ObjOk X.prog X.w (upd H s.heap.objs.size (.dK (fillK kvs []))) h' s.heap.objs.size (.dK (fillK kvs [])) := by
      refine dk_new ?_ ?_ (fill_rel r1 .nil) hd
      · have := fill_len kvs []
        simp at this
        omega
      · have := I.big
        exact beq_eq_false_iff_ne.mpr (Nat.ne_of_gt this)
    exact ⟨.ref s.heap.objs.size, _, I.laid (t' := t') kk (Nat.le_refl _) new, rfl, q _ (I.hok.fresh (Nat.le_refl _))⟩
theorem paired_of {α β : Type} {F : α → β → Prop} : ∀ {xs : List α} {ys : List β}, xs.length = ys.length → (∀ (j : Nat) x y, xs[j]? = some x → ys[j]? = some y → F x y) → Paired F xs ys
  | [], [], _, _ => .nil
  | [], _ :: _, e, _ => by cases e
  | _ :: _, [], e, _ => by cases e
  | x :: xs, y :: ys, e, h => .cons (h 0 x y rfl rfl) (paired_of (Nat.succ.inj e) fun j a b e1 e2 => h (j + 1) a b e1 e2)
theorem is_kV {P : Program} {w : World} {k : Key} {u : Value} (h : (mixKind P w).is k u = true) : RelV (kV k) u := by
  rcases keyIs_shape (show keyIs k u = true from h) with ⟨i, t, rfl, rfl⟩ | ⟨x, t, rfl, rfl⟩
  · exact ⟨t, rfl⟩
  · exact ⟨t, rfl⟩
theorem call_listD (hc : X.calm = true) : CallR X (.type "list") (fun xs H Q => ∃ a kvs, xs = [.ref a] ∧ H a = some (.dK kvs) ∧ ∀ D, H D = none → Q (.ref D) (upd H D (.lst (kvs.map fun p => kV p.1)))) := by
  intro pins s σ H xs us Q I r h
  obtain ⟨a, kvs, rfl, e, q⟩ := h
  obtain ⟨u, rfl, rx⟩ := vals1 r
  cases (show u = Value.ref a from rx)
  obtain ⟨z, hs, vs, rel, dd⟩ := dk_of I.hok e
  obtain ⟨o, es, ep, d1, d2, d3, d4⟩ := dd
  have l1 := rel.length
  refine PySem.W.kdl_call (PySem.W.kdl_dict (knd := mixKind X.prog X.w) (kvs := vs) (ep := ep) hs) (I.ok.hd hc) ⟨o, es, d1, d2, d3, d4⟩ (by omega) fun h' tk acc c kk hD hacc => ?_
  have keys := rel.keys
  have vals : Vals (kvs.map fun p => kV p.1) acc.toList := by
    refine paired_of (by have h1 := hacc.1; simp only [List.length_map, Array.length_toList]; omega) fun j x y e1 e2 => ?_
    rw [Array.getElem?_toList] at e2
    obtain ⟨k, v, e3, e4⟩ := hacc.2 j y e2
    rw [List.getElem?_map] at e1
    obtain ⟨p, e5, rfl⟩ := Option.map_eq_some_iff.mp e1
    have e6 : (kvs.map (·.1))[j]? = some p.1 := by rw [List.getElem?_map, e5]; rfl
    rw [keys, List.getElem?_map, e3] at e6
    cases e6
    exact is_kV e4
  have new : ObjOk X.prog X.w (upd H s.heap.objs.size (.lst (kvs.map fun p => kV p.1))) h' s.heap.objs.size (.lst (kvs.map fun p => kV p.1)) := ⟨by rw [List.length_map]; exact z, acc.toList, c, vals, by simpa using hD⟩
  exact ⟨.ref s.heap.objs.size, _, I.laid (t' := tk) kk (Nat.le_refl _) new, rfl, q _ (I.hok.fresh (Nat.le_refl _))⟩
end
end L2

set_option Elab.async false
set_option linter.all false
set_option maxRecDepth 100000
set_option maxHeartbeats 4000000
namespace L2
open PySem PySem.Spec PyProof.Rows

def PlainV (v : V) : Prop := flatV v = true ∨ ∃ r, v = .ref r
theorem eqV_self {x : V} (h : flatV x = true) : eqV x x = true := by
  cases x with
  | non => rfl
  | bl b => exact beq_self_eq_true b
  | int i => exact beq_self_eq_true i
  | str z => exact beq_self_eq_true z
  | _ => cases h
theorem eq_at_self {A : Around} {s : Shared} {x : V} {u v : Value} (h : PlainV x) (ru : RelV x u) (rv : RelV x v) : SeqAt.EqAt A s u v true := by
  rcases h with h | ⟨r, rfl⟩
  · have q := eqAt_V (A := A) (s := s) ru rv h h
    rw [eqV_self h] at q
    exact q
  · cases (show u = Value.ref r from ru)
    cases (show v = Value.ref r from rv)
    exact .same _
theorem items_same {A : Around} {s : Shared} {xs : List V} {its its2 : List Value} (r : Vals xs its) (r2 : Vals xs its2) (hx : ∀ v ∈ xs, PlainV v) (j : Nat) (h1 : j < its.toArray.size) (h2 : j < its2.toArray.size) :
    SeqAt.EqAt A s its.toArray[j] its2.toArray[j] true := by
  have l1 := r.length
  have k1 : j < its.length := by simpa using h1
  have k2 : j < its2.length := by simpa using h2
  have g1 : xs[j]? = some (xs[j]'(by omega)) := List.getElem?_eq_getElem (by omega)
  obtain ⟨u1, e1, q1⟩ := r.get g1
  obtain ⟨u2, e2, q2⟩ := r2.get g1
  have f1 : its.toArray[j] = u1 := by
    have := (List.getElem?_eq_some_iff.mp e1).2
    simpa using this
  have f2 : its2.toArray[j] = u2 := by
    have := (List.getElem?_eq_some_iff.mp e2).2
    simpa using this
  rw [f1, f2]
  exact eq_at_self (hx _ (List.getElem_mem _)) q1 q2
def rSame (K : PySem.W.Frag) (b : Bool) : V → V → Hp → VK → Prop := fun x y H Q => ∃ p q xs, x = .ref p ∧ y = .ref q ∧ SqL K H p xs ∧ SqL K H q xs ∧ (∀ v ∈ xs, PlainV v) ∧ Q (.bl b) H
theorem op_eq_same {X : Cx} (hu : X.A.units < cLine) : OpR X (compareOp .Eq) (rSame X.K true) := by
  intro pins s σ H x y v u Q I rx ry h
  obtain ⟨a, b, xs, rfl, rfl, ha, hb, hx, q⟩ := h
  cases rx
  cases ry
  obtain ⟨its, r, pl, hz⟩ := I.list ha
  obtain ⟨its2, r2, pl2, hz2⟩ := I.list hb
  have l1 := r.length
  have l2 := r2.length
  refine SeqAt.eq_listAt (e := fun _ => true) pl.isList pl2.isList (by simp only [List.size_toArray]; omega) hu (fun j h1 h2 => items_same r r2 hx j h1 h2) ?_
  have e : ((List.range its.toArray.size).all fun _ => true) = true := by simp
  rw [e]
  exact ⟨.bl true, H, I, rfl, q⟩
theorem op_ne_same {X : Cx} (hu : X.A.units < cLine) : OpR X (compareOp .NotEq) (rSame X.K false) := by
  intro pins s σ H x y v u Q I rx ry h
  obtain ⟨a, b, xs, rfl, rfl, ha, hb, hx, q⟩ := h
  cases rx
  cases ry
  obtain ⟨its, r, pl, hz⟩ := I.list ha
  obtain ⟨its2, r2, pl2, hz2⟩ := I.list hb
  have l1 := r.length
  have l2 := r2.length
  refine SeqAt.RcNeAt.lists (e := fun _ => true) pl.isList pl2.isList (by simp only [List.size_toArray]; omega) hu (fun j h1 h2 => items_same r r2 hx j h1 h2) X.prog X.w X.xe _ ?_
  have e : (!(List.range its.toArray.size).all fun _ => true) = false := by simp
  rw [e]
  exact ⟨.bl false, H, I, rfl, q⟩


theorem strs_of : ∀ {ts : List Str} {its : List Value}, Vals (ts.map V.str) its → StrsAre its ts
  | [], _, r => by rw [List.map_nil] at r; cases r; exact .nil
  | z :: ts, _, r => by
    rw [List.map_cons] at r
    cases r with
    | cons h t =>
      obtain ⟨tk, e⟩ := (show ∃ tk, _ = Value.str z tk from h)
      subst e
      exact .cons z tk (strs_of t)
def rJoin (K : PySem.W.Frag) : V → List V → Hp → VK → Prop := fun x vs H Q => ∃ z a ts, x = .str z ∧ vs = [.ref a] ∧ SqL K H a (ts.map V.str) ∧ (ts.map (·.length)).sum + ts.length * z.length ≤ 16777216 ∧ Q (.str (Txt.join z ts)) H
theorem mt_join {X : Cx} : MtM X "str.join" (rJoin X.K) := by
  intro pins s σ H x vs v us Q I rx rv h
  obtain ⟨z, a, ts, rfl, rfl, hq, hz, q⟩ := h
  obtain ⟨t, rfl⟩ := rx
  obtain ⟨u, rfl, ru⟩ := rv.one
  cases (show u = Value.ref a from ru)
  obtain ⟨its, r, pl, _⟩ := I.list hq
  exact join_list pl.isList (by simpa using strs_of r) hz fun t' k => ⟨.str _, H, I.tok _, ⟨_, rfl⟩, q⟩

end L2

set_option Elab.async false
set_option linter.all false
set_option maxRecDepth 100000
set_option maxHeartbeats 4000000
namespace L2
open PySem PySem.Spec PyProof.Rows

section
variable {K : PySem.W.Frag} {a D : Addr} {xs : List V} {ts : List Str} {js : List (Nat × Str)} {g : TG} {tif : TT} {te : TE} {R : Hp → Prop} {σ : St} {H : Hp}
theorem compG_list (Pv : Nat → List V → St → Hp → Prop) (h0 : Pv 0 [] (capS ts js σ) (upd H D (.lst []))) (hl : ∀ i ys σ H, i ≤ xs.length → Pv i ys σ H → SqL K H a xs)
    (hs : ∀ i x ys σ H, xs[i]? = some x → Pv i ys σ H → g x σ H fun σ2 H2 => tif σ2 H2 fun b H3 => if b = true then te σ2 H3 fun y H4 => H4 D = some (.lst ys) ∧ ys.length < sizeLine ∧ Pv (i + 1) (ys ++ [y]) σ2 (upd H4 D (.lst (ys ++ [y]))) else Pv (i + 1) ys σ2 H3)
    (hd : ∀ ys σ H, Pv xs.length ys σ H → R H) :
    ∃ W : Nat → Nat → List V → St → Hp → Prop, (∃ m, W 0 m [] (capS ts js σ) (upd H D (.lst []))) ∧
  ∀ i m ys σ' H, W i m ys σ' H → ((Itl K a).stop i H ∧ R H) ∨ ((Itl K a).go i H ∧ ∃ m', m' < m ∧ ∀ x H', (Itl K a).yld i H x H' → g x σ' H' fun σ2 H2 => tif σ2 H2 fun b H3 =>
    if b = true then te σ2 H3 fun y H4 => H4 D = some (.lst ys) ∧ ys.length < sizeLine ∧ W (i + 1) m' (ys ++ [y]) σ2 (upd H4 D (.lst (ys ++ [y]))) else W (i + 1) m' ys σ2 H3) := by
  refine ⟨fun i m ys σ H => m = xs.length - i ∧ i ≤ xs.length ∧ Pv i ys σ H, ⟨xs.length, by simp, Nat.zero_le _, h0⟩, ?_⟩
  rintro i m ys σ' H ⟨rfl, hi, p⟩
  have q := hl i ys σ' H hi p
  by_cases hlt : i < xs.length
  · refine .inr ⟨⟨xs, xs[i], q, by simp [hlt]⟩, xs.length - (i + 1), by omega, fun x H' y => ?_⟩
    obtain ⟨e, y⟩ := y
    subst e
    have z := hs i x ys σ' _ (y xs q) p
    have h1 : (i + 1 ≤ xs.length) = True := eq_true hlt
    simp only [h1, true_and]
    exact z
  · have e : i = xs.length := by omega
    subst e
    exact .inl ⟨⟨xs, q, Nat.le_refl _⟩, hd ys σ' H p⟩
theorem compG_range {lo : Int} {n : Nat} (Pv : Nat → List V → St → Hp → Prop) (h0 : Pv 0 [] (capS ts js σ) (upd H D (.lst [])))
    (hs : ∀ i ys σ H, i < n → Pv i ys σ H → g (.int (lo + i)) σ H fun σ2 H2 => tif σ2 H2 fun b H3 => if b = true then te σ2 H3 fun y H4 => H4 D = some (.lst ys) ∧ ys.length < sizeLine ∧ Pv (i + 1) (ys ++ [y]) σ2 (upd H4 D (.lst (ys ++ [y]))) else Pv (i + 1) ys σ2 H3)
    (hd : ∀ ys σ H, Pv n ys σ H → R H) :
    ∃ W : Nat → Nat → List V → St → Hp → Prop, (∃ m, W 0 m [] (capS ts js σ) (upd H D (.lst []))) ∧
  ∀ i m ys σ' H, W i m ys σ' H → ((Itr lo n).stop i H ∧ R H) ∨ ((Itr lo n).go i H ∧ ∃ m', m' < m ∧ ∀ x H', (Itr lo n).yld i H x H' → g x σ' H' fun σ2 H2 => tif σ2 H2 fun b H3 =>
    if b = true then te σ2 H3 fun y H4 => H4 D = some (.lst ys) ∧ ys.length < sizeLine ∧ W (i + 1) m' (ys ++ [y]) σ2 (upd H4 D (.lst (ys ++ [y]))) else W (i + 1) m' ys σ2 H3) := by
  refine ⟨fun i m ys σ H => m = n - i ∧ i ≤ n ∧ Pv i ys σ H, ⟨n, by simp, Nat.zero_le _, h0⟩, ?_⟩
  rintro i m ys σ' H ⟨rfl, hi, p⟩
  by_cases hlt : i < n
  · refine .inr ⟨hlt, n - (i + 1), by omega, fun x H' y => ?_⟩
    obtain ⟨rfl, rfl⟩ := y
    have z := hs i ys σ' _ hlt p
    have h1 : (i + 1 ≤ n) = True := eq_true hlt
    simp only [h1, true_and]
    exact z
  · have e : i = n := by omega
    subst e
    exact .inl ⟨Nat.le_refl _, hd ys σ' H p⟩
end

theorem kit_self {K : PySem.W.Frag} {t : Value} : PySem.W.kitOne K t t = some true := by unfold PySem.W.kitOne; rw [if_pos (beq_self_eq_true t)]

def tCutS (t : TS) : TS := fun D σ H => ∃ R : St → Hp → Prop, t { D with nx := R } σ H ∧ ∀ σ' H', R σ' H' → D.nx σ' H'
theorem ps_cutS {X : Cx} {st : Stmt} {t : TS} (h : PS X st t) : PS X st (tCutS t) := by
  intro pins s σ H D I ⟨R, q, m⟩
  refine thn (h pins s σ H _ I q) fun f s1 z => ?_
  cases f with
  | next => obtain ⟨σ', H', I', r⟩ := z; exact ⟨σ', H', I', m _ _ r⟩
  | ret v => exact z
  | brk => exact z
  | cont => exact z

def CalleeD (P : Program) (w : World) (K : PySem.W.Frag) (mg : Str → Option Value) (base : Heap) (k : Nat) (x : Str) (ps : List Str) (sp : Sp) : Prop :=
  ∃ f fd, FnOk P w K mg base CX0 k f fd ps sp ∧ Binds K fd ps [] ∧ PySem.W.keepIn K (.ref f) = true ∧ mg x = some (.ref f)
theorem CalleeD.mono {P : Program} {w : World} {K : PySem.W.Frag} {mg : Str → Option Value} {base : Heap} {j k : Nat} {x : Str} {ps : List Str} {sp : Sp} (c : CalleeD P w K mg base j x ps sp) (h : j ≤ k) : CalleeD P w K mg base k x ps sp :=
  let ⟨f, fd, a, b⟩ := c; ⟨f, fd, a.mono h, b⟩
theorem pe_fn {X : Cx} {k : Nat} {x : Str} {ps : List Str} {sp : Sp} {e : Expr} {es : List Expr} {t : TA} {p pos : Pos} (c : CalleeD X.prog X.w X.K X.mg X.base k x ps sp) (hr : Room k X.A) (hg : Gl X x) (ha : PA X (e :: es) t)
    (hdb : (x == ("__debug__" : Str)) = false := by decide) (he : starEach (e :: es) X.env = (false, eval e X.env) :: starEach es X.env := by rfl) (hpl : (backTo pos (starEach es X.env)).any (·.1) = false := by rfl) :
    PE X (.Call (.Name x p) (e :: es) [] pos) (tCall sp [] E0 t) := by
  obtain ⟨f, fd, G, b, kp, m⟩ := c
  exact pe_call G hr hg m kp b .nil pass0 ha hdb he hpl
theorem fits {n : Nat} (h : n ≤ 1000000) : n ≤ sizeLine := Nat.le_trans h (by decide)
theorem fits' {n : Nat} (h : n ≤ 1000000) : n < sizeLine := Nat.lt_of_le_of_lt h (by decide)
theorem same_laid {H : Hp} {p : Addr} (h : H p = none) (o : HO) : Same H (upd H p o) := fun b u q => by rw [upd_ne (ne_of_none q h)]; exact q
theorem Same.tup {K : PySem.W.Frag} {H H' : Hp} {a : Addr} {xs : List V} (e : Same H H') (h : SqT K H a xs) : SqT K H' a xs := by
  rcases h with (h | ⟨o, h⟩) | h
  · exact .inl (.inl (e _ _ h))
  · exact .inl (.inr ⟨o, e _ _ h⟩)
  · exact .inr h
end L2

set_option Elab.async false
set_option linter.all false
set_option maxRecDepth 100000
set_option maxHeartbeats 4000000
namespace L2
open PySem PySem.Spec PyProof.Rows

theorem call_allB {X : Cx} (hc : X.calm = true) : CallR X (.builtin "all") (fun xs H Q => ∃ (a : Addr) (bs : List Bool), xs = [.ref a] ∧ SqL X.K H a (bs.map V.bl) ∧ Q (.bl (bs.all id)) H) := by
  intro pins s σ H xs us Q I r h
  obtain ⟨a, bs, rfl, hq, q⟩ := h
  obtain ⟨u, rfl, rx⟩ := vals1 r
  cases (show u = Value.ref a from rx)
  obtain ⟨its, rv, pl, hz⟩ := I.list hq
  obtain ⟨o, h1, h2, m, h3⟩ := id pl.isList
  have la : a < s.heap.objs.size := Heap.lt_size h1
  have ln := rv.length
  rw [List.length_map] at ln
  have isB : ∀ (i : Nat) v, its.toArray[i]? = some v → v = .bool (bs.getD i true) := fun i v e => by
    have e' : its[i]? = some v := by simpa using e
    obtain ⟨x, e2, e3⟩ := Paired.at_ rv i v e'
    rw [List.getElem?_map] at e2
    obtain ⟨b, e4, rfl⟩ := Option.map_eq_some_iff.mp e2
    rw [List.getD_eq_getElem?_getD, e4]
    exact e3
  refine call_all_walk (wpAny_pyIter_list pl.isList ?_)
  refine ⟨s.heap.objs.size, _, _, _, _, _, fun i => bs.getD i true, rfl, Walks.list (A := X.A.in1) (show X.A.in1.handled = none from I.ok.hd hc) s.heap.objs.size a (Nat.ne_of_lt la) its.toArray, ⟨⟨_, Heap.get?_push_size _ rfl, rfl, rfl⟩, ⟨o, Heap.get?_push_of_some _ h1, h2, m, h3⟩⟩, ?_, fun h' tk kk => ?_⟩
  · intro i v s1 Q1 E1 hP hQ1
    rw [isB i v hP]
    exact wpAny_truthy_bool hQ1
  · have e : ((List.range its.toArray.size).all fun i => bs.getD i true) = bs.all id := by
      rw [List.size_toArray, ← ln, Bool.eq_iff_iff, List.all_eq_true, List.all_eq_true]
      constructor
      · intro h b hb
        obtain ⟨i, hi, e⟩ := List.mem_iff_getElem.mp hb
        have := h i (List.mem_range.mpr hi)
        rw [List.getD_eq_getElem?_getD, List.getElem?_eq_getElem hi, e] at this
        exact this
      · intro h i hi
        have hi' := List.mem_range.mp hi
        rw [List.getD_eq_getElem?_getD, List.getElem?_eq_getElem hi']
        exact h _ (List.getElem_mem hi')
    rw [e]
    exact ⟨.bl _, H, I.kept (t' := tk) fun b o' e' => kk b o' (by simp; exact Nat.ne_of_lt (Heap.lt_size e')) (Heap.get?_push_of_some _ e'), rfl, q⟩

section
variable {prog : Program} {w : World} {A : Around} {E : Value → Shared → Prop} {s : Shared}
theorem nextOf_tup {it l : Addr} {i : Nat} {items : Array Value} {x : Value} {Q : Value → Shared → Prop} (hit : s.heap.IsTupleIter it l i) (hl : s.heap.IsTuple l items) (hx : items[i]? = some x)
    (hQ : ∀ h', h'.IsTupleIter it l (i + 1) → Heap.SameBut it s.heap h' → Q x { s with heap := h' }) : wpAny (model prog w) A (Builtin.SmallTypes.nextOf (.ref it)) Q E s := by
  obtain ⟨o, ho, hc, hd⟩ := id hit
  obtain ⟨ol, hol, _, nl, hdl⟩ := hl
  unfold Builtin.SmallTypes.nextOf
  refine wpAny_bind (wpAny_callSpecial?_slot (name := Str.ofString "__next__") hit.typeIs F.slot_tuple_iterator_next (wpAny_call_entry F.slot_tuple_iterator_next hit.typeIs F.entry_tuple_iterator_next ?_ (F.args_tuple_iterator_next_1 _)))
  show wpAny _ _ (field (.ref it) 0 >>= fun v => _) _ _ s
  refine wpAny_bind (wpAny_field ho hd (x := .ref l) (by rfl) ?_)
  show wpAny _ _ (if (Value.ref l == .none) = true then _ else _) _ _ s
  rw [if_neg (by exact Bool.false_ne_true)]
  show wpAny _ _ (field (.ref it) 1 >>= fun v => _) _ _ s
  refine wpAny_bind (wpAny_field ho hd (x := .int i 0) (by rfl) ?_)
  show wpAny _ _ (seqItems? (.ref l) >>= fun v => _) _ _ s
  refine wpAny_bind (wpAny_seqItems hol hdl (by
    simp only [Int.toNat_natCast, hx]
    refine wpAny_bind (wpAny_setField ho hd (by simp) (wpAny_pure ⟨x, rfl, wpAny_pure (hQ _ ⟨_, Heap.get?_update_self _ ho (Obj.isFreed_of_fields (Obj.data_mapFields hd _)), (Obj.cls_mapFields ..).trans hc, ?_⟩ (Heap.SameBut.update ..))⟩))
    rw [Obj.data_mapFields hd]
    simp [rawInt]))
theorem nextOf_tup_end {it l : Addr} {i : Nat} {items : Array Value} {Q : Value → Shared → Prop} (hh : A.handled = none) (hit : s.heap.IsTupleIter it l i) (hl : s.heap.IsTuple l items) (hx : items[i]? = none)
    (hE : ∀ h' e, Heap.ExtBut it s.heap h' → (∃ o, h'.get? e = some o ∧ o.cls = .type "StopIteration") → E (.ref e) { s with heap := h' }) : wpAny (model prog w) A (Builtin.SmallTypes.nextOf (.ref it)) Q E s := by
  obtain ⟨o, ho, hc, hd⟩ := id hit
  obtain ⟨ol, hol, _, nl, hdl⟩ := hl
  unfold Builtin.SmallTypes.nextOf
  refine wpAny_bind (wpAny_callSpecial?_slot (name := Str.ofString "__next__") hit.typeIs F.slot_tuple_iterator_next (wpAny_call_entry F.slot_tuple_iterator_next hit.typeIs F.entry_tuple_iterator_next ?_ (F.args_tuple_iterator_next_1 _)))
  show wpAny _ _ (field (.ref it) 0 >>= fun v => _) _ _ s
  refine wpAny_bind (wpAny_field ho hd (x := .ref l) (by rfl) ?_)
  show wpAny _ _ (if (Value.ref l == .none) = true then _ else _) _ _ s
  rw [if_neg (by exact Bool.false_ne_true)]
  show wpAny _ _ (field (.ref it) 1 >>= fun v => _) _ _ s
  refine wpAny_bind (wpAny_field ho hd (x := .int i 0) (by rfl) ?_)
  show wpAny _ _ (seqItems? (.ref l) >>= fun v => _) _ _ s
  refine wpAny_bind (wpAny_seqItems hol hdl ?_); simp only [Int.toNat_natCast, hx]
  refine wpAny_bind (wpAny_rule (wpAny_bind (wpAny_setField ho hd (by simp) (wpAny_bind ?_)))); simp only [newExc, newTuple]
  refine wpAny_bind (wpAny_newObj_type ?_ (by size_fits)); refine wpAny_bind (m := firstArgMember _ _) (wpAny_of_eq (a := Value.none) (by first | rfl | (simp only [firstArgMember]; rfl)) ?_)
  refine wpAny_newObj_type ?_ (by size_fits); simp only [raiseNew]; refine wpAny_bind (wpAny_handled ?_)
  first | rw [show A.in1.handled = none from hh] | rw [hh]
  refine wpAny_bind (wpAny_pure (wpAny_throw (hE _ _ (((Heap.SameBut.update ..).extBut.push _).push _) ⟨_, Heap.get?_push_size _ rfl, rfl⟩)))
end
end L2

set_option Elab.async false
set_option linter.all false
set_option maxRecDepth 100000
set_option maxHeartbeats 4000000
namespace L2
open PySem PySem.Spec PyProof.Rows
open AutoSeq1 (wpAny_loadPart')
section
variable {prog : Program} {w : World} {A : Around} {E : Value → Shared → Prop} {s : Shared}
end
end L2

set_option Elab.async false
set_option linter.all false
set_option maxRecDepth 100000
set_option maxHeartbeats 4000000
namespace L2
open PySem
section
variable {K : PySem.W.Frag} {a D : Addr} {xs : List V} {ts : List Str} {js : List (Nat × Str)} {g : TG} {tif : TT} {te : TE} {R : Hp → Prop} {σ : St} {H : Hp}
theorem compG_tup (Pv : Nat → List V → St → Hp → Prop) (h0 : Pv 0 [] (capS ts js σ) (upd H D (.lst []))) (hl : ∀ i ys σ H, i ≤ xs.length → Pv i ys σ H → SqT K H a xs)
    (hs : ∀ i x ys σ H, xs[i]? = some x → Pv i ys σ H → g x σ H fun σ2 H2 => tif σ2 H2 fun b H3 => if b = true then te σ2 H3 fun y H4 => H4 D = some (.lst ys) ∧ ys.length < sizeLine ∧ Pv (i + 1) (ys ++ [y]) σ2 (upd H4 D (.lst (ys ++ [y]))) else Pv (i + 1) ys σ2 H3)
    (hd : ∀ ys σ H, Pv xs.length ys σ H → R H) :
    ∃ W : Nat → Nat → List V → St → Hp → Prop, (∃ m, W 0 m [] (capS ts js σ) (upd H D (.lst []))) ∧
  ∀ i m ys σ' H, W i m ys σ' H → ((Itt K a).stop i H ∧ R H) ∨ ((Itt K a).go i H ∧ ∃ m', m' < m ∧ ∀ x H', (Itt K a).yld i H x H' → g x σ' H' fun σ2 H2 => tif σ2 H2 fun b H3 =>
    if b = true then te σ2 H3 fun y H4 => H4 D = some (.lst ys) ∧ ys.length < sizeLine ∧ W (i + 1) m' (ys ++ [y]) σ2 (upd H4 D (.lst (ys ++ [y]))) else W (i + 1) m' ys σ2 H3) := by
  refine ⟨fun i m ys σ H => m = xs.length - i ∧ i ≤ xs.length ∧ Pv i ys σ H, ⟨xs.length, by simp, Nat.zero_le _, h0⟩, ?_⟩
  rintro i m ys σ' H ⟨rfl, hi, p⟩
  have q := hl i ys σ' H hi p
  by_cases hlt : i < xs.length
  · refine .inr ⟨⟨xs, xs[i], q, by simp [hlt]⟩, xs.length - (i + 1), by omega, fun x H' y => ?_⟩
    obtain ⟨e, y⟩ := y
    subst e
    have z := hs i x ys σ' _ (y xs q) p
    have h1 : (i + 1 ≤ xs.length) = True := eq_true hlt
    simp only [h1, true_and]
    exact z
  · have e : i = xs.length := by omega
    subst e
    exact .inl ⟨⟨xs, q, Nat.le_refl _⟩, hd ys σ' H p⟩
end
theorem for_enum {K : PySem.W.Frag} {a : Addr} {xs : List V} {g : TG} {tb : TS} {D : Ends} {σ : St} {H : Hp} (Pv : Nat → St → Hp → Prop) (h0 : Pv 0 σ H) (hl : ∀ i σ H, i ≤ xs.length → Pv i σ H → SqL K H a xs)
    (hs : ∀ i x σ H t, xs[i]? = some x → Pv i σ H → H t = none → g (.ref t) σ (upd H t (.tup [.int (i : Int), x])) fun σ2 H2 => tb { D with nx := Pv (i + 1), ct := Pv (i + 1), bk := D.nx } σ2 H2) (hd : ∀ σ H, Pv xs.length σ H → D.nx σ H) :
    ∃ W : Nat → Nat → St → Hp → Prop, (∃ m, W 0 m σ H) ∧ ∀ i m σ H, W i m σ H →
      ((Ite K a).stop i H ∧ D.nx σ H) ∨ ((Ite K a).go i H ∧ ∃ N : St → Hp → Prop, (∀ σ' H', N σ' H' → ∃ m', m' < m ∧ W (i + 1) m' σ' H') ∧ ∀ x H', (Ite K a).yld i H x H' → g x σ H' fun σ2 H2 => tb { D with nx := N, ct := N, bk := D.nx } σ2 H2) := by
  refine ⟨fun i m σ H => m = xs.length - i ∧ i ≤ xs.length ∧ Pv i σ H, ⟨xs.length, by simp, Nat.zero_le _, h0⟩, ?_⟩
  rintro i m σ H ⟨rfl, hi, p⟩
  have q := hl i σ H hi p
  by_cases hlt : i < xs.length
  · refine .inr ⟨⟨xs, xs[i], q, by simp [hlt]⟩, Pv (i + 1), fun σ' H' p' => ⟨xs.length - (i + 1), by omega, rfl, hlt, p'⟩, fun x H' y => ?_⟩
    obtain ⟨t, y0, rfl, ht, rfl, y⟩ := y
    exact hs i y0 σ _ t (y xs q) p ht
  · have e : i = xs.length := by omega
    subst e
    exact .inl ⟨⟨xs, q, Nat.le_refl _⟩, hd σ H p⟩
end L2

set_option Elab.async false
set_option linter.all false
set_option maxRecDepth 100000
set_option maxHeartbeats 4000000
namespace L2
open PySem
section
variable {prog : Program} {w : World} {K : Type} [DecidableEq K] {knd : KeyKind prog w K} {A : Around} {E : Value → Shared → Prop}
end
section
variable {X : Cx} {o e : Expr} {apos cpos : Pos} {td ty : TE}
end
end L2

set_option Elab.async false
set_option linter.all false
set_option maxRecDepth 100000
set_option maxHeartbeats 4000000
namespace L2
open PySem PySem.Spec PyProof.Rows
section
variable {d D : Addr} {o : Obj} {kvs : List (Key × V)} {ts : List Str} {js : List (Nat × Str)} {g : TG} {tif : TT} {te : TE} {R : Hp → Prop} {σ : St} {H : Hp}
end
end L2

set_option Elab.async false
set_option linter.all false
set_option maxRecDepth 100000
set_option maxHeartbeats 4000000
namespace L2
open PySem PySem.Spec PyProof.Rows
end L2

set_option Elab.async false
set_option linter.all false
set_option maxRecDepth 100000
set_option maxHeartbeats 4000000
namespace L2
open PySem PySem.Spec PyProof.Rows
theorem ps_setC {X : Cx} {elt iter tg : Expr} {iy : Nat} {y : Str} {py spos : Pos} {ifs : List Expr} {scope : Scope} {pos : Pos} {wi : TI} {g : TG} {tif : TT} {te : TE} (ts : List Str) (js : List (Nat × Str)) (hN : X.N.Nodup) (hiy : X.N[iy]? = some y) (hy : X.env.scope.names.lookup y = some .local) (hc : X.calm = true) (hi : PI X tg iter wi)
    (cp : Caps X scope js) (hcell : ∀ y ∈ scope.names, y.2 ≠ .cell) (hkind : scope.kind = .function)
    (hnames : ∀ y ∈ scope.names, y.2 = .local → scope.names.lookup y.1 = some .local)
    (hg : ∀ cl C s1 H1 fp, PG (cxD X scope cl C s1 H1 (ts ++ js.map (·.2)) fp) tg g)
    (hif : ∀ cl C s1 H1 fp, PIfs (cxD X scope cl C s1 H1 (ts ++ js.map (·.2)) fp) ifs tif) (he : ∀ cl C s1 H1 fp, PE (cxD X scope cl C s1 H1 (ts ++ js.map (·.2)) fp) elt te)
    (hsw : swapsWith (.ListComp elt [⟨tg, iter, ifs, 0⟩] scope pos) (some (.Name y py)) spos.line X.env = pure true := by rfl) (hs : ∀ x, foldedSetIterable iter X.env x = pure x := by intro _; rfl) :
    PS X (.Assign [.Name y py] (.ListComp elt [⟨tg, iter, ifs, 0⟩] scope pos) spos) (tAsg (tCompG wi ts js g tif te) (gName iy)) := by
  intro pins s σ H DD I h
  rw [exec_Assign_Name_used _ _ _ _ hsw]
  refine wpAny_bind (wpAny_standAt (wpAny_bind ?_))
  show wpAny _ _ (do let _ ← comprehension (.ListComp elt [⟨tg, iter, ifs, 0⟩] scope pos) scope X.env _ (newList []) false (eval iter X.env) (some (assign (.Name y py) X.env))) _ _ s
  obtain ⟨cl, hcl⟩ := clos_of (env := X.env) (scope := scope) fun y hy => I.ok.has y (.inl (cp.all y hy))
  refine wpAny_bind (wpAny_mono (wpAny_comprehension_free (use := some (assign (.Name y py) X.env)) (Q := fun _ s' => SP X pins DD .next s') rfl hs hcl.eq hkind hnames (thn (hi pins s σ H _ I h) fun v s1 h1 => thn h1 fun itv s2 h2 => ?_)) (fun _ s' hq => wpAny_pure (wpAny_pure hq)) fun _ _ e => e)
  obtain ⟨it, fp, tn, J, H2, e, I2, T, st2, f2, h2⟩ := h2
  subst e
  obtain ⟨W, ⟨m0, w0⟩, turn⟩ := h2 s2.heap.objs.size I2.fresh
  have hfl : ∀ b ∈ fp, b < s2.heap.objs.size := fun b hb => by obtain ⟨o, e, _⟩ := T.obj _ _ st2 b hb; exact Heap.lt_size e
  refine wpAny_newObj_type (wpAny_newFunctionEnv hcell (by intro y hy; simp at hy) (fun h₁ hns₁ hsb₁ => ?_) hkind)
  dsimp only at hns₁ hsb₁ ⊢
  generalize hH2 : s2.heap.push { cls := .type "list", dict := none, data := .seq ([] : List Value).toArray } = G2 at hns₁ hsb₁ ⊢
  have hCs : G2.objs.size = s2.heap.objs.size + 1 := by rw [← hH2, Heap.size_push]
  have hDC : s2.heap.objs.size ≠ G2.objs.size := by rw [hCs]; exact Nat.ne_of_lt (Nat.lt_succ_self _)
  have old : ∀ b o, s2.heap.get? b = some o → h₁.get? b = some o := fun b o e =>
    hsb₁.extBut b o (by rw [hCs]; exact Nat.ne_of_lt (Nat.lt_succ_of_lt (Heap.lt_size e))) (Heap.get?_push_of_some _ (hH2 ▸ Heap.get?_push_of_some _ e))
  have hacc : h₁.get? s2.heap.objs.size = some { cls := .type "list", data := .seq ([] : List Value).toArray 0 } := hsb₁.extBut _ _ hDC (Heap.get?_push_of_some _ (hH2 ▸ Heap.get?_push_size _ rfl))
  generalize hX2 : cxD X scope cl G2.objs.size s2 H2 (ts ++ js.map (·.2)) fp = X2
  have I4 : Inv X2 [] (capS ts js σ) (upd H2 s2.heap.objs.size (.lst [])) { s2 with heap := h₁, toks := s2.toks + ([] : List (Str × Value)).length } := by
    rw [← hX2]
    exact inv_compG I2 f2 hfl hkind hcell cp hcl (by rw [hCs]; exact Nat.lt_succ_self _) rfl rfl old hns₁ hacc
  have x1 : X2.prog = X.prog := by rw [← hX2]; rfl
  have x2 : X2.w = X.w := by rw [← hX2]; rfl
  have x3 : X2.K = X.K := by rw [← hX2]; rfl
  have x4 : X2.calm = true := by rw [← hX2]; exact hc
  have x5 : X2.A = X.A := by rw [← hX2]; rfl
  have x6 : X2.env = compEnvC scope cl G2.objs.size X.env := by rw [← hX2]; rfl
  have x7 : X2.xe = fun _ _ => False := by rw [← hX2]; rfl
  have hg' : PG X2 tg g := by rw [← hX2]; exact hg _ _ _ _ _
  have hif' : PIfs X2 ifs tif := by rw [← hX2]; exact hif _ _ _ _ _
  have he' : PE X2 elt te := by rw [← hX2]; exact he _ _ _ _ _
  have st4 : tn 0 h₁ := T.keep _ _ _ st2 fun b _ o e => old b o e
  have stat : ∀ {H' : Hp} {pins' : List (Addr × Obj)}, (∀ b ∈ fp, H' b = none) → (∀ p ∈ pins', p.1 ∉ fp) → ∀ b ∈ fp, FpOk X2 pins' H' b := fun {H' pins'} hn hp b hb => by
    have o4 := I4.ok
    subst hX2
    exact ⟨hn b hb, (o4.exf b hb).1, o4.exfs b hb, .inl hb, (o4.exf b hb).2, fun p hp' => by
      have hp2 : p ∈ ([] : List (Addr × Obj)) ++ pins' := hp'
      rw [List.nil_append] at hp2
      intro z; exact hp p hp2 (by rw [z]; exact hb)⟩
  -- the end of the block
  have fin : ∀ {s' : Shared} {σ' : St} {H' : Hp}, Inv X2 [] σ' H' s' → DD.nx (σ.set iy (some (.ref s2.heap.objs.size))) H' →
      compPost (model X.prog X.w) X.A X.xe (some (assign (.Name y py) X.env)) (fun _ s' => SP X pins DD .next s') (.ref s2.heap.objs.size) G2.objs.size (.ok .next) s' := fun {s' σ' H'} J' q => by
    subst hX2
    obtain ⟨m', hn', _⟩ := J'.loc
    have I5 : Inv X pins σ H' s' := I2.call' (s' := s') J'.os J'.base J'.hok J'.bare fun b hb => by
      obtain ⟨_, f1, _, f3, f4, f5⟩ := f2 b hb
      exact ⟨f3, f1, f4, f5⟩
    obtain ⟨f0, f1, _, f3, f4, f5⟩ := I2.fpOk (H' := H') (b := G2.objs.size) (by rw [hCs]; exact Nat.le_succ _) J'.free
    show wpAny _ _ (assign (.Name y py) X.env (.ref s2.heap.objs.size)) _ _ s'
    refine wpAny_assign_Name (store_ok2 I5 hN hiy (.inl hy) (v := .ref s2.heap.objs.size) rfl (fun s'' I6 ⟨a, sb, ha⟩ => ?_) (.inr hy))
    have nCa : G2.objs.size ≠ a := by
      rcases ha with ha | ha
      · rw [ha]; exact f1
      · exact (f4 _ _ ha).symm
    refine ⟨m', hn'.sameBut sb nCa, fun h' hs' => ?_⟩
    exact ⟨_, H', I6.turned (t' := s''.toks) (fun b o hb e => (hs'.2 b hb).trans e) f0 f1 f3 f4 f5, q⟩
  have loop : ∀ s₃ : Shared, s₃ = { s2 with heap := h₁, toks := s2.toks + ([] : List (Str × Value)).length } →
      codeAny (model X.prog X.w) X.A (.compLoop (.ListComp elt [⟨tg, iter, ifs, 0⟩] scope pos) 0 (.ref it) (.ref s2.heap.objs.size) (compEnvC scope cl G2.objs.size X.env))
        (compPost (model X.prog X.w) X.A X.xe (some (assign (.Name y py) X.env)) (fun _ s' => SP X pins DD .next s') (.ref s2.heap.objs.size) G2.objs.size) s₃ := by
    rintro s₃ rfl
    subst hX2
    refine compLoop_go (fun n s' => ∃ i ys σ' H', Inv (cxD X scope cl G2.objs.size s2 H2 (ts ++ js.map (·.2)) fp) [] σ' H' s' ∧ tn i s'.heap ∧ (∀ b ∈ fp, H' b = none) ∧ W i n ys σ' H') ?_ m0
      ⟨0, [], _, _, I4, st4, fun b hb => by rw [upd_ne (Nat.ne_of_lt (hfl b hb))]; exact (f2 b hb).1, w0⟩
    rintro n s' ⟨i, ys, σ0, H', J', st', fr', w'⟩
    rcases turn i n ys σ0 H' w' with ⟨stop, q⟩ | ⟨go, m', hm, step⟩
    · refine wpAny_mono (T.done (cxD X scope cl G2.objs.size s2 H2 (ts ++ js.map (·.2)) fp) rfl rfl rfl hc i [] s' _ H' (fun _ _ => False) J' (stat fr' (by simp)) st' stop) (fun r s4 ⟨hr, J4⟩ => ?_) fun _ _ z => z
      subst hr
      exact fin J4 q
    · refine wpAny_mono (T.item (cxD X scope cl G2.objs.size s2 H2 (ts ++ js.map (·.2)) fp) rfl rfl rfl hc i [] s' _ H' (fun _ _ => False) J' (stat fr' (by simp)) st' go) (fun r s4 ⟨u, hr, h4⟩ => ?_) fun _ _ z => z
      subst hr
      refine wpAny_mono h4 (fun _ s5 ⟨xv, H5, J5, r5, y5, st5, fr5⟩ => ?_) fun _ _ z => z
      have J5' := J5.pinned (stat fr5 (by simp)) (T.obj _ _ st5)
      have back : ∀ {s7 : Shared} {σ7 : St} {H7 : Hp}, Inv (cxD X scope cl G2.objs.size s2 H2 (ts ++ js.map (·.2)) fp) ([] ++ pinsAt fp s5.heap) σ7 H7 s7 → Inv (cxD X scope cl G2.objs.size s2 H2 (ts ++ js.map (·.2)) fp) [] σ7 H7 s7 ∧ tn (i + 1) s7.heap ∧ ∀ b ∈ fp, H7 b = none := fun {s7 σ7 H7} J7 => by
        refine ⟨J7.unpinned, T.keep _ _ _ st5 fun b hb o e => (J7.pin (b, o) (List.mem_append_right _ (List.mem_append_right _ (mem_pinsAt hb e)))).1, fun b hb => ?_⟩
        obtain ⟨o, e, d⟩ := T.obj _ _ st5 b hb
        exact (J7.pin (b, o) (List.mem_append_right _ (List.mem_append_right _ (mem_pinsAt hb e)))).2.1
      show wpAny _ _ (assign tg (cxD X scope cl G2.objs.size s2 H2 (ts ++ js.map (·.2)) fp).env u) _ _ s5
      refine wpAny_mono (hg' _ s5 _ H5 xv u _ J5' r5 (step xv H5 y5)) (fun _ s6 ⟨σ6, H6, J6, q6⟩ => ?_) fun _ _ z => z
      refine wpAny_mono (hif' _ s6 _ H6 _ J6 q6) (fun b s7 ⟨H7, J7, q7⟩ => ?_) fun _ _ z => z
      cases b with
      | false =>
        rw [if_neg Bool.false_ne_true] at q7 ⊢
        obtain ⟨J8, st8, fr8⟩ := back J7
        exact ⟨m', hm, i + 1, ys, σ6, H7, J8, st8, fr8, q7⟩
      | true =>
        rw [if_pos rfl] at q7 ⊢
        refine wpAny_mono (he' _ s7 _ H7 _ J7 q7) (fun yv s8 ⟨y, H8, J8, r8, hD8, hz8, w8⟩ => ?_) fun _ _ z => z
        refine wpAny_mono (mt_append (X := cxD X scope cl G2.objs.size s2 H2 (ts ++ js.map (·.2)) fp) _ s8 _ H8 (.ref s2.heap.objs.size) [y] (.ref s2.heap.objs.size) [yv] (fun v H' => W (i + 1) m' (ys ++ [y]) σ6 H') J8 rfl (.cons r8 .nil) ⟨s2.heap.objs.size, ys, y, rfl, rfl, hD8, hz8, w8⟩)
          (fun _ s9 ⟨_, H9, J9, _, w9⟩ => ?_) fun _ _ z => z
        obtain ⟨J10, st10, fr10⟩ := back J9
        exact ⟨m', hm, i + 1, ys ++ [y], σ6, H9, J10, st10, fr10, w9⟩
  exact codeAny_compStart_list (loop _ rfl) (T.self _ _ _ _ _ st4 (loop _ rfl))
end L2

set_option Elab.async false
set_option linter.all false
set_option maxRecDepth 100000
set_option maxHeartbeats 4000000
namespace L2
open PySem PySem.Spec PyProof.Rows
section
variable {prog : Program} {w : World} {A : Around} {E : Value → Shared → Prop} {s : Shared}
end
end L2

set_option Elab.async false
set_option linter.all false
set_option maxRecDepth 100000
set_option maxHeartbeats 4000000
namespace L2
open PySem PySem.Spec PyProof.Rows
def slc (z : Str) (lo hi : Option Int) : Str := if ((slicePicked z (lo.map fun i => (i, 0)) (hi.map fun i => (i, 0)) none).length == z.length) = true then z else ⟨((slicePicked z (lo.map fun i => (i, 0)) (hi.map fun i => (i, 0)) none).filterMap (z.cps[·]?)).toArray⟩
theorem slc_le (z : Str) (lo hi : Option Int) : (slc z lo hi).length ≤ z.length := by
  unfold slc
  split
  · exact Nat.le_refl _
  · show (List.toArray _).size ≤ _
    rw [List.size_toArray]
    exact Nat.le_trans (List.length_filterMap_le _ _) (show (slicePicked z _ _ none).length ≤ z.length from by unfold slicePicked; exact sliceIndices_le _ _ _)
def rSlF : V → Option Int → Option Int → Hp → VK → Prop := fun x lo hi H Q => ∃ z : Str, x = .str z ∧ z.length ≤ sizeLine ∧ Q (.str (slc z lo hi)) H
theorem slice_F {X : Cx} {pins : List (Addr × Obj)} {s : Shared} {σ : St} {H : Hp} {Q : VK} {z : Str} {t : Tok} (I : Inv X pins σ H s) (hz : z.length ≤ sizeLine) (l u : Option (Int × Tok)) (q : Q (.str (slc z (l.map (·.1)) (u.map (·.1)))) H) :
    (sliceMade z t l u none).post (EP X pins σ Q) s := by
  have e : slicePicked z ((l.map (·.1)).map fun i => (i, (0 : Tok))) ((u.map (·.1)).map fun i => (i, (0 : Tok))) none = slicePicked z l u none := by
    cases l <;> cases u <;> rfl
  unfold slc at q
  rw [e] at q
  unfold sliceMade
  by_cases c : ((slicePicked z l u none).length == z.length) = true
  · rw [if_pos c] at q
    rw [if_pos (by rw [c]; rfl)]
    exact ⟨.str z, H, I, ⟨_, rfl⟩, q⟩
  · rw [if_neg c] at q
    rw [if_neg (by rw [Bool.eq_false_iff.mpr c]; decide)]
    have le : ((slicePicked z l u none).filterMap (z.cps[·]?)).length ≤ z.length := Nat.le_trans (List.length_filterMap_le _ _) (show (slicePicked z l u none).length ≤ z.length from by unfold slicePicked; exact sliceIndices_le _ _ _)
    refine ⟨?_, .str _, H, I.tok _, ⟨_, rfl⟩, q⟩
    show (List.toArray _).size ≤ sizeLine
    rw [List.size_toArray]
    exact Nat.le_trans le hz
theorem sl_strF {X : Cx} : SlR X rSlF := by
  intro pins s σ H x v vl vu lo hi sl Q I rx hs pl pu h
  obtain ⟨z, rfl, hz, q⟩ := h
  obtain ⟨t, rfl⟩ := rx
  refine ⟨"str", _, F.slot_str_getitem.lookup, typeIs_str s z t, ?_⟩
  cases pl with
  | none =>
    cases pu with
    | none => exact wpAny_getItem_str_slice (l := none) (u := none) (st := none) hs rfl (slice_F I hz none none q)
    | int j tu => exact wpAny_getItem_str_slice (l := none) (u := some (j, tu)) (st := none) hs rfl (slice_F I hz none (some (j, tu)) q)
  | int i ti =>
    cases pu with
    | none => exact wpAny_getItem_str_slice (l := some (i, ti)) (u := none) (st := none) hs rfl (slice_F I hz (some (i, ti)) none q)
    | int j tu => exact wpAny_getItem_str_slice (l := some (i, ti)) (u := some (j, tu)) (st := none) hs rfl (slice_F I hz (some (i, ti)) (some (j, tu)) q)
end L2

set_option Elab.async false
set_option linter.all false
set_option maxRecDepth 100000
set_option maxHeartbeats 4000000
namespace L2
open PySem PySem.Spec PyProof.Rows
end L2

set_option Elab.async false
set_option linter.all false
set_option maxRecDepth 100000
set_option maxHeartbeats 4000000
namespace L2
open PySem PySem.Spec PyProof.Rows
def rInsert : V → List V → Hp → VK → Prop := fun x vs H Q => ∃ l xs i y, x = .ref l ∧ vs = [.int ((i : Nat) : Int), y] ∧ H l = some (.lst xs) ∧ i ≤ xs.length ∧ xs.length < 1000000 ∧ Q .non (upd H l (.lst (xs.take i ++ y :: xs.drop i)))
theorem mt_insert {X : Cx} : MtM X "list.insert" rInsert := by
  intro pins s σ H x vs v us Q I rx rv h
  obtain ⟨l, xs, i, y, rfl, rfl, hH, hi, hz, q⟩ := h
  cases rx
  obtain ⟨x, hx⟩ : ∃ x : Int, x = ((i : Nat) : Int) := ⟨_, rfl⟩
  rw [← hx] at rv
  obtain ⟨u1, u2, rfl, r1, r2⟩ := vals2 rv
  obtain ⟨t, rfl⟩ := r1
  obtain ⟨z, its, n, r, hl, e⟩ := I.lstM hH
  have ln := r.length
  have h0 : Builtin.List.listFitsIndex x = true := by
    unfold Builtin.List.listFitsIndex
    rw [Bool.and_eq_true, decide_eq_true_iff, decide_eq_true_iff]
    omega
  have h1 : ¬ (!Builtin.List.listFitsIndex x) = true := by rw [h0]; exact Bool.false_ne_true
  have hsz : its.toArray.size ≤ sizeLine := by rw [List.size_toArray, ← ln]; exact z
  refine call_meets F.slot_list_insert ⟨_, e, rfl⟩ F.entry_list_insert (F.args_list_insert_3 _ _ _) (AutoListH.list_insert_list_int_val_1 l its.toArray n x t u2 h1 hsz) ⟨e, ?_⟩
  refine ⟨.non, _, I.lset (its' := its.take i ++ u2 :: its.drop i) hH e ?_ (Vals.append (Vals.take i r) (.cons r2 (Vals.drop i r))) ?_, rfl, q⟩
  · have k0 : (if x < 0 then (x + ((its.toArray.size : Nat) : Int)).toNat else min x.toNat its.toArray.size) = i := by
      rw [if_neg (by omega), hx, Int.toNat_natCast, List.size_toArray]
      omega
    show ((its.toArray.extract 0 (if x < 0 then (x + ((its.toArray.size : Nat) : Int)).toNat else min x.toNat its.toArray.size)).push u2 ++ its.toArray.extract (if x < 0 then (x + ((its.toArray.size : Nat) : Int)).toNat else min x.toNat its.toArray.size)) = _
    rw [k0]
    apply Array.ext'
    simp
    exact List.take_of_length_le (by simp)
  · rw [List.length_append, List.length_cons, List.length_take, List.length_drop]
    exact fits (by omega)
end L2

set_option Elab.async false
set_option linter.all false
set_option maxRecDepth 100000
set_option maxHeartbeats 4000000
namespace L2
open PySem
theorem call_lenK {X : Cx} (K : PySem.W.Frag) (hK : X.K = K := by rfl) : CallR X (.builtin "len") (fun xs H Q => ∃ p ys, xs = [.ref p] ∧ (SqL K H p ys ∨ SqT K H p ys) ∧ Q (.int ys.length) H) := by
  subst hK
  exact call_len_seq
theorem op_in_seqK {X : Cx} (K : PySem.W.Frag) (hK : X.K = K := by rfl) : OpR X (compareOp .In) (rIn K false) := by
  subst hK
  exact op_in_seq
theorem op_ne_nil {X : Cx} (hu : X.A.units < cLine) : OpR X (compareOp .NotEq) (fun x y H Q => ∃ a b xs, x = .ref a ∧ y = .ref b ∧ SqL X.K H a xs ∧ SqL X.K H b [] ∧ Q (.bl (!xs.isEmpty)) H) := by
  intro pins s σ H x y v u Q I rx ry h
  obtain ⟨a, b, xs, rfl, rfl, ha, hb, q⟩ := h
  cases rx
  cases ry
  obtain ⟨its, r, pl, hz⟩ := I.list ha
  obtain ⟨its2, r2, pl2, hz2⟩ := I.list hb
  have e2 : its2 = [] := Vals.zero r2
  subst e2
  have hlen := r.length
  cases xs with
  | nil =>
    have e : its = [] := Vals.zero r
    subst e
    exact SeqAt.RcNeAt.lists (e := fun _ => true) pl.isList pl2.isList rfl hu (fun j h1 _ => absurd h1 (by simp)) X.prog X.w X.xe _ ⟨.bl false, H, I, rfl, q⟩
  | cons y ys =>
    refine SeqAt.RcNeAt.lists_lengths pl.isList pl2.isList ?_ hu X.prog X.w X.xe _ ⟨.bl true, H, I, rfl, q⟩
    rw [List.size_toArray, List.size_toArray, ← hlen]
    simp
end L2

set_option Elab.async false
set_option linter.all false
set_option maxRecDepth 100000
set_option maxHeartbeats 4000000
namespace L2
open PySem PySem.Spec PyProof.Rows
def DEq (K : PySem.W.Frag) (H : Hp) : Nat → V → V → Prop
  | 0, x, y => x = y ∧ PlainV x
  | n + 1, x, y => (x = y ∧ PlainV x) ∨ ∃ a b xs ys, x = .ref a ∧ y = .ref b ∧ ((SqL K H a xs ∧ SqL K H b ys) ∨ (SqT K H a xs ∧ SqT K H b ys)) ∧ Paired (DEq K H n) xs ys
theorem DEq.self {K : PySem.W.Frag} {H : Hp} {x : V} (h : PlainV x) : ∀ n, DEq K H n x x
  | 0 => ⟨rfl, h⟩
  | _ + 1 => .inl ⟨rfl, h⟩
end L2

set_option Elab.async false
set_option linter.all false
set_option maxRecDepth 100000
set_option maxHeartbeats 4000000
namespace L2
open PySem PySem.Spec PyProof.Rows
section
variable {prog : Program} {w : World} {A : Around} {E : Value → Shared → Prop} {s : Shared}
abbrev IsZip2 (h : Heap) (z : Addr) (f0 f1 : Value) (TI TO : Addr) : Prop := h.get? z = some { cls := .type "zip", data := .fields #[f0, f1, .bool false, .ref TI, .ref TO] }
theorem wpAny_alive {M : Model} {a : Addr} {Q : Option Obj → Shared → Prop} (h : Q (s.heap.get? a) s) : wpAny M A (loadIfAlive a) Q E s := by
  intro Γ p _
  show Sem.wp M Γ (Sem.loadIfAlive a Sem.pure) _ _ p s
  rw [Sem.wp_loadIfAlive]
  exact h
theorem zipT_item {z TI TO i1 i2 l1 l2 : Addr} {i : Nat} {xs ys : Array Value} {x y a b f0 f1 : Value} {Q : Option Value → Shared → Prop} (ap : ZipApart z TI TO i1 i2 l1 l2) (hz : IsZip2 s.heap z f0 f1 TI TO) (hI : IsPair s.heap TI (.ref i1) (.ref i2)) (hO : IsPair s.heap TO a b)
    (h1 : s.heap.IsTupleIter i1 l1 i) (h2 : s.heap.IsTupleIter i2 l2 i) (t1 : s.heap.IsTuple l1 xs) (t2 : s.heap.IsTuple l2 ys) (hx : xs[i]? = some x) (hy : ys[i]? = some y) (hf : f0 = .none ∨ ∃ T : Nat, f0 = rawInt T)
    (hQ : ∀ h' f0' f1' a' b', IsZip2 h' z f0' f1' TI TO → (f0' = .none ∨ ∃ T : Nat, f0' = rawInt T) → IsPair h' TO a' b' → h'.IsTupleIter i1 l1 (i + 1) → h'.IsTupleIter i2 l2 (i + 1) → IsPair h' s.heap.objs.size x y →
      (∀ c o, c ≠ z → c ≠ TO → c ≠ i1 → c ≠ i2 → s.heap.get? c = some o → h'.get? c = some o) → Q (some (.ref s.heap.objs.size)) { s with heap := h' }) :
    wpAny (model prog w) A (pyNext (.ref z)) Q E s := by
  have hT : s.TypeIs (.ref z) "zip" := ⟨_, hz, rfl⟩
  unfold pyNext
  refine wpAny_bind (wpAny_attempt (wpAny_callSpecial?_slot (name := Str.ofString "__next__") hT F.slot_zip_next (wpAny_call_entry F.slot_zip_next hT F.entry_zip_next ?_ (F.args_zip_next_1 _))))
  obtain ⟨hp, g, d, tk, os⟩ := s
  show wpAny _ _ (field (.ref z) 2 >>= fun v => _) _ _ _
  refine wpAny_bind (wpAny_field hz rfl (x := .bool false) (by rfl) ?_)
  show wpAny _ _ (field (.ref z) 3 >>= fun v => _) _ _ _
  refine wpAny_bind (wpAny_field hz rfl (x := .ref TI) (by rfl) (wpAny_bind (wpAny_seqItems hI rfl ?_)))
  show wpAny _ _ (Builtin.SmallTypes.ownedTupleIsFree (.ref z) >>= fun v => _) _ _ _
  have free : ∀ (Q' : Bool → Shared → Prop) E', Q' true ⟨hp, g, d, tk, os⟩ → (∀ h', IsZip2 h' z f0 (.bool true) TI TO → Heap.SameBut z hp h' → Q' false ⟨h', g, d, tk, os⟩) → wpAny (model prog w) A.in1 (Builtin.SmallTypes.ownedTupleIsFree (.ref z)) Q' E' ⟨hp, g, d, tk, os⟩ := by
    intro Q' E' q1 q2
    unfold Builtin.SmallTypes.ownedTupleIsFree
    refine wpAny_bind (wpAny_field hz rfl (x := f0) (by rfl) ?_)
    rcases hf with rfl | ⟨T, rfl⟩
    · exact wpAny_pure q1
    · show wpAny _ _ (loadIfAlive (T : Int).toNat >>= fun v => _) _ _ _
      refine wpAny_bind (wpAny_alive ?_)
      by_cases c : (hp.get? (T : Int).toNat).isNone = true
      · show wpAny _ _ (if (hp.get? (T : Int).toNat).isNone = true then _ else _) _ _ _
        rw [if_pos c]
        exact wpAny_pure q1
      · show wpAny _ _ (if (hp.get? (T : Int).toNat).isNone = true then _ else _) _ _ _
        rw [if_neg c]
        refine wpAny_bind (wpAny_field hz rfl (x := f1) (by rfl) ?_)
        by_cases c2 : f1 = .bool true
        · subst c2
          show wpAny _ _ (if (Value.bool true != Value.bool true) = true then _ else _) _ _ _
          rw [if_neg (by simp)]
          exact wpAny_pure (q2 hp hz ⟨rfl, fun _ _ => rfl⟩)
        · show wpAny _ _ (if (f1 != Value.bool true) = true then _ else _) _ _ _
          rw [if_pos (by simpa using c2)]
          exact wpAny_bind (wpAny_setField_rec hz (by simp) fun h' f' k' => wpAny_pure (q2 h' f' k'))
  refine wpAny_bind (free _ _ ?_ fun h' hz' sb => ?_)
  · show wpAny _ _ (rule _ >>= fun _ => _) _ _ _
    refine wpAny_bind (wpAny_rule (wpAny_bind (wpAny_field hz rfl (x := .ref TO) (by rfl) ?_)))
    show wpAny _ _ (setField (.ref z) 0 .ellipsis >>= fun _ => _) _ _ _
    refine wpAny_bind (wpAny_setField_rec hz (by simp) fun h₁ f₁ k₁ => ?_)
    replace k₁ : Heap.SameBut z hp h₁ := k₁
    have hz₁ : IsZip2 h₁ z .ellipsis f1 TI TO := f₁
    have hO₁ : IsPair h₁ TO a b := k₁.extBut _ _ ap.TOz hO
    have a₁ : h₁.IsTupleIter i1 l1 i := h1.at fun o q => k₁.extBut i1 o ap.i1z q
    have b₁ : h₁.IsTupleIter i2 l2 i := h2.at fun o q => k₁.extBut i2 o ap.i2z q
    have c₁ : h₁.IsTuple l1 xs := t1.extBut k₁.extBut ap.l1z
    have d₁ : h₁.IsTuple l2 ys := t2.extBut k₁.extBut ap.l2z
    refine wpAny_bind ?_
    show wpAny _ _ (forIn [(Value.ref i1, 0), (Value.ref i2, 1)] (none, ()) _) _ _ ⟨h₁, g, d, tk, os⟩
    rw [List.forIn_cons]
    refine wpAny_bind (wpAny_bind (wpAny_onRaise ?_))
    show wpAny _ _ (Builtin.SmallTypes.nextOf (.ref i1) >>= fun v => pure (some v)) _ _ _
    refine wpAny_bind (nextOf_tup a₁ c₁ hx fun h₂ a₂ k₂ => wpAny_pure ?_)
    replace k₂ : Heap.SameBut i1 h₁ h₂ := k₂
    have hz₂ : IsZip2 h₂ z .ellipsis f1 TI TO := k₂.extBut _ _ (Ne.symm ap.i1z) hz₁
    have hO₂ : IsPair h₂ TO a b := k₂.extBut _ _ ap.TOi1 hO₁
    have b₂ : h₂.IsTupleIter i2 l2 i := b₁.at fun o q => k₂.extBut i2 o (Ne.symm ap.i12) q
    have d₂ : h₂.IsTuple l2 ys := d₁.extBut k₂.extBut ap.l2i1
    show wpAny _ _ (seqItems? (.ref TO) >>= fun v => _) _ _ ⟨h₂, g, d, tk, os⟩
    refine wpAny_bind (wpAny_seqItems hO₂ rfl ?_)
    show wpAny _ _ (updateSeq TO (fun x_1 => x_1.setIfInBounds 0 x) >>= fun _ => _) _ _ _
    refine wpAny_bind (wpAny_updateSeq_pair hO₂ fun h₃ f₃ k₃ => wpAny_bind (wpAny_letGo (wpAny_pure ?_)))
    replace k₃ : Heap.SameBut TO h₂ h₃ := k₃
    have hO₃ : IsPair h₃ TO x b := f₃
    have hz₃ : IsZip2 h₃ z .ellipsis f1 TI TO := k₃.extBut _ _ (Ne.symm ap.TOz) hz₂
    have a₃ : h₃.IsTupleIter i1 l1 (i + 1) := a₂.at fun o q => k₃.extBut i1 o (Ne.symm ap.TOi1) q
    have b₃ : h₃.IsTupleIter i2 l2 i := b₂.at fun o q => k₃.extBut i2 o (Ne.symm ap.TOi2) q
    have d₃ : h₃.IsTuple l2 ys := d₂.extBut k₃.extBut ap.l2TO
    show wpAny _ _ (forIn [(Value.ref i2, 1)] (none, ()) _) _ _ ⟨h₃, g, d, tk, os⟩
    rw [List.forIn_cons]
    refine wpAny_bind (wpAny_bind (wpAny_onRaise ?_))
    show wpAny _ _ (Builtin.SmallTypes.nextOf (.ref i2) >>= fun v => pure (some v)) _ _ _
    refine wpAny_bind (nextOf_tup b₃ d₃ hy fun h₄ b₄ k₄ => wpAny_pure ?_)
    replace k₄ : Heap.SameBut i2 h₃ h₄ := k₄
    have hz₄ : IsZip2 h₄ z .ellipsis f1 TI TO := k₄.extBut _ _ (Ne.symm ap.i2z) hz₃
    have hO₄ : IsPair h₄ TO x b := k₄.extBut _ _ ap.TOi2 hO₃
    have a₄ : h₄.IsTupleIter i1 l1 (i + 1) := a₃.at fun o q => k₄.extBut i1 o ap.i12 q
    show wpAny _ _ (seqItems? (.ref TO) >>= fun v => _) _ _ ⟨h₄, g, d, tk, os⟩
    refine wpAny_bind (wpAny_seqItems hO₄ rfl ?_)
    show wpAny _ _ (updateSeq TO (fun x_1 => x_1.setIfInBounds 1 y) >>= fun _ => _) _ _ _
    refine wpAny_bind (wpAny_updateSeq_pair hO₄ fun h₅ f₅ k₅ => wpAny_bind (wpAny_letGo (wpAny_pure ?_)))
    replace k₅ : Heap.SameBut TO h₄ h₅ := k₅
    have hO₅ : IsPair h₅ TO x y := f₅
    have hz₅ : IsZip2 h₅ z .ellipsis f1 TI TO := k₅.extBut _ _ (Ne.symm ap.TOz) hz₄
    have a₅ : h₅.IsTupleIter i1 l1 (i + 1) := a₄.at fun o q => k₅.extBut i1 o (Ne.symm ap.TOi1) q
    have b₅ : h₅.IsTupleIter i2 l2 (i + 1) := b₄.at fun o q => k₅.extBut i2 o (Ne.symm ap.TOi2) q
    show wpAny _ _ (pure (none, ())) _ _ ⟨h₅, g, d, tk, os⟩
    refine wpAny_pure ?_
    show wpAny _ _ (seqItems? (.ref TO) >>= fun v => _) _ _ ⟨h₅, g, d, tk, os⟩
    refine wpAny_bind (wpAny_seqItems hO₅ rfl ?_)
    show wpAny _ _ (newTuple [x, y] >>= fun v => _) _ _ ⟨h₅, g, d, tk, os⟩
    have hsz : h₅.objs.size = hp.objs.size := by rw [k₅.1, k₄.1, k₃.1, k₂.1, k₁.1]
    refine wpAny_bind (wpAny_newTuple ?_)
    rw [hsz]
    have up : ∀ {c o}, h₅.get? c = some o → (h₅.push { cls := .type "tuple", data := .seq #[x, y] }).get? c = some o := fun q => Heap.get?_push_of_some _ q
    have hN : IsPair (h₅.push { cls := .type "tuple", data := .seq #[x, y] }) hp.objs.size x y := by
      show _ = _
      rw [← hsz]; exact Heap.get?_push_size _ rfl
    have hz₆ := up hz₅
    have hO₆ := up hO₅
    have a₆ := a₅.at fun o q => up q
    have b₆ := b₅.at fun o q => up q
    have kk : ∀ c o, c ≠ z → c ≠ TO → c ≠ i1 → c ≠ i2 → hp.get? c = some o → (h₅.push { cls := .type "tuple", data := .seq #[x, y] }).get? c = some o := fun c o n1 n2 n3 n4 q => up (k₅.extBut c o n2 (k₄.extBut c o n4 (k₃.extBut c o n2 (k₂.extBut c o n3 (k₁.extBut c o n1 q)))))
    have hzl : z < hp.objs.size := Heap.lt_size hz
    have hOl : TO < hp.objs.size := Heap.lt_size hO
    generalize h₅.push { cls := .type "tuple", data := .seq #[x, y] } = h₆ at hN hz₆ hO₆ a₆ b₆ kk
    refine wpAny_bind (by
      unfold Builtin.SmallTypes.ownedTupleHandOut
      refine wpAny_bind (wpAny_setField_rec hz₆ (by simp) fun h₇ f₇ k₇ => ?_)
      have hz₇ : IsZip2 h₇ z (rawInt (hp.objs.size : Int)) f1 TI TO := f₇
      replace k₇ : Heap.SameBut z h₆ h₇ := k₇
      refine wpAny_setField_rec hz₇ (by simp) fun h₈ f₈ k₈ => ?_
      have hz₈ : IsZip2 h₈ z (rawInt (hp.objs.size : Int)) (.bool false) TI TO := f₈
      replace k₈ : Heap.SameBut z h₇ h₈ := k₈
      have up2 : ∀ c o, c ≠ z → h₆.get? c = some o → h₈.get? c = some o := fun c o n q => k₈.extBut c o n (k₇.extBut c o n q)
      exact wpAny_pure ⟨_, rfl, wpAny_pure (hQ h₈ _ _ _ _ hz₈ (.inr ⟨hp.objs.size, rfl⟩) (up2 _ _ ap.TOz hO₆) (a₆.at fun o q => up2 _ _ ap.i1z q) (b₆.at fun o q => up2 _ _ ap.i2z q) (up2 _ _ (Nat.ne_of_gt hzl) hN) fun c o n1 n2 n3 n4 q => up2 c o n1 (kk c o n1 n2 n3 n4 q))⟩)
  · replace sb : Heap.SameBut z hp h' := sb
    have a₁ : h'.IsTupleIter i1 l1 i := h1.at fun o q => sb.extBut i1 o ap.i1z q
    have b₁ : h'.IsTupleIter i2 l2 i := h2.at fun o q => sb.extBut i2 o ap.i2z q
    have c₁ : h'.IsTuple l1 xs := t1.extBut sb.extBut ap.l1z
    have d₁ : h'.IsTuple l2 ys := t2.extBut sb.extBut ap.l2z
    have hO₁ : IsPair h' TO a b := sb.extBut _ _ ap.TOz hO
    show wpAny _ _ (forIn #[Value.ref i1, Value.ref i2] (none, #[]) _ >>= fun v => _) _ _ ⟨h', g, d, tk, os⟩
    refine wpAny_bind ?_
    rw [show (#[Value.ref i1, Value.ref i2] : Array Value) = [Value.ref i1, Value.ref i2].toArray from rfl, List.forIn_toArray, List.forIn_cons]
    refine wpAny_bind (wpAny_bind (wpAny_holding ?_))
    show wpAny _ _ (Builtin.SmallTypes.nextOf (.ref i1) >>= fun v => pure (some v)) _ _ _
    refine wpAny_bind (nextOf_tup a₁ c₁ hx fun h₂ a₂ k₂ => wpAny_pure (wpAny_pure ?_))
    replace k₂ : Heap.SameBut i1 h' h₂ := k₂
    have hz₂ : IsZip2 h₂ z f0 (.bool true) TI TO := k₂.extBut _ _ (Ne.symm ap.i1z) hz'
    have hO₂ : IsPair h₂ TO a b := k₂.extBut _ _ ap.TOi1 hO₁
    have b₂ : h₂.IsTupleIter i2 l2 i := b₁.at fun o q => k₂.extBut i2 o (Ne.symm ap.i12) q
    have d₂ : h₂.IsTuple l2 ys := d₁.extBut k₂.extBut ap.l2i1
    show wpAny _ _ (forIn [Value.ref i2] (none, #[x]) _) _ _ ⟨h₂, g, d, tk, os⟩
    rw [List.forIn_cons]
    refine wpAny_bind (wpAny_bind (wpAny_holding ?_))
    show wpAny _ _ (Builtin.SmallTypes.nextOf (.ref i2) >>= fun v => pure (some v)) _ _ _
    refine wpAny_bind (nextOf_tup b₂ d₂ hy fun h₄ b₄ k₄ => wpAny_pure (wpAny_pure ?_))
    replace k₄ : Heap.SameBut i2 h₂ h₄ := k₄
    have hz₄ : IsZip2 h₄ z f0 (.bool true) TI TO := k₄.extBut _ _ (Ne.symm ap.i2z) hz₂
    have hO₄ : IsPair h₄ TO a b := k₄.extBut _ _ ap.TOi2 hO₂
    have a₄ : h₄.IsTupleIter i1 l1 (i + 1) := a₂.at fun o q => k₄.extBut i1 o ap.i12 q
    show wpAny _ _ (pure (none, #[x, y])) _ _ ⟨h₄, g, d, tk, os⟩
    refine wpAny_pure ?_
    show wpAny _ _ (newTuple [x, y] >>= fun v => _) _ _ ⟨h₄, g, d, tk, os⟩
    have hsz : h₄.objs.size = hp.objs.size := by rw [k₄.1, k₂.1, sb.1]
    refine wpAny_bind (wpAny_newTuple ?_)
    rw [hsz]
    have up : ∀ {c o}, h₄.get? c = some o → (h₄.push { cls := .type "tuple", data := .seq #[x, y] }).get? c = some o := fun q => Heap.get?_push_of_some _ q
    have hN : IsPair (h₄.push { cls := .type "tuple", data := .seq #[x, y] }) hp.objs.size x y := by
      show _ = _
      rw [← hsz]; exact Heap.get?_push_size _ rfl
    exact wpAny_pure ⟨_, rfl, wpAny_pure (hQ _ _ _ _ _ (up hz₄) hf (up hO₄) (a₄.at fun o q => up q) (b₄.at fun o q => up q) hN fun c o n1 n2 n3 n4 q => up (k₄.extBut c o n4 (k₂.extBut c o n3 (sb.extBut c o n1 q))))⟩
theorem zipT_end {z TI TO i1 i2 l1 l2 : Addr} {i : Nat} {xs : Array Value} {f0 f1 : Value} {Q : Option Value → Shared → Prop} (hh : A.handled = none) (ap : ZipApart z TI TO i1 i2 l1 l2) (hz : IsZip2 s.heap z f0 f1 TI TO) (hI : IsPair s.heap TI (.ref i1) (.ref i2))
    (h1 : s.heap.IsTupleIter i1 l1 i) (t1 : s.heap.IsTuple l1 xs) (hx : xs[i]? = none) (hf : f0 = .none ∨ ∃ T : Nat, f0 = rawInt T)
    (hQ : ∀ h', (∀ c o, c ≠ z → c ≠ i1 → s.heap.get? c = some o → h'.get? c = some o) → Q none { s with heap := h' }) : wpAny (model prog w) A (pyNext (.ref z)) Q E s := by
  have hT : s.TypeIs (.ref z) "zip" := ⟨_, hz, rfl⟩
  unfold pyNext
  refine wpAny_bind (wpAny_attempt (wpAny_callSpecial?_slot (name := Str.ofString "__next__") hT F.slot_zip_next (wpAny_call_entry F.slot_zip_next hT F.entry_zip_next ?_ (F.args_zip_next_1 _))))
  obtain ⟨hp, g, d, tk, os⟩ := s
  show wpAny _ _ (field (.ref z) 2 >>= fun v => _) _ _ _
  refine wpAny_bind (wpAny_field hz rfl (x := .bool false) (by rfl) ?_)
  show wpAny _ _ (field (.ref z) 3 >>= fun v => _) _ _ _
  refine wpAny_bind (wpAny_field hz rfl (x := .ref TI) (by rfl) (wpAny_bind (wpAny_seqItems hI rfl ?_)))
  show wpAny _ _ (Builtin.SmallTypes.ownedTupleIsFree (.ref z) >>= fun v => _) _ _ _
  have free : ∀ (Q' : Bool → Shared → Prop) E', Q' true ⟨hp, g, d, tk, os⟩ → (∀ h', IsZip2 h' z f0 (.bool true) TI TO → Heap.SameBut z hp h' → Q' false ⟨h', g, d, tk, os⟩) → wpAny (model prog w) A.in1 (Builtin.SmallTypes.ownedTupleIsFree (.ref z)) Q' E' ⟨hp, g, d, tk, os⟩ := by
    intro Q' E' q1 q2
    unfold Builtin.SmallTypes.ownedTupleIsFree
    refine wpAny_bind (wpAny_field hz rfl (x := f0) (by rfl) ?_)
    rcases hf with rfl | ⟨T, rfl⟩
    · exact wpAny_pure q1
    · show wpAny _ _ (loadIfAlive (T : Int).toNat >>= fun v => _) _ _ _
      refine wpAny_bind (wpAny_alive ?_)
      by_cases c : (hp.get? (T : Int).toNat).isNone = true
      · show wpAny _ _ (if (hp.get? (T : Int).toNat).isNone = true then _ else _) _ _ _
        rw [if_pos c]
        exact wpAny_pure q1
      · show wpAny _ _ (if (hp.get? (T : Int).toNat).isNone = true then _ else _) _ _ _
        rw [if_neg c]
        refine wpAny_bind (wpAny_field hz rfl (x := f1) (by rfl) ?_)
        by_cases c2 : f1 = .bool true
        · subst c2
          show wpAny _ _ (if (Value.bool true != Value.bool true) = true then _ else _) _ _ _
          rw [if_neg (by simp)]
          exact wpAny_pure (q2 hp hz ⟨rfl, fun _ _ => rfl⟩)
        · show wpAny _ _ (if (f1 != Value.bool true) = true then _ else _) _ _ _
          rw [if_pos (by simpa using c2)]
          exact wpAny_bind (wpAny_setField_rec hz (by simp) fun h' f' k' => wpAny_pure (q2 h' f' k'))
  have stop : ∀ (h' : Heap) (e : Addr), (∀ c o, c ≠ z → c ≠ i1 → hp.get? c = some o → h'.get? c = some o) → (∃ o, h'.get? e = some o ∧ o.cls = .type "StopIteration") → wpAny (model prog w) A (match (Except.error (Value.ref e) : Except Value (Option Value)) with
      | Except.ok (some v) => pure (some v)
      | Except.ok none => unsupported "iter:the-iterator's-class-has-lost-its-__next__-amid-the-walk"
      | Except.error e => do
        if ← isInstance e (.type "StopIteration") then pure none else throw e) Q E ⟨h', g, d, tk, os⟩ := fun h' e kk hs => by
    obtain ⟨o, ho, hc⟩ := hs
    exact wpAny_bind (wpAny_isInstance (T := "StopIteration") (b := true) ⟨o, ho, hc⟩ isSubtype_stop (wpAny_pure (hQ h' kk)))
  refine wpAny_bind (free _ _ ?_ fun h' hz' sb => ?_)
  · show wpAny _ _ (rule _ >>= fun _ => _) _ _ _
    refine wpAny_bind (wpAny_rule (wpAny_bind (wpAny_field hz rfl (x := .ref TO) (by rfl) ?_)))
    show wpAny _ _ (setField (.ref z) 0 .ellipsis >>= fun _ => _) _ _ _
    refine wpAny_bind (wpAny_setField_rec hz (by simp) fun h₁ f₁ k₁ => ?_)
    replace k₁ : Heap.SameBut z hp h₁ := k₁
    have hz₁ : IsZip2 h₁ z .ellipsis f1 TI TO := f₁
    have a₁ : h₁.IsTupleIter i1 l1 i := h1.at fun o q => k₁.extBut i1 o ap.i1z q
    have c₁ : h₁.IsTuple l1 xs := t1.extBut k₁.extBut ap.l1z
    refine wpAny_bind ?_
    show wpAny _ _ (forIn [(Value.ref i1, 0), (Value.ref i2, 1)] (none, ()) _) _ _ ⟨h₁, g, d, tk, os⟩
    rw [List.forIn_cons]
    refine wpAny_bind (wpAny_bind (wpAny_onRaise ?_))
    show wpAny _ _ (Builtin.SmallTypes.nextOf (.ref i1) >>= fun v => pure (some v)) _ _ _
    refine wpAny_bind (nextOf_tup_end (show A.in1.handled = none from hh) a₁ c₁ hx fun h₂ e k₂ hs => ?_)
    replace k₂ : Heap.ExtBut i1 h₁ h₂ := k₂
    have hz₂ : IsZip2 h₂ z .ellipsis f1 TI TO := k₂ _ _ (Ne.symm ap.i1z) hz₁
    refine wpAny_setField_rec hz₂ (by simp) fun h₃ f₃ k₃ => ?_
    replace k₃ : Heap.SameBut z h₂ h₃ := k₃
    refine stop h₃ e (fun c o n1 n2 q => k₃.extBut c o n1 (k₂ c o n2 (k₁.extBut c o n1 q))) ?_
    obtain ⟨o, ho, hc⟩ := hs
    have ne : e ≠ z := fun y => by
      rw [y] at ho
      have := Option.some.inj (ho.symm.trans hz₂)
      rw [this] at hc
      exact absurd (show Value.type "zip" = Value.type "StopIteration" from hc) (by decide)
    exact ⟨o, k₃.extBut e o ne ho, hc⟩
  · replace sb : Heap.SameBut z hp h' := sb
    have a₁ : h'.IsTupleIter i1 l1 i := h1.at fun o q => sb.extBut i1 o ap.i1z q
    have c₁ : h'.IsTuple l1 xs := t1.extBut sb.extBut ap.l1z
    show wpAny _ _ (forIn #[Value.ref i1, Value.ref i2] (none, #[]) _ >>= fun v => _) _ _ ⟨h', g, d, tk, os⟩
    refine wpAny_bind ?_
    rw [show (#[Value.ref i1, Value.ref i2] : Array Value) = [Value.ref i1, Value.ref i2].toArray from rfl, List.forIn_toArray, List.forIn_cons]
    refine wpAny_bind (wpAny_bind (wpAny_holding ?_))
    show wpAny _ _ (Builtin.SmallTypes.nextOf (.ref i1) >>= fun v => pure (some v)) _ _ _
    refine wpAny_bind (nextOf_tup_end (show A.in1.handled = none from hh) a₁ c₁ hx fun h₂ e k₂ hs => ?_)
    replace k₂ : Heap.ExtBut i1 h' h₂ := k₂
    exact stop h₂ e (fun c o n1 n2 q => k₂ c o n2 (sb.extBut c o n1 q)) hs
end
end L2

set_option Elab.async false
set_option linter.all false
set_option maxRecDepth 100000
set_option maxHeartbeats 4000000
namespace L2
open PySem PySem.Spec PyProof.Rows
def zT (h : Heap) (l1 l2 : Addr) : Heap :=
  ((((h.push { cls := .type "tuple_iterator", data := .fields #[.ref l1, .int 0 0] }).push { cls := .type "tuple_iterator", data := .fields #[.ref l2, .int 0 0] }).push
    { cls := .type "tuple", data := .seq #[.ref h.objs.size, .ref (h.objs.size + 1)] }).push { cls := .type "tuple", data := .seq #[.none, .none] }).push
    { cls := .type "zip", data := .fields #[.none, .bool false, .bool false, .ref (h.objs.size + 2), .ref (h.objs.size + 3)] }
theorem newClass_zip (a b : Value) : Builtin.SmallTypes.newClass "zip" ⟨[.type "zip", a, b], []⟩ = pure (.type "zip", [a, b]) := by
  unfold Builtin.SmallTypes.newClass
  show (isType (.type "zip") >>= fun v => _) = _
  have e : isType (.type "zip") = pure true := rfl
  rw [e]
  show (isSubtype (.type "zip") (.type "zip") >>= fun v => _) = _
  rw [sub_zip]
  rfl
theorem meets_zipT (l1 l2 : Addr) (xs ys : Array Value) : Meets (Builtin.«zip.__new__» ⟨[.type "zip", .ref l1, .ref l2], []⟩) fun _ R s =>
    s.heap.IsTuple l1 xs ∧ s.heap.IsTuple l2 ys ∧ R (.ok (.ret (.ref (s.heap.objs.size + 4)))) { s with heap := zT s.heap l1 l2 } := by
  refine Meets.of_wp fun prog w A R s h => ?_
  obtain ⟨t1, t2, q⟩ := h
  obtain ⟨hp, g, d, tk, os⟩ := s
  unfold Builtin.«zip.__new__»
  rw [newClass_zip]
  refine wpAny_bind (wpAny_pure ?_)
  show wpAny _ _ (Builtin.SmallTypes.iterAll [.ref l1, .ref l2] >>= fun v => _) _ _ _
  refine wpAny_bind (by
    unfold Builtin.SmallTypes.iterAll
    refine wpAny_bind ?_
    rw [List.forIn_cons]
    refine wpAny_bind (wpAny_bind (wpAny_holding (wpAny_pyIter_tuple t1 (wpAny_pure ?_))))
    show wpAny _ _ (forIn [Value.ref l2] #[Value.ref hp.objs.size] _) _ _ _
    rw [List.forIn_cons]
    refine wpAny_bind (wpAny_bind (wpAny_holding (wpAny_pyIter_tuple (t2.push _) (wpAny_pure ?_))))
    show wpAny _ _ (pure #[Value.ref hp.objs.size, Value.ref _]) _ _ _
    refine wpAny_pure (wpAny_pure ?_)
    show wpAny _ _ (newTuple [.ref hp.objs.size, .ref _] >>= fun v => _) _ _ _
    refine wpAny_bind (wpAny_newTuple ?_)
    show wpAny _ _ (newTuple [.none, .none] >>= fun v => _) _ _ _
    refine wpAny_bind (wpAny_newTuple ?_)
    show wpAny _ _ (newObj (.type "zip") (.fields #[.none, .bool false, .bool false, .ref _, .ref _]) >>= fun v => _) _ _ _
    refine wpAny_bind (wpAny_newObj_type ?_ (by size_fits))
    refine wpAny_pure ⟨_, rfl, ?_⟩
    simp only [Heap.size_push]
    exact q)
theorem call_zipT {prog : Program} {w : World} {A : Around} {E : Value → Shared → Prop} {s : Shared} {l1 l2 : Addr} {xs ys : Array Value} {Q : Value → Shared → Prop} (t1 : s.heap.IsTuple l1 xs) (t2 : s.heap.IsTuple l2 ys)
    (hQ : Q (.ref (s.heap.objs.size + 4)) { s with heap := zT s.heap l1 l2 }) : wpAny (model prog w) A (call (.type "zip") [.ref l1, .ref l2]) Q E s := by
  refine callType_new F.called_zip rfl (F.typeCall_zip_2 _ _) (F.newCall_zip_2 _ _) (fun obj => F.args_object_init_3 _ _ _) F.entry_zip_new (meets_zipT l1 l2 xs ys) ⟨t1, t2, ?_⟩
  refine ⟨?_, hQ⟩
  refine ⟨{ cls := .type "zip", data := .fields #[.none, .bool false, .bool false, .ref (s.heap.objs.size + 2), .ref (s.heap.objs.size + 3)] }, ?_, rfl⟩
  show (zT s.heap l1 l2).get? (s.heap.objs.size + 4) = _
  unfold zT
  have e : ((((s.heap.push { cls := .type "tuple_iterator", data := .fields #[.ref l1, .int 0 0] }).push { cls := .type "tuple_iterator", data := .fields #[.ref l2, .int 0 0] }).push
    { cls := .type "tuple", data := .seq #[.ref s.heap.objs.size, .ref (s.heap.objs.size + 1)] }).push { cls := .type "tuple", data := .seq #[.none, .none] }).objs.size = s.heap.objs.size + 4 := by simp only [Heap.size_push]
  rw [← e]
  exact Heap.get?_push_size _ rfl
end L2

set_option Elab.async false
set_option linter.all false
set_option maxRecDepth 100000
set_option maxHeartbeats 4000000
namespace L2
open PySem PySem.Spec PyProof.Rows
structure ZSt (h : Heap) (z TI TO i1 i2 l1 l2 : Addr) (xs ys : Array Value) (i : Nat) : Prop where
  hz : ∃ f0 f1, IsZip2 h z f0 f1 TI TO ∧ (f0 = .none ∨ ∃ T : Nat, f0 = rawInt T)
  hI : IsPair h TI (.ref i1) (.ref i2)
  hO : ∃ a b, IsPair h TO a b
  h1 : h.IsTupleIter i1 l1 i
  h2 : h.IsTupleIter i2 l2 i
  t1 : h.IsTuple l1 xs
  t2 : h.IsTuple l2 ys
theorem tuple_at {h h' : Heap} {l : Addr} {xs : Array Value} (t : h.IsTuple l xs) (k : ∀ o, h.get? l = some o → h'.get? l = some o) : h'.IsTuple l xs := by
  obtain ⟨o, a, b, c⟩ := t
  exact ⟨o, k o a, b, c⟩
def AccOk (h : Heap) (N : Nat) (xs ys acc : Array Value) : Prop := ∃ Ts : List Nat, acc.toList = Ts.map Value.ref ∧ Ts.Pairwise (· < ·) ∧ ∀ (j T : Nat), Ts[j]? = some T → N ≤ T ∧ ∃ x y : Value, IsPair h T x y ∧ xs[j]? = some x ∧ ys[j]? = some y
theorem AccOk.keep {h h' : Heap} {N : Nat} {xs ys acc : Array Value} (a : AccOk h N xs ys acc) (k : ∀ (T : Nat) o, N ≤ T → h.get? T = some o → h'.get? T = some o) : AccOk h' N xs ys acc := by
  obtain ⟨Ts, e1, e2, e3⟩ := a
  refine ⟨Ts, e1, e2, fun j T hj => ?_⟩
  obtain ⟨l, x, y, p, q⟩ := e3 j T hj
  exact ⟨l, x, y, k T _ l p, q⟩
theorem AccOk.more {h : Heap} {N T0 : Nat} {xs ys acc : Array Value} {x y : Value} (a : AccOk h N xs ys acc) (lt : ∀ (Ts : List Nat), acc.toList = Ts.map Value.ref → ∀ T ∈ Ts, T < T0) (hN : N ≤ T0) (p : IsPair h T0 x y) (hx : xs[acc.size]? = some x) (hy : ys[acc.size]? = some y) : AccOk h N xs ys (acc.push (.ref T0)) := by
  obtain ⟨Ts, e1, e2, e3⟩ := a
  have el : Ts.length = acc.size := by
    have := congrArg List.length e1
    rw [List.length_map] at this
    rw [← this]; simp
  refine ⟨Ts ++ [T0], by rw [Array.toList_push, e1, List.map_append]; rfl, List.pairwise_append.mpr ⟨e2, by simp, fun T hT b hb => by rw [List.mem_singleton.mp hb]; exact lt Ts e1 T hT⟩, fun j T hj => ?_⟩
  by_cases c : j < Ts.length
  · rw [List.getElem?_append_left c] at hj
    exact e3 j T hj
  · rw [List.getElem?_append_right (by omega)] at hj
    have c2 : j - Ts.length = 0 := by
      have := (List.getElem?_eq_some_iff.mp hj).1
      simp at this
      omega
    rw [c2] at hj
    cases hj
    have : j = acc.size := by omega
    rw [this]
    exact ⟨hN, x, y, p, hx, hy⟩
theorem zip_loop {prog : Program} {w : World} {A : Around} {R : Result → Shared → Prop} {S z TI TO i1 i2 l1 l2 : Addr} {xs ys : Array Value} {res : Value} {N n : Nat} (hh : A.handled = none) (ap : ZipApart z TI TO i1 i2 l1 l2) (ex : xs.size = n) (ey : ys.size = n) (hn : n ≤ 1000000)
    (lz : z < N ∧ TI < N ∧ TO < N ∧ i1 < N ∧ i2 < N ∧ l1 < N ∧ l2 < N ∧ S < N) (nS : S ≠ z ∧ S ≠ TI ∧ S ≠ TO ∧ S ≠ i1 ∧ S ≠ i2 ∧ S ≠ l1 ∧ S ≠ l2) :
    ∀ (k i : Nat) (s : Shared) (acc : Array Value) (c : Nat), n - i = k → i ≤ n → N ≤ s.heap.objs.size → ZSt s.heap z TI TO i1 i2 l1 l2 xs ys i → s.heap.get? S = some { cls := .type "list", data := .seq acc c } → acc.size = i → AccOk s.heap N xs ys acc →
      (∀ (h' : Heap) (acc' : Array Value) (c' : Nat), (∀ b o, b ≠ S → b ≠ z → b ≠ TO → b ≠ i1 → b ≠ i2 → s.heap.get? b = some o → h'.get? b = some o) → h'.get? S = some { cls := .type "list", data := .seq acc' c' } → acc'.size = n → AccOk h' N xs ys acc' → R (.ok (.ret res)) { s with heap := h' }) →
      codeAny (model prog w) A (Code.builtin "list.extend.loop" ⟨[.ref S, .ref z, res], []⟩) R s := by
  have far : ∀ T : Nat, N ≤ T → T ≠ S ∧ T ≠ z ∧ T ≠ TO ∧ T ≠ i1 ∧ T ≠ i2 := fun T h => ⟨Nat.ne_of_gt (Nat.lt_of_lt_of_le lz.2.2.2.2.2.2.2 h), Nat.ne_of_gt (Nat.lt_of_lt_of_le lz.1 h), Nat.ne_of_gt (Nat.lt_of_lt_of_le lz.2.2.1 h), Nat.ne_of_gt (Nat.lt_of_lt_of_le lz.2.2.2.1 h), Nat.ne_of_gt (Nat.lt_of_lt_of_le lz.2.2.2.2.1 h)⟩
  intro k
  induction k with
  | zero =>
    intro i s acc c hk hi hN st hS ha hacc q
    have e : i = n := by omega
    subst e
    refine codeAny_builtin F.entry_extend_loop ?_
    rw [Around.under_plainId F.plain_extend_loop]
    show wpAny _ _ (pyNext (.ref z) >>= fun v => _) _ _ _
    obtain ⟨f0, f1, hz, hf⟩ := st.hz
    refine wpAny_bind (zipT_end (show A.in1.handled = none from hh) ap hz st.hI st.h1 st.t1 (by rw [Array.getElem?_eq_none (by omega)]) hf fun h' kk => ?_)
    refine wpAny_pure ?_
    exact q h' acc c (fun b o n1 n2 n3 n4 n5 hb => kk b o n2 n4 hb) (kk _ _ nS.1 nS.2.2.2.1 hS) ha (hacc.keep fun T o l hT => kk _ _ (far T l).2.1 (far T l).2.2.2.1 hT)
  | succ k ih =>
    intro i s acc c hk hi hN st hS ha hacc q
    refine codeAny_builtin F.entry_extend_loop ?_
    rw [Around.under_plainId F.plain_extend_loop]
    show wpAny _ _ (pyNext (.ref z) >>= fun v => _) _ _ _
    obtain ⟨f0, f1, hz, hf⟩ := st.hz
    obtain ⟨a, b, hO⟩ := st.hO
    obtain ⟨x0, hx⟩ : ∃ x0, xs[i]? = some x0 := ⟨xs[i]'(by omega), Array.getElem?_eq_getElem (by omega)⟩
    obtain ⟨y0, hy⟩ : ∃ y0, ys[i]? = some y0 := ⟨ys[i]'(by omega), Array.getElem?_eq_getElem (by omega)⟩
    refine wpAny_bind (zipT_item (A := A.in1) ap hz st.hI hO st.h1 st.h2 st.t1 st.t2 hx hy hf fun h' f0' f1' a' b' hz' hf' hO' h1' h2' hN' kk => ?_)
    show wpAny _ _ (updateSeq S (fun u => u.push (.ref s.heap.objs.size)) >>= fun _ => _) _ _ _
    have hS' : h'.get? S = some { cls := .type "list", data := .seq acc c } := kk _ _ nS.1 nS.2.2.1 nS.2.2.2.1 nS.2.2.2.2.1 hS
    have sz1 : acc.size ≤ sizeLine := fits (by omega)
    have sz2 : (acc.push (Value.ref s.heap.objs.size)).size ≤ sizeLine + 1 := by rw [Array.size_push]; omega
    refine wpAny_bind (wpAny_updateSeq hS' rfl ?_ sz1 sz2)
    refine wpAny_pure ⟨plainId_quiet F.plain_extend_loop _, ?_⟩
    have up : ∀ b o, b ≠ S → h'.get? b = some o → (h'.update S (Obj.mapSeq fun u => u.push (.ref s.heap.objs.size))).get? b = some o := fun b o nb hb => by
      rw [Heap.get?_update_other _ _ (Ne.symm nb)]; exact hb
    have lt : ∀ b o, s.heap.get? b = some o → b ≠ s.heap.objs.size := fun b o hb => Nat.ne_of_lt (Heap.lt_size hb)
    obtain ⟨c2, hSn⟩ : ∃ c2, (h'.update S (Obj.mapSeq fun u => u.push (.ref s.heap.objs.size))).get? S = some { cls := .type "list", data := .seq (acc.push (.ref s.heap.objs.size)) c2 } := ⟨_, Heap.get?_update_self _ hS' rfl⟩
    have hNn := up _ _ (far _ hN).1 hN'
    generalize h'.update S (Obj.mapSeq fun u => u.push (.ref s.heap.objs.size)) = h₂ at up hSn hNn
    have st₂ : ZSt h₂ z TI TO i1 i2 l1 l2 xs ys (i + 1) := ⟨⟨f0', f1', up _ _ nS.1.symm hz', hf'⟩, up _ _ nS.2.1.symm (kk _ _ ap.TIz ap.TITO ap.TIi1 ap.TIi2 st.hI), ⟨a', b', up _ _ nS.2.2.1.symm hO'⟩,
      h1'.at fun o q => up _ _ nS.2.2.2.1.symm q, h2'.at fun o q => up _ _ nS.2.2.2.2.1.symm q, tuple_at st.t1 fun o q => up _ _ nS.2.2.2.2.2.1.symm (kk _ _ ap.l1z ap.l1TO ap.l1i1 ap.l1i2 q), tuple_at st.t2 fun o q => up _ _ nS.2.2.2.2.2.2.symm (kk _ _ ap.l2z ap.l2TO ap.l2i1 ap.l2i2 q)⟩
    refine ih (i + 1) ⟨h₂, s.gens, s.drawn, s.toks, s.os⟩ (acc.push (.ref s.heap.objs.size)) c2 (by omega) (by omega) (Nat.le_trans hN (Nat.le_of_lt (Heap.lt_size hNn))) st₂ hSn (by rw [Array.size_push, ha]) ?_ fun h₃ acc' c' k₃ e₃ s₃ a₃ => ?_
    · have acc2 : AccOk h₂ N xs ys acc := hacc.keep fun T o l hT => up _ _ (far T l).1 (kk _ _ (far T l).2.1 (far T l).2.2.1 (far T l).2.2.2.1 (far T l).2.2.2.2 hT)
      refine acc2.more (fun Ts eT T hT => ?_) hN hNn (by rw [ha]; exact hx) (by rw [ha]; exact hy)
      obtain ⟨Ts', e1, _, e3⟩ := hacc
      have : Ts' = Ts := by
        have e := e1.symm.trans eT
        exact List.map_inj_right (fun _ _ z => by cases z; rfl) |>.mp e
      subst this
      obtain ⟨j, hj⟩ := List.getElem?_of_mem hT
      obtain ⟨_, x, y, p, _⟩ := e3 j T hj
      exact Heap.lt_size p
    · exact q h₃ acc' c' (fun b o n1 n2 n3 n4 n5 hb => k₃ b o n1 n2 n3 n4 n5 (up _ _ n1 (kk _ _ n2 n3 n4 n5 hb))) e₃ s₃ a₃
end L2

set_option Elab.async false
set_option linter.all false
set_option maxRecDepth 100000
set_option maxHeartbeats 4000000
namespace L2
open PySem PySem.Spec PyProof.Rows
theorem ZSt.keep {h h' : Heap} {z TI TO i1 i2 l1 l2 : Addr} {xs ys : Array Value} {i : Nat} (st : ZSt h z TI TO i1 i2 l1 l2 xs ys i) (k : ∀ b o, h.get? b = some o → h'.get? b = some o) : ZSt h' z TI TO i1 i2 l1 l2 xs ys i := by
  obtain ⟨⟨f0, f1, a, b⟩, hI, ⟨c, d, hO⟩, h1, h2, t1, t2⟩ := st
  exact ⟨⟨f0, f1, k _ _ a, b⟩, k _ _ hI, ⟨c, d, k _ _ hO⟩, h1.at fun o q => k _ _ q, h2.at fun o q => k _ _ q, tuple_at t1 fun o q => k _ _ q, tuple_at t2 fun o q => k _ _ q⟩
theorem zip_no_len : typeLookup (.type "zip") (Str.ofString "__len__") = pure none := by kernel_rfl
theorem zip_no_hint : typeLookup (.type "zip") (Str.ofString "__length_hint__") = pure none := by kernel_rfl
theorem call_listZ {prog : Program} {w : World} {A : Around} {E : Value → Shared → Prop} {s : Shared} {z TI TO i1 i2 l1 l2 : Addr} {xs ys : Array Value} {n : Nat} {Q : Value → Shared → Prop} (hh : A.handled = none) (ap : ZipApart z TI TO i1 i2 l1 l2) (ex : xs.size = n) (ey : ys.size = n) (hn : n ≤ 1000000)
    (hz0 : IsZip2 s.heap z .none (.bool false) TI TO) (st : ZSt s.heap z TI TO i1 i2 l1 l2 xs ys 0) (lz : z < s.heap.objs.size ∧ TI < s.heap.objs.size ∧ TO < s.heap.objs.size ∧ i1 < s.heap.objs.size ∧ i2 < s.heap.objs.size ∧ l1 < s.heap.objs.size ∧ l2 < s.heap.objs.size)
    (hQ : ∀ (h' : Heap) (acc : Array Value) (c : Nat), (∀ b o, b ≠ z → b ≠ TO → b ≠ i1 → b ≠ i2 → s.heap.get? b = some o → h'.get? b = some o) → h'.get? s.heap.objs.size = some { cls := .type "list", data := .seq acc c } → acc.size = n → AccOk h' (s.heap.objs.size + 1) xs ys acc → Q (.ref s.heap.objs.size) { s with heap := h' }) :
    wpAny (model prog w) A (call (.type "list") [.ref z]) Q E s := by
  refine callType_codes (Q₁ := fun obj s₁ => obj = .ref s.heap.objs.size ∧ s₁ = { s with heap := s.heap.push { cls := .type "list", data := .seq #[] } }) F.called_list (F.typeCall_list_1 _) F.entry_list_init (code_list_new _ ⟨rfl, rfl⟩) ?_
  rintro obj s₁ ⟨rfl, rfl⟩
  refine ⟨⟨_, Heap.get?_push_size _ rfl, rfl⟩, F.args_list_init_2 _ _, ?_⟩
  have hS : (s.heap.push { cls := .type "list", data := .seq #[] }).get? s.heap.objs.size = some { cls := .type "list", data := .seq #[] } := Heap.get?_push_size _ rfl
  have up : ∀ b o, s.heap.get? b = some o → (s.heap.push { cls := .type "list", data := .seq #[] }).get? b = some o := fun b o q => Heap.get?_push_of_some _ q
  have lsz : s.heap.objs.size < (s.heap.push { cls := .type "list", data := .seq #[] }).objs.size := Heap.lt_size hS
  generalize s.heap.push { cls := .type "list", data := .seq #[] } = h₁ at hS up lsz
  show wpAny _ _ (Builtin.List.listItems (.ref s.heap.objs.size) >>= fun v => _) _ _ _
  refine wpAny_bind (by
    unfold Builtin.List.listItems
    refine wpAny_bind (wpAny_seqItems hS rfl (wpAny_pure ?_))
    show wpAny _ _ (updateSeq s.heap.objs.size (fun _ => #[]) >>= fun _ => _) _ _ _
    refine wpAny_bind (wpAny_updateSeq hS rfl ?_ (by decide) (by decide))
    refine wpAny_bind (wpAny_letGo ?_)
    have hS₂ : ∃ c2, (h₁.update s.heap.objs.size (Obj.mapSeq fun _ => #[])).get? s.heap.objs.size = some { cls := .type "list", data := .seq #[] c2 } := ⟨_, Heap.get?_update_self _ hS rfl⟩
    obtain ⟨c2, hS₂⟩ := hS₂
    have up₂ : ∀ b o, b ≠ s.heap.objs.size → h₁.get? b = some o → (h₁.update s.heap.objs.size (Obj.mapSeq fun _ => #[])).get? b = some o := fun b o nb q => by rw [Heap.get?_update_other _ _ (Ne.symm nb)]; exact q
    show wpAny _ _ (Builtin.List.listExtendWith (.ref s.heap.objs.size) (.ref z) .none) _ _ _
    generalize h₁.update s.heap.objs.size (Obj.mapSeq fun _ => #[]) = h₂ at hS₂ up₂
    have nz : z ≠ s.heap.objs.size := Nat.ne_of_lt lz.1
    have ko : ∀ b o, s.heap.get? b = some o → h₂.get? b = some o := fun b o q => up₂ _ _ (Nat.ne_of_lt (Heap.lt_size q)) (up _ _ q)
    have hz₂ := ko _ _ hz0
    unfold Builtin.List.listExtendWith
    refine wpAny_bind (wpAny_typeOf (T := "zip") ⟨_, hz₂, rfl⟩ ?_)
    rw [if_neg (by
      show ¬ ((s.heap.objs.size == z) || (Value.type "zip" == Value.type "list") || (Value.type "zip" == Value.type "tuple")) = true
      simp [Ne.symm nz])]
    refine wpAny_bind (wpAny_pyIter_zip hz₂ ?_)
    refine wpAny_bind (wpAny_holding ?_)
    unfold Builtin.List.listLengthHint
    refine wpAny_bind (wpAny_specialOf (T := "zip") ⟨_, hz₂, rfl⟩ zip_no_len ?_)
    show wpAny _ _ (specialOf (.ref z) (Str.ofString "__length_hint__") >>= fun v => _) _ _ _
    refine wpAny_bind (wpAny_specialOf (T := "zip") ⟨_, hz₂, rfl⟩ zip_no_hint ?_)
    show wpAny _ _ (pure true) _ _ _
    refine wpAny_pure ?_
    show wpAny _ _ (rule _ >>= fun _ => _) _ _ _
    refine wpAny_bind (wpAny_rule (wpAny_bind ?_))
    unfold Builtin.List.listTouch
    show wpAny _ _ (updateSeq s.heap.objs.size (fun x => x.push Value.none) >>= fun _ => _) _ _ _
    refine wpAny_bind (wpAny_updateSeq hS₂ rfl ?_ (by decide) (by decide))
    obtain ⟨c3, hS₃⟩ : ∃ c3, (h₂.update s.heap.objs.size (Obj.mapSeq fun x => x.push Value.none)).get? s.heap.objs.size = some { cls := .type "list", data := .seq #[Value.none] c3 } := ⟨_, Heap.get?_update_self _ hS₂ rfl⟩
    have up₃ : ∀ b o, b ≠ s.heap.objs.size → h₂.get? b = some o → (h₂.update s.heap.objs.size (Obj.mapSeq fun x => x.push Value.none)).get? b = some o := fun b o nb q => by rw [Heap.get?_update_other _ _ (Ne.symm nb)]; exact q
    show wpAny _ _ (updateSeq s.heap.objs.size (fun x => x.pop)) _ _ ⟨h₂.update s.heap.objs.size (Obj.mapSeq fun x => x.push Value.none), s.gens, s.drawn, s.toks, s.os⟩
    generalize h₂.update s.heap.objs.size (Obj.mapSeq fun x => x.push Value.none) = h₃ at hS₃ up₃
    refine wpAny_updateSeq hS₃ rfl ?_ (by decide) (by decide)
    obtain ⟨c4, hS₄⟩ : ∃ c4, (h₃.update s.heap.objs.size (Obj.mapSeq fun x => x.pop)).get? s.heap.objs.size = some { cls := .type "list", data := .seq #[] c4 } := ⟨_, Heap.get?_update_self _ hS₃ rfl⟩
    have up₄ : ∀ b o, b ≠ s.heap.objs.size → h₃.get? b = some o → (h₃.update s.heap.objs.size (Obj.mapSeq fun x => x.pop)).get? b = some o := fun b o nb q => by rw [Heap.get?_update_other _ _ (Ne.symm nb)]; exact q
    show wpAny _ _ (again (Code.builtin "list.extend.loop" ⟨[.ref s.heap.objs.size, .ref z, .none], []⟩)) _ _ ⟨h₃.update s.heap.objs.size (Obj.mapSeq fun x => x.pop), s.gens, s.drawn, s.toks, s.os⟩
    generalize h₃.update s.heap.objs.size (Obj.mapSeq fun x => x.pop) = h₄ at hS₄ up₄
    have ko₄ : ∀ b o, s.heap.get? b = some o → h₄.get? b = some o := fun b o q => up₄ _ _ (Nat.ne_of_lt (Heap.lt_size q)) (up₃ _ _ (Nat.ne_of_lt (Heap.lt_size q)) (ko _ _ q))
    refine wpAny_pure ⟨plainId_quiet F.plain_extend_loop _, ?_⟩
    have lS := Heap.lt_size hS₄
    refine zip_loop (N := s.heap.objs.size + 1) (n := n) (show A.in1.handled = none from hh) ap ex ey hn ⟨Nat.lt_succ_of_lt lz.1, Nat.lt_succ_of_lt lz.2.1, Nat.lt_succ_of_lt lz.2.2.1, Nat.lt_succ_of_lt lz.2.2.2.1, Nat.lt_succ_of_lt lz.2.2.2.2.1, Nat.lt_succ_of_lt lz.2.2.2.2.2.1, Nat.lt_succ_of_lt lz.2.2.2.2.2.2, Nat.lt_succ_self _⟩
      ⟨Nat.ne_of_gt lz.1, Nat.ne_of_gt lz.2.1, Nat.ne_of_gt lz.2.2.1, Nat.ne_of_gt lz.2.2.2.1, Nat.ne_of_gt lz.2.2.2.2.1, Nat.ne_of_gt lz.2.2.2.2.2.1, Nat.ne_of_gt lz.2.2.2.2.2.2⟩ (n - 0) 0 ⟨h₄, s.gens, s.drawn, s.toks, s.os⟩ #[] c4 rfl (Nat.zero_le _) lS (st.keep ko₄) hS₄ rfl ⟨[], rfl, .nil, fun j T hj => by simp at hj⟩ fun h' acc' c' k' e' s' a' => ?_
    refine ⟨rfl, hQ h' acc' c' (fun b o n1 n2 n3 n4 q => k' b o (Nat.ne_of_lt (Heap.lt_size q)) n1 n2 n3 n4 (ko₄ _ _ q)) e' s' a'⟩)
end L2

set_option Elab.async false
set_option linter.all false
set_option maxRecDepth 100000
set_option maxHeartbeats 4000000
namespace L2
open PySem PySem.Spec PyProof.Rows
theorem Inv.laidN {X : Cx} {pins : List (Addr × Obj)} {σ : St} {H H' : Hp} {s : Shared} {h' : Heap} {t' : Nat} (I : Inv X pins σ H s) (k : ∀ b u, s.heap.get? b = some u → h'.get? b = some u) (hold : ∀ b : Nat, b < s.heap.objs.size → H' b = H b)
    (new : ∀ (b : Nat) u, s.heap.objs.size ≤ b → H' b = some u → ObjOk X.prog X.w H' h' b u) : Inv X pins σ H' { s with heap := h', toks := t' } := by
  have lt : ∀ b u, H b = some u → b < s.heap.objs.size := fun b u e => Nat.lt_of_not_le fun z => by rw [I.hok.fresh z] at e; cases e
  refine I.un ⟨fun b o e _ _ _ => k b o e, fun b o e _ _ _ => ⟨o.slots, k b o e⟩, fun b o e n _ => ?_, fun b o e _ => ⟨o, k b o e⟩, fun b xs e => ?_, fun b o u e => ?_, fun b ps e => ⟨#[], ?_⟩⟩ fun b u e => ?_
  · rw [hold b (Heap.lt_size e)]; exact n
  · rw [hold b (lt b _ e)]; exact e
  · rw [hold b (lt b _ e)]; exact e
  · rw [hold b (lt b _ e), e]; simp
  · by_cases c : b < s.heap.objs.size
    · rw [hold b c] at e
      exact (I.hok b u e).stay (fun c v _ q => k c v q) (fun c q => by rw [hold c (lt c _ q)]; exact q) fun c xs q => by rw [hold c (lt c _ q)]; exact q
    · exact new b u (Nat.le_of_not_lt c) e
theorem zT_size (h : Heap) (l1 l2 : Addr) : (zT h l1 l2).objs.size = h.objs.size + 5 := by
  unfold zT
  simp only [Heap.size_push]
theorem zT_old {h : Heap} {l1 l2 b : Addr} {o : Obj} (q : h.get? b = some o) : (zT h l1 l2).get? b = some o := by
  unfold zT
  exact Heap.get?_push_of_some _ (Heap.get?_push_of_some _ (Heap.get?_push_of_some _ (Heap.get?_push_of_some _ (Heap.get?_push_of_some _ q))))
theorem push_at {h : Heap} {o : Obj} {n : Nat} (e : h.objs.size = n) (f : o.isFreed = false) : (h.push o).get? n = some o := by
  rw [← e]; exact Heap.get?_push_size _ f
theorem zT_zip (h : Heap) (l1 l2 : Addr) : IsZip2 (zT h l1 l2) (h.objs.size + 4) .none (.bool false) (h.objs.size + 2) (h.objs.size + 3) := by
  unfold zT
  exact push_at (by simp only [Heap.size_push]) rfl
theorem zT_st {h : Heap} {l1 l2 : Addr} {xs ys : Array Value} (t1 : h.IsTuple l1 xs) (t2 : h.IsTuple l2 ys) : ZSt (zT h l1 l2) (h.objs.size + 4) (h.objs.size + 2) (h.objs.size + 3) h.objs.size (h.objs.size + 1) l1 l2 xs ys 0 := by
  refine ⟨⟨_, _, zT_zip h l1 l2, .inl rfl⟩, ?_, ⟨.none, .none, ?_⟩, ⟨{ cls := .type "tuple_iterator", data := .fields #[.ref l1, .int 0 0] }, ?_, rfl, rfl⟩, ⟨{ cls := .type "tuple_iterator", data := .fields #[.ref l2, .int 0 0] }, ?_, rfl, rfl⟩, tuple_at t1 fun o q => zT_old q, tuple_at t2 fun o q => zT_old q⟩
  · exact Heap.get?_push_of_some _ (Heap.get?_push_of_some _ (push_at (by simp only [Heap.size_push]) rfl))
  · exact Heap.get?_push_of_some _ (push_at (by simp only [Heap.size_push]) rfl)
  · exact Heap.get?_push_of_some _ (Heap.get?_push_of_some _ (Heap.get?_push_of_some _ (Heap.get?_push_of_some _ (push_at rfl rfl))))
  · exact Heap.get?_push_of_some _ (Heap.get?_push_of_some _ (Heap.get?_push_of_some _ (push_at (by simp only [Heap.size_push]) rfl)))
theorem lookup_zip {α : Type} : ∀ {ts : List Nat} {ps : List α} {j T : Nat} {p : α}, ts.Pairwise (· < ·) → ts[j]? = some T → ps[j]? = some p → (ts.zip ps).lookup T = some p
  | t :: ts, q :: ps, 0, T, p, _, e1, e2 => by
    cases e1; cases e2
    simp
  | t :: ts, q :: ps, j + 1, T, p, h, e1, e2 => by
    have hp := List.pairwise_cons.mp h
    have hT : T ∈ ts := List.mem_of_getElem? (show ts[j]? = some T from e1)
    have ne : (T == t) = false := beq_eq_false_iff_ne.mpr (fun z => by have := hp.1 T hT; omega)
    rw [List.zip_cons_cons, List.lookup_cons, ne]
    exact lookup_zip hp.2 e1 e2
  | [], _, _, _, _, _, e1, _ => by simp at e1
  | _ :: _, [], _, _, _, _, _, e2 => by simp at e2
theorem lookup_some {α : Type} : ∀ {ts : List Nat} {ps : List α} {T : Nat} {p : α}, (ts.zip ps).lookup T = some p → ∃ j : Nat, ts[j]? = some T ∧ ps[j]? = some p
  | t :: ts, q :: ps, T, p, h => by
    rw [List.zip_cons_cons, List.lookup_cons] at h
    cases c : T == t with
    | true =>
      rw [c] at h
      cases h
      exact ⟨0, by rw [beq_iff_eq.mp c]; rfl, rfl⟩
    | false =>
      rw [c] at h
      obtain ⟨j, a, b⟩ := lookup_some h
      exact ⟨j + 1, a, b⟩
  | [], _, _, _, h => by simp at h
  | _ :: _, [], _, _, h => by simp at h
def tListZip (K : PySem.W.Frag) (t : TA) : TE := fun σ H Q => t σ H fun vs H1 => ∃ l1 l2 xs ys, vs = [.ref l1, .ref l2] ∧ SqT K H1 l1 xs ∧ SqT K H1 l2 ys ∧ xs.length = ys.length ∧ xs.length ≤ 1000000 ∧
  ∀ (L : Addr) (ts : List Addr) (H2 : Hp), H1 L = none → Same H1 H2 → H2 L = some (.lst (ts.map V.ref)) → Paired (fun T (p : V × V) => SqT K H2 T [p.1, p.2]) ts (xs.zip ys) → Q (.ref L) H2
theorem pe_listzip {X : Cx} {a b : Expr} {t : TA} {p1 p2 pos1 pos2 : Pos} (hc : X.calm = true) (hgL : Gl X "list") (hmL : X.mg "list" = none) (hgZ : Gl X "zip") (hmZ : X.mg "zip" = none) (ha : PA X [a, b] t)
    (he1 : starEach [.Call (.Name "zip" p2) [a, b] [] pos2] X.env = [(false, eval (.Call (.Name "zip" p2) [a, b] [] pos2) X.env)] := by rfl) (he : starEach [a, b] X.env = (false, eval a X.env) :: starEach [b] X.env := by rfl) (hpl : (backTo pos2 (starEach [b] X.env)).any (·.1) = false := by rfl) :
    PE X (.Call (.Name "list" p1) [.Call (.Name "zip" p2) [a, b] [] pos2] [] pos1) (tListZip X.K t) := by
  intro pins s σ H Q I h
  refine wpAny_Call_Name_kw (ld_blt I hgL hmL (by decide +kernel : bootBuiltins "list" = some (.type "list")) ?_ (by decide) (by decide))
  refine PyProof.Rows.callWith_type1 ?_ he1 rfl
  rw [he1]
  show wpAny _ _ (spliced ((false, _) :: [])) _ _ s
  refine Calls.spliced_cons ?_
  refine wpAny_Call_Name_kw (ld_blt I hgZ hmZ (by decide +kernel : bootBuiltins "zip" = some (.type "zip")) ?_ (by decide) (by decide))
  refine PyProof.Rows.callWith_type1 (thn (ha pos2 pins s σ H _ I h) fun us s1 ⟨vs, H1, I1, r1, q1⟩ => ?_) he hpl
  obtain ⟨l1, l2, xs, ys, rfl, hx, hy, hl, hn, q⟩ := q1
  obtain ⟨u1, u2, rfl, rx, ry⟩ := vals2 r1
  cases (show u1 = Value.ref l1 from rx)
  cases (show u2 = Value.ref l2 from ry)
  obtain ⟨i1, v1, t1, z1⟩ := I1.tuple hx
  obtain ⟨i2, v2, t2, z2⟩ := I1.tuple hy
  refine call_zipT t1 t2 ?_
  refine Calls.spliced_nil ?_
  obtain ⟨o1, g1, _, _⟩ := id t1
  obtain ⟨o2, g2, _, _⟩ := id t2
  have ll1 := Heap.lt_size g1
  have ll2 := Heap.lt_size g2
  have e1 := v1.length
  have e2 := v2.length
  have sz := zT_size s1.heap l1 l2
  refine call_listZ (n := i1.length) (show X.A.handled = none from I1.ok.hd hc) (zipApart_new ll1 ll2) (by simp) (by simp; omega) (by omega) (zT_zip s1.heap l1 l2) (zT_st t1 t2) ?_ fun h' acc c kk hL hsz hacc => ?_
  · show _ < (zT s1.heap l1 l2).objs.size ∧ _ < (zT s1.heap l1 l2).objs.size ∧ _ < (zT s1.heap l1 l2).objs.size ∧ _ < (zT s1.heap l1 l2).objs.size ∧ _ < (zT s1.heap l1 l2).objs.size ∧ _ < (zT s1.heap l1 l2).objs.size ∧ _ < (zT s1.heap l1 l2).objs.size
    rw [sz]
    refine ⟨by omega, by omega, by omega, by omega, by omega, ?_, ?_⟩
    · exact Nat.lt_add_right 5 ll1
    · exact Nat.lt_add_right 5 ll2
  replace kk : ∀ b o, b ≠ s1.heap.objs.size + 4 → b ≠ s1.heap.objs.size + 3 → b ≠ s1.heap.objs.size → b ≠ s1.heap.objs.size + 1 → (zT s1.heap l1 l2).get? b = some o → h'.get? b = some o := kk
  replace hL : h'.get? (zT s1.heap l1 l2).objs.size = some { cls := .type "list", data := .seq acc c } := hL
  replace hacc : AccOk h' ((zT s1.heap l1 l2).objs.size + 1) i1.toArray i2.toArray acc := hacc
  show EP X pins σ Q (.ref (zT s1.heap l1 l2).objs.size) { s1 with heap := h' }
  rw [sz] at hL hacc ⊢
  obtain ⟨Ts, eT, pT, cT⟩ := hacc
  have lT : Ts.length = i1.length := by
    have := congrArg List.length eT
    rw [List.length_map] at this
    rw [← this]
    simpa using hsz
  have k1 : ∀ b u, s1.heap.get? b = some u → h'.get? b = some u := fun b u q => by
    have lb : b < s1.heap.objs.size := Heap.lt_size q
    exact kk b u (Nat.ne_of_lt (Nat.lt_add_right 4 lb)) (Nat.ne_of_lt (Nat.lt_add_right 3 lb)) (Nat.ne_of_lt lb) (Nat.ne_of_lt (Nat.lt_add_right 1 lb)) (zT_old q)
  refine ⟨.ref (s1.heap.objs.size + 5), fun b : Nat => if b < s1.heap.objs.size then H1 b else if b = s1.heap.objs.size + 5 then some (.lst (Ts.map V.ref)) else ((Ts.zip (xs.zip ys)).lookup b).map fun p => .tup [p.1, p.2], I1.laidN (t' := s1.toks) k1 (fun b hb => if_pos hb) fun b u hb e => ?_, rfl, ?_⟩
  · have e' : (if b < s1.heap.objs.size then H1 b else if b = s1.heap.objs.size + 5 then some (.lst (Ts.map V.ref)) else ((Ts.zip (xs.zip ys)).lookup b).map fun p => .tup [p.1, p.2]) = some u := e
    rw [if_neg (by omega)] at e'
    by_cases cL : b = s1.heap.objs.size + 5
    · rw [if_pos cL] at e'
      cases e'
      subst cL
      refine ⟨fits (by rw [List.length_map]; omega), acc.toList, c, ?_, by simpa using hL⟩
      rw [eT]
      exact paired_of (by simp) fun j x y ex ey => by
        rw [List.getElem?_map] at ex ey
        obtain ⟨T, eT1, rfl⟩ := Option.map_eq_some_iff.mp ex
        rw [eT1] at ey
        cases ey
        rfl
    · rw [if_neg cL] at e'
      obtain ⟨p, ep, rfl⟩ := Option.map_eq_some_iff.mp e'
      obtain ⟨j, ej, epj⟩ := lookup_some ep
      obtain ⟨_, x, y, hp, hx1, hy1⟩ := cT j b ej
      obtain ⟨ex, ey⟩ := List.getElem?_zip_eq_some.mp epj
      obtain ⟨x', ex', rx'⟩ := v1.get ex
      obtain ⟨y', ey', ry'⟩ := v2.get ey
      have q1 : x' = x := by
        have : i1[j]? = some x := by simpa using hx1
        rw [ex'] at this; cases this; rfl
      have q2 : y' = y := by
        have : i2[j]? = some y := by simpa using hy1
        rw [ey'] at this; cases this; rfl
      subst q1; subst q2
      exact ⟨fits (by simp), [x', y'], .cons rx' (.cons ry' .nil), ⟨_, hp, rfl, _, rfl⟩⟩
  · refine q (s1.heap.objs.size + 5) Ts _ (I1.hok.fresh (Nat.le_add_right _ 5)) (fun b u hb => ?_) ?_ ?_
    · show (if b < s1.heap.objs.size then H1 b else _) = some u
      have lb : b < s1.heap.objs.size := Nat.lt_of_not_le fun z => by rw [I1.hok.fresh z] at hb; cases hb
      rw [if_pos lb]; exact hb
    · show (if s1.heap.objs.size + 5 < s1.heap.objs.size then _ else if s1.heap.objs.size + 5 = s1.heap.objs.size + 5 then _ else _) = _
      rw [if_neg (by omega), if_pos rfl]
    · refine paired_of (by rw [lT, List.length_zip]; omega) fun j T p eT1 ep => ?_
      obtain ⟨lN, _⟩ := cT j T eT1
      refine .inl (.inl ?_)
      show (if T < s1.heap.objs.size then _ else if T = s1.heap.objs.size + 5 then _ else _) = _
      rw [if_neg (Nat.not_lt.mpr (Nat.le_trans (by omega : s1.heap.objs.size ≤ s1.heap.objs.size + 5 + 1) lN)), if_neg (Nat.ne_of_gt (Nat.lt_of_succ_le lN)), lookup_zip pT eT1 ep]
      rfl
end L2

set_option Elab.async false
set_option linter.all false
set_option maxRecDepth 100000
set_option maxHeartbeats 4000000
namespace HT
open PySem PyProof.Rows
section
variable {prog : Program} {w : World} {A : Around} {E : Value → Shared → Prop} {s : Shared}
end
end HT
namespace L2
open PySem PySem.Spec PyProof.Rows
theorem Paired.rev' {α β : Type} {F : α → β → Prop} : ∀ {a : List α} {c : List β}, Paired F a c → Paired F a.reverse c.reverse
  | _, _, .nil => .nil
  | _, _, .cons h t => by rw [List.reverse_cons, List.reverse_cons]; exact Paired.snoc (Paired.rev' t) h
end L2

set_option Elab.async false
set_option linter.all false
set_option maxRecDepth 100000
set_option maxHeartbeats 4000000
namespace L2
open PySem
theorem caps_of {X : Cx} {scope : Scope} {js : List (Nat × Str)} (h : (js.all fun p => X.N[p.1]? == some p.2 && X.env.scope.names.lookup p.2 == some .cell && scope.names.lookup p.2 == some .free) = true)
    (h2 : (scope.names.all fun y => y.2 != .free || X.env.scope.names.lookup y.1 == some .cell) = true) : Caps X scope js := by
  refine ⟨fun p hp => ?_, fun y hy => ?_⟩
  · have := List.all_eq_true.mp h p hp
    simp only [Bool.and_eq_true, beq_iff_eq] at this
    exact ⟨this.1.1, this.1.2, this.2⟩
  · have := List.all_eq_true.mp h2 _ hy
    simpa using this
theorem goT {σ : St} {H : Hp} {A B : Hp → Prop} (h : A H) : tTrue σ H fun b H3 => if b = true then A H3 else B H3 := by
  show if true = true then A H else B H
  exact iteT h
theorem goN {i : Nat} {v : V} {σ : St} {H : Hp} {Q : St → Hp → Prop} (h : Q (σ.set i (some v)) H) : gName i v σ H Q := h
theorem str_len_app (x y : Str) : (x ++ y).length = x.length + y.length := by
  show (x.cps ++ y.cps).size = _
  rw [Array.size_append]
  rfl
theorem cut_ints (ns : List Int) (lo hi : Option Int) : ∃ ns' : List Int, cutV (ns.map V.int) lo hi = ns'.map V.int ∧ (∀ n ∈ ns', n ∈ ns) ∧ ns'.length ≤ ns.length :=
  ⟨(ns.drop (HT.sIx (ns.map V.int).length 0 lo)).take (HT.sIx (ns.map V.int).length (ns.map V.int).length hi - HT.sIx (ns.map V.int).length 0 lo), by unfold cutV; rw [← List.map_drop, ← List.map_take], fun n hn => List.mem_of_mem_drop (List.mem_of_mem_take hn), by rw [List.length_take, List.length_drop]; omega⟩
end L2
namespace L2
open PySem
theorem ix_listK {X : Cx} (K : PySem.W.Frag) (hK : X.K = K := by rfl) : IxR X (rIxL K) := by
  subst hK
  exact ix_list
theorem ix_tupK {X : Cx} (K : PySem.W.Frag) (hK : X.K = K := by rfl) : IxR X (rIxT K) := by
  subst hK
  exact ix_tup
theorem pg_tupK {X : Cx} {es : List Expr} {k : Nat} {t : TGs} {n : Nat} {pos : Pos} (K : PySem.W.Frag) (hc : X.calm = true) (h : PGs X es t) (hK : X.K = K := by rfl)
    (hn : (assignEach es X.env).length = n := by rfl) (hst : (assignEach es X.env).findIdx? (·.1) = none := by rfl) : PG X (.Tuple es k pos) (gTup K n t) := by
  subst hK
  exact pg_tup hc h hn hst
theorem ixN_nat {n k : Nat} (h : k < n) : ixN n (k : Int) = some k := by
  unfold ixN
  rw [if_pos (by omega), if_pos (by omega)]
  simp
theorem at_ints {ns : List Int} {k : Nat} (h : k < ns.length) : atI (ns.map V.int) (k : Int) = some (.int ns[k]) := atI_nat (by rw [List.getElem?_map, List.getElem?_eq_getElem h]; rfl)
end L2
namespace K11
open PySem L2
def top (i : Nat) : Stmt := PySem.Challenge.pw_wright_k29_trees_by_anybody.main.body.getD i (.Pass ⟨0, 0, 0, 0⟩)
abbrev sHeads : Stmt := top 1
structure Txt (mg : Str → Option Value) : Prop where
  len : mg "len" = none
  rng : mg "range" = none
  isi : mg "isinstance" = none
  tup : mg "tuple" = none
  lst : mg "list" = none
  dct : mg "dict" = none
  all : mg "all" = none
  any : mg "any" = none
  str : mg "str" = none
  int : mg "int" = none
  boo : mg "bool" = none
  enu : mg "enumerate" = none
  sum : mg "sum" = none
  max : mg "max" = none
  min : mg "min" = none
section
variable {P : Program} {w : World} {K : PySem.W.Frag} {mg : Str → Option Value} {base : Heap} {f : Addr} {fd : FuncData}
theorem boot_all : bootBuiltins "all" = some (.builtin "all") := by decide +kernel
theorem boot_lst : bootBuiltins "list" = some (.type "list") := by decide +kernel
theorem boot_txt : bootBuiltins "str" = some (.type "str") := by decide +kernel
theorem boot_dct : bootBuiltins "dict" = some (.type "dict") := by decide +kernel
theorem kit_ib : PySem.W.kitOne K (.type "int") (.type "bool") = some false := by kernel_rfl
end
end K11
namespace L2
open PySem
theorem sqt_upd {K : PySem.W.Frag} {H : Hp} {D a : Addr} {xs ys : List V} {o : HO} (hD : H D = some (.lst ys)) (h : SqT K H a xs) : SqT K (upd H D o) a xs := by
  rcases h with (h | ⟨u, h⟩) | h
  · exact .inl (.inl (by rw [upd_ne (fun z => by rw [z, hD] at h; cases h)]; exact h))
  · exact .inl (.inr ⟨u, by rw [upd_ne (fun z => by rw [z, hD] at h; cases h)]; exact h⟩)
  · exact .inr h
theorem any_key (kvs : List (Key × V)) (k : Key) : (kvs.any fun kv => decide (kv.1 = k)) = true ↔ k ∈ kvs.map (·.1) := by
  rw [List.any_eq_true, List.mem_map]
  constructor
  · rintro ⟨x, h1, h2⟩; exact ⟨x, h1, of_decide_eq_true h2⟩
  · rintro ⟨x, h1, h2⟩; exact ⟨x, h1, decide_eq_true h2⟩
theorem put_in {kvs : List (Key × V)} {k : Key} {v : V} (h : k ∈ kvs.map (·.1)) : (putK kvs k v).map (·.1) = kvs.map (·.1) := by
  unfold putK
  rw [if_pos ((any_key kvs k).mpr h), List.map_map]
  refine List.map_congr_left fun x hx => ?_
  show (if x.1 = k then (x.1, v) else x).1 = x.1
  split <;> rfl
theorem put_out {kvs : List (Key × V)} {k : Key} {v : V} (h : ¬ k ∈ kvs.map (·.1)) : (putK kvs k v).map (·.1) = kvs.map (·.1) ++ [k] := by
  unfold putK
  rw [if_neg (fun z => h ((any_key kvs k).mp z)), List.map_append]
  rfl
theorem paired_mapR {α β γ : Type} {F : α → β → Prop} {G : α → γ → Prop} {φ : β → γ} : ∀ {xs : List α} {ys : List β}, Paired F xs ys → (∀ a b, F a b → G a (φ b)) → Paired G xs (ys.map φ)
  | _, _, .nil, _ => .nil
  | _, _, .cons h t, k => .cons (k _ _ h) (paired_mapR t k)
theorem inr_mem {z : Str} {l : List Str} : (Sum.inr z : Key) ∈ l.map Sum.inr ↔ z ∈ l := by
  rw [List.mem_map]
  constructor
  · rintro ⟨x, h1, h2⟩; rw [← Sum.inr.inj h2]; exact h1
  · intro h; exact ⟨z, h, rfl⟩
end L2
namespace M11
abbrev Rule := PySem.Str × List PySem.Str
def add1 (a : List PySem.Str) (h : PySem.Str) : List PySem.Str := if h ∈ a then a else a ++ [h]
def ded (acc hs : List PySem.Str) : List PySem.Str := hs.foldl add1 acc
theorem add1_len (a : List PySem.Str) (h : PySem.Str) : (add1 a h).length ≤ a.length + 1 := by
  unfold add1; split <;> simp
theorem ded_len : ∀ (hs acc : List PySem.Str), (ded acc hs).length ≤ acc.length + hs.length
  | [], acc => by simp [ded]
  | h :: r, acc => by
    have := ded_len r (add1 acc h)
    have := add1_len acc h
    show (ded (add1 acc h) r).length ≤ _
    rw [List.length_cons]; omega
end M11
namespace K11
open PySem L2 M11
theorem keys_add {acc : List (Key × V)} {as : List Str} (e : acc.map (·.1) = as.map Sum.inr) (h : Str) {v : V} : (putK acc (Sum.inr h) v).map (·.1) = (add1 as h).map Sum.inr := by
  unfold add1
  by_cases q : h ∈ as
  · rw [if_pos q, put_in (by rw [e]; exact inr_mem.mpr q), e]
  · rw [if_neg q, put_out (by rw [e]; exact fun z => q (inr_mem.mp z)), e, List.map_append]; rfl
theorem keys_ded : ∀ (hs : List Str) (acc : List (Key × V)) (as : List Str), acc.map (·.1) = as.map Sum.inr → (fillK (hs.map fun h => ((Sum.inr h : Key), V.bl true)) acc).map (·.1) = (ded as hs).map Sum.inr
  | [], acc, as, e => e
  | h :: r, acc, as, e => by
    refine keys_ded r (putK acc (Sum.inr h) (.bl true)) (add1 as h) ?_
    exact keys_add e h
theorem keys_str {kvs : List (Key × V)} {zs : List Str} (e : kvs.map (·.1) = zs.map Sum.inr) : (kvs.map fun p => kV p.1) = zs.map V.str := by
  have e2 : (kvs.map fun p => kV p.1) = (kvs.map (·.1)).map kV := by rw [List.map_map]; rfl
  rw [e2, e, List.map_map]
  rfl
section
variable {P : Program} {w : World} {K : PySem.W.Frag} {mg : Str → Option Value} {base : Heap} {f : Addr} {fd : FuncData}
def RuleV (K : PySem.W.Frag) (H : Hp) (r : Addr) (ru : Rule) : Prop := ∃ p, SqT K H r [.str ru.1, .ref p] ∧ SqT K H p (ru.2.map V.str)
def Rules (K : PySem.W.Frag) (H : Hp) (rs : List Addr) (rules : List Rule) : Prop := Paired (fun r ru => RuleV K H r ru) rs rules
theorem Rules.keep {H H' : Hp} {rs : List Addr} {rules : List Rule} (h : Rules K H rs rules) (k : ∀ a xs, SqT K H a xs → SqT K H' a xs) : Rules K H' rs rules := Paired.mapP h fun r ru ⟨p, a, b⟩ => ⟨p, k _ _ a, k _ _ b⟩
theorem Rules.same {H H' : Hp} {rs : List Addr} {rules : List Rule} (h : Rules K H rs rules) (s : Same H H') : Rules K H' rs rules := h.keep fun _ _ z => s.tup z
theorem Rules.get {H : Hp} {rs : List Addr} {rules : List Rule} (h : Rules K H rs rules) {i : Nat} {r : Addr} (e : rs[i]? = some r) : ∃ ru, rules[i]? = some ru ∧ RuleV K H r ru := by
  have l := Paired.length h
  have li := (List.getElem?_eq_some_iff.mp e).1
  have e2 : rules[i]? = some (rules[i]'(by omega)) := List.getElem?_eq_getElem (by omega)
  obtain ⟨x, e3, e4⟩ := Paired.at_ h i _ e2
  rw [e] at e3
  cases e3
  exact ⟨_, e2, e4⟩
theorem comp_pairs {H : Hp} {R D : Addr} {rs : List Addr} {rules : List Rule} {σ : St} {Qp : Hp → Prop} (hR : SqL K H R (rs.map V.ref)) (hrl : Rules K H rs rules) (hlen : rules.length ≤ 1000) (hD : H D = none)
    (q : ∀ ts H2, Same H H2 → H2 D = some (.lst (ts.map V.ref)) → Paired (fun t h => SqT K H2 t [.str h, .bl true]) ts (rules.map (·.1)) → Qp H2) :
    ∃ W : Nat → Nat → List V → St → Hp → Prop, (∃ m, W 0 m [] (capS ["head", "parts"] [] σ) (upd H D (.lst []))) ∧
  ∀ i m ys σ' H, W i m ys σ' H → ((Itl K R).stop i H ∧ Qp H) ∨ ((Itl K R).go i H ∧ ∃ m', m' < m ∧ ∀ x H', (Itl K R).yld i H x H' → gTup K 2 (gCons (gName 0) (gCons (gName 1) gNil)) x σ' H' fun σ2 H2 => tTrue σ2 H2 fun b H3 =>
    if b = true then tTup (tCons (tVar 0) (tCons (tC (.bl true)) tNil)) σ2 H3 fun y H4 => H4 D = some (.lst ys) ∧ ys.length < sizeLine ∧ W (i + 1) m' (ys ++ [y]) σ2 (upd H4 D (.lst (ys ++ [y]))) else W (i + 1) m' ys σ2 H3) := by
  have ll := Paired.length hrl
  refine compG_list (xs := rs.map V.ref) (fun i ys σ2 H2 => ∃ ts : List Addr, ys = ts.map V.ref ∧ ts.length = i ∧ Paired (fun t h => SqT K H2 t [.str h, .bl true]) ts ((rules.take i).map (·.1)) ∧ (∃ y0 y1, σ2 = [y0, y1]) ∧ Same H H2 ∧ H2 D = some (.lst ys))
    ⟨[], rfl, rfl, .nil, ⟨none, none, rfl⟩, same_laid hD _, upd_same⟩ (fun i ys σ2 H2 _ h => ?_) (fun i x ys σ2 H2 ex h => ?_) (fun ys σ2 H2 h => ?_)
  · obtain ⟨_, _, _, _, _, sm, _⟩ := h
    exact sm.seq hR
  · obtain ⟨ts, rfl, ht, hp, ⟨y0, y1, rfl⟩, sm, hd⟩ := h
    rw [List.getElem?_map] at ex
    obtain ⟨r, er, rfl⟩ := Option.map_eq_some_iff.mp ex
    obtain ⟨ru, e1, p, v1, v2⟩ := hrl.get er
    have li := (List.getElem?_eq_some_iff.mp e1).1
    refine ⟨r, _, rfl, sm.tup v1, rfl, _, _, rfl, _, _, rfl, rfl, ?_⟩
    refine goT ?_
    refine ⟨_, rfl, (by show 2 ≤ sizeLine; decide), fun t ht2 => ⟨?_, fits' (by rw [List.length_map]; omega), ts ++ [t], ?_, ?_, ?_, ⟨_, _, rfl⟩, ?_, upd_same⟩⟩
    · rw [upd_ne (ne_of_none hd ht2)]; exact hd
    · rw [List.map_append]; rfl
    · rw [List.length_append, ht]; rfl
    · rw [List.take_add_one, e1, List.map_append]
      have hd3 : upd H2 t (.tup [.str ru.1, .bl true]) D = some (.lst (ts.map V.ref)) := by rw [upd_ne (ne_of_none hd ht2)]; exact hd
      exact Paired.snoc (Paired.mapP hp fun t' h' z => sqt_upd hd3 ((same_laid ht2 _).tup z)) (sqt_upd hd3 (SqT.of upd_same))
    · intro b o hb
      rw [upd_ne (fun z => by rw [z, hD] at hb; cases hb)]
      exact same_laid ht2 _ _ _ (sm b o hb)
  · obtain ⟨ts, rfl, ht, hp, _, sm, hd⟩ := h
    rw [List.length_map, ll, List.take_length] at hp
    exact q ts H2 sm hd hp
def spHeads (K : PySem.W.Frag) : Sp := fun vs H Q _ => ∃ (R : Addr) (rs : List Addr) (rules : List Rule), vs = [.ref R] ∧ SqL K H R (rs.map V.ref) ∧ Rules K H rs rules ∧ rules.length ≤ 1000 ∧
  ∀ D H', H D = none → Same H H' → H' D = some (.lst ((ded [] (rules.map (·.1))).map V.str)) → Q (.ref D) H'
theorem scHeads : FnScope ["rules"] ["rules"] (defScope sHeads) := ⟨rfl, rfl, rfl, by decide +kernel, rfl, by decide +kernel, by decide +kernel⟩
theorem ok_heads (F : Fun K "heads_of" "heads_of" sHeads f fd) (T : Txt mg) : FnOk P w K mg base CX0 1 f fd ["rules"] (spHeads K) := by
  refine F.ok scHeads (fun vs H Q E h => ?_) (fun cdv A outer s H vs Q E hr h => ?_)
  · obtain ⟨R, rs, rules, rfl, _⟩ := h; rfl
  · obtain ⟨R, rs, rules, rfl, hR, hrl, hlen, q⟩ := h
    refine ⟨_, pss_one (ps_ret (pe_callTy (call_listD rfl) rfl T.lst boot_lst (pa_cons (pe_callTy (call_dictP rfl) rfl T.dct boot_dct (pa_cons
      (pe_compG ["head", "parts"] [] rfl (pi_list (pv 0)) (caps_of rfl rfl) (by decide +kernel) rfl (by decide +kernel)
        (fun _ _ _ _ _ => pg_tupK (n := 2) K rfl (pgs_cons (pg_name (i := 0) (show (["head", "parts"] : List Str).Nodup by decide +kernel) rfl (Or.inl rfl)) (pgs_cons (pg_name (i := 1) (show (["head", "parts"] : List Str).Nodup by decide +kernel) rfl (Or.inl rfl)) pgs_nil))) (fun _ _ _ _ _ => pif_nil)
        (fun _ _ _ _ _ => pe_tup (pa_cons (pv 0) (pa_cons pe_bl pa_nil)))) pa_nil)) pa_nil))), ?_⟩
    refine ⟨_, rfl, R, rfl, ⟨_, hR⟩, fun D hD => comp_pairs hR hrl hlen hD fun ts H2 sm hd hp => ?_⟩
    have kp : Paired (fun t (kv : Key × V) => SqT K H2 t [kV kv.1, kv.2]) ts ((rules.map (·.1)).map fun h => ((Sum.inr h : Key), V.bl true)) := paired_mapR hp fun _ _ z => z
    refine ⟨D, ts, _, rfl, hd, kp, fun d hd2 => ?_⟩
    refine ⟨d, _, rfl, upd_same, fun D2 hD2 => ?_⟩
    rw [keys_str (keys_ded (rules.map (·.1)) [] [] rfl)]
    have nd : D2 ≠ d := fun z => by rw [z, upd_same] at hD2; cases hD2
    exact q D2 _ (sm.free (by rw [upd_ne nd] at hD2; exact hD2)) (sm.trans ((same_laid hd2 _).trans (same_laid hD2 _))) upd_same
end
end K11
namespace K11
open PySem L2 M11
section
variable {P : Program} {w : World} {K : PySem.W.Frag} {mg : Str → Option Value} {base : Heap} {f : Addr} {fd : FuncData}
def hd (rules : List Rule) : List Str := ded [] (rules.map (·.1))
end
end K11

set_option Elab.async false
set_option linter.all false
set_option maxRecDepth 100000
set_option maxHeartbeats 4000000
namespace K11
open PySem L2 M11
abbrev sCell : Stmt := top 8
abbrev sStream : Stmt := top 9
abbrev sPool : Stmt := top 10
section
variable {P : Program} {w : World} {K : PySem.W.Frag} {mg : Str → Option Value} {base : Heap} {f : Addr} {fd : FuncData}
def spCell (K : PySem.W.Frag) : Sp := fun vs H Q _ => ∃ (a : Addr) (ns : List Int) (k : Nat), vs = [.ref a, .int (k : Int)] ∧ SqL K H a (ns.map V.int) ∧ ns.length ≤ 1000 ∧ ∀ n : Int, Q (.int n) H
theorem scCell : FnScope ["_law_script", "_law_k"] ["_law_script", "_law_k"] (defScope sCell) := ⟨rfl, rfl, rfl, by decide +kernel, rfl, by decide +kernel, by decide +kernel⟩
theorem ok_cell (F : Fun K "_law_cell_at" "_law_cell_at" sCell f fd) (T : Txt mg) : FnOk P w K mg base CX0 1 f fd ["_law_script", "_law_k"] (spCell K) := by
  refine F.ok scCell (fun vs H Q E h => ?_) (fun cdv A outer s H vs Q E hr h => ?_)
  · obtain ⟨a, ns, k, rfl, _⟩ := h; rfl
  · obtain ⟨a, ns, k, rfl, hS, hn, q⟩ := h
    refine ⟨_, pss_cons (ps_if (pt_cmpR op_lt (pv 1) (pe_callB call_len_seq rfl T.len PySem.boot_len (pa_cons (pv 0) pa_nil)) (nomark _)) (pss_one (ps_ret (pe_ix ix_list (pv 0) (pv 1) (fun _ _ => rfl)))) pss_nil) (pss_one (ps_ret pe_int)), ?_⟩
    refine ⟨_, rfl, _, rfl, a, _, rfl, .inl hS, _, _, rfl, rfl, _, rfl, ?_⟩
    refine ite2 (fun cc => ?_) (fun _ => q 0)
    have lt := of_decide_eq_true cc
    rw [List.length_map] at lt
    have lt' : k < ns.length := by omega
    refine ⟨_, rfl, _, rfl, a, _, _, .int ns[k], rfl, rfl, hS, atI_nat (by rw [List.getElem?_map, List.getElem?_eq_getElem lt']; rfl), q _⟩
def spStream : Sp := fun vs H Q _ => ∃ (c : Int) (m : Nat), vs = [.int c, .int (m : Int)] ∧ m ≤ 100 ∧ ∀ D ns H', H D = none → Same H H' → H' D = some (.lst (List.map V.int ns)) → ns.length = m → (∀ n ∈ ns, (0 : Int) ≤ n ∧ n < 4294967311) → Q (.ref D) H'
theorem scStream : FnScope ["_law_cell", "_law_many", "_law_found", "_law_number", "_law_k"] ["_law_cell", "_law_many"] (defScope sStream) := ⟨rfl, rfl, rfl, by decide +kernel, rfl, by decide +kernel, by decide +kernel⟩
theorem cut1 (xs : List V) : cutV xs (some 1) none = xs.drop 1 := by
  have e1 : HT.sIx xs.length 0 (some 1) = min 1 xs.length := HT.sIx_nat _ _ 1
  have e2 : HT.sIx xs.length xs.length none = xs.length := rfl
  unfold cutV
  rw [e1, e2]
  cases xs with
  | nil => rfl
  | cons x r => simp
theorem ok_stream (F : Fun K "_law_stream" "_law_stream" sStream f fd) (T : Txt mg) : FnOk P w K mg base CX0 1 f fd ["_law_cell", "_law_many"] spStream := by
  refine F.ok scStream (fun vs H Q E h => ?_) (fun cdv A outer s H vs Q E hr h => ?_)
  · obtain ⟨c, m, rfl, _⟩ := h; rfl
  · obtain ⟨c, m, rfl, hm, q⟩ := h
    refine ⟨_, pss_cons (ps_set (i := 2) scStream.nd rfl (Or.inl rfl) (pe_lst pa_nil))
      (pss_cons (ps_set (i := 3) scStream.nd rfl (Or.inl rfl) (pe_op op_add (pe_op op_mod (pv 0) pe_int) pe_int))
      (pss_cons (ps_for PassesOwn.never rfl (pi_range1 rfl T.rng (pa_cons (pe_op op_add (pv 1) pe_int) pa_nil)) (pg_name (i := 4) scStream.nd rfl (Or.inl rfl))
        (pss_cons (ps_set (i := 3) scStream.nd rfl (Or.inl rfl) (pe_op op_mod (pe_op op_add (pe_op op_add (pe_op op_mul (pv 3) (pv 3)) (pe_op op_mul pe_int (pv 3))) (pv 4)) pe_int))
        (pss_one (ps_expr (pe_bm PySem.F.plainAttrs_list PySem.F.slot_list_append PySem.F.type_list_append mt_append (pv 2) (pa_cons (pv 3) pa_nil))))))
      (pss_one (ps_ret (pe_slice sl_list (pv 2) (po_some pe_int) po_none))))), ?_⟩
    refine ⟨(by show 0 ≤ sizeLine; decide), fun l hl => ?_⟩
    refine ⟨_, rfl, _, _, rfl, rfl, (by show (0 : Int) < 4294967311; decide), _, _, rfl, rfl, ?_⟩
    refine ⟨_, rfl, _, _, rfl, rfl, _, rfl, (by omega), (by omega), ?_⟩
    have e0 : ((m : Int) + 1).toNat = m + 1 := by omega
    rw [e0]
    have hx0 : (0 : Int) ≤ c % 4294967311 + 48271 ∧ c % 4294967311 + 48271 < 8589934592 := by omega
    refine for_range (n := m + 1) (fun i σ H2 => ∃ (x : Int) (ns : List Int) (kk : Option V), σ = [some (.int c), some (.int (m : Int)), some (.ref l), some (.int x), kk] ∧ H2 = upd H l (.lst (ns.map V.int)) ∧ ns.length = i ∧ ((0 : Int) ≤ x ∧ x < 8589934592) ∧ ∀ n ∈ ns, (0 : Int) ≤ n ∧ n < 4294967311)
      ⟨c % 4294967311 + 48271, [], none, rfl, rfl, rfl, hx0, by simp⟩ ?_ ?_
    · rintro i σ H2 hi ⟨x, ns, kk, rfl, rfl, hl2, hx, hns⟩
      refine ⟨_, rfl, _, rfl, _, _, rfl, rfl, .inl ⟨by omega, by omega⟩, _, rfl, _, _, rfl, rfl, .inl ⟨by decide, by decide⟩, _, _, rfl, rfl, _, rfl, _, _, rfl, rfl, _, _, rfl, rfl, (by show (0 : Int) < 4294967311; decide), ?_⟩
      have hy : (0 : Int) ≤ (x * x + 69621 * x + (0 + (i : Int))) % 4294967311 ∧ (x * x + 69621 * x + (0 + (i : Int))) % 4294967311 < 4294967311 := by omega
      refine ⟨_, rfl, .inl ⟨rfl, _, SqL.of upd_same⟩, _, rfl, l, _, _, rfl, rfl, upd_same, fits' (by rw [List.length_map]; omega), ?_⟩
      refine ⟨(x * x + 69621 * x + (0 + (i : Int))) % 4294967311, ns ++ [(x * x + 69621 * x + (0 + (i : Int))) % 4294967311], _, rfl, by rw [upd_upd, List.map_append]; rfl, by rw [List.length_append, hl2]; rfl, ⟨hy.1, by omega⟩, fun n hn => ?_⟩
      rcases List.mem_append.mp hn with h | h
      · exact hns n h
      · rw [List.mem_singleton.mp h]; exact hy
    · rintro σ H2 ⟨x, ns, kk, rfl, rfl, hl2, hx, hns⟩
      refine ⟨_, rfl, 1, rfl, l, _, rfl, SqL.of upd_same, fun p hp => ?_⟩
      rw [cut1]
      have hpl : p ≠ l := fun z => by rw [z, upd_same] at hp; cases hp
      refine q p (ns.drop 1) _ (by rw [upd_ne hpl] at hp; exact hp) ((same_laid hl _).trans (same_laid hp _)) (by rw [upd_same, List.map_drop]) (by rw [List.length_drop, hl2]; omega) fun n hn => hns n (List.mem_of_mem_drop hn)
def zs93 : Str := "!\"#$&'()*+,-./0123456789:;<=>?@ABCDEFGHIJKLMNOPQRSTUVWXYZ[\\]^_`abcdefghijklmnopqrstuvwxyz{|}~"
theorem len93 : zs93.cps.toList.length = 93 := by decide +kernel
theorem at93 (n : Int) : ∃ c, atI zs93.cps.toList (n % 93) = some c := by
  have h : (n % 93).toNat < zs93.cps.toList.length := by rw [len93]; omega
  refine ⟨zs93.cps.toList[(n % 93).toNat], ?_⟩
  have e : n % 93 = (((n % 93).toNat : Nat) : Int) := by omega
  have := atI_nat (List.getElem?_eq_getElem h)
  rw [← e] at this
  exact this
theorem nd93 : zs93.cps.toList.Nodup := by decide +kernel
theorem inj93 {a b : Int} {c : Nat} (h1 : atI zs93.cps.toList (a % 93) = some c) (h2 : atI zs93.cps.toList (b % 93) = some c) : a % 93 = b % 93 := by
  have e1 : a % 93 = (((a % 93).toNat : Nat) : Int) := by omega
  have e2 : b % 93 = (((b % 93).toNat : Nat) : Int) := by omega
  have l1 : (a % 93).toNat < zs93.cps.toList.length := by rw [len93]; omega
  have l2 : (b % 93).toNat < zs93.cps.toList.length := by rw [len93]; omega
  have g1 := atI_nat (List.getElem?_eq_getElem l1)
  have g2 := atI_nat (List.getElem?_eq_getElem l2)
  rw [← e1, h1] at g1
  rw [← e2, h2] at g2
  have e3 : zs93.cps.toList[(a % 93).toNat] = zs93.cps.toList[(b % 93).toNat] := (Option.some.inj g1).symm.trans (Option.some.inj g2)
  have := (List.getElem_inj nd93).mp e3
  omega
def PoolAt (pre : Str) (n2 : Int) (j : Nat) (z : Str) : Prop := ∃ cc suf, z = pre ++ ⟨#[cc]⟩ ++ suf ∧ atI zs93.cps.toList ((n2 + 5 * (j : Int)) % 93) = some cc
theorem pool_nd {pre : Str} {n2 : Int} {ws : List Str} (hl : ws.length ≤ 14) (h : ∀ j z, ws[j]? = some z → PoolAt pre n2 j z) : ws.Nodup := by
  refine List.pairwise_iff_getElem.mpr fun i j hi hj hij e => ?_
  obtain ⟨c1, s1, e1, a1⟩ := h i _ (List.getElem?_eq_getElem hi)
  obtain ⟨c2, s2, e2, a2⟩ := h j _ (List.getElem?_eq_getElem hj)
  rw [e1, e2] at e
  have e' := congrArg (fun z : Str => z.cps.toList) e
  have q : pre.cps.toList ++ (c1 :: s1.cps.toList) = pre.cps.toList ++ (c2 :: s2.cps.toList) := by
    have f : ∀ (c : Nat) (s : Str), (pre ++ (⟨#[c]⟩ : Str) ++ s).cps.toList = pre.cps.toList ++ (c :: s.cps.toList) := fun c s => by
      show ((pre.cps ++ #[c]) ++ s.cps).toList = _
      simp
    rw [← f, ← f]; exact e'
  have q2 := List.append_cancel_left q
  injection q2 with q3 _
  rw [← q3] at a2
  have := inj93 a1 a2
  omega
def spPool : Sp := fun vs H Q _ => ∃ (c : Int) (m : Nat), vs = [.int c, .int (m : Int)] ∧ m ≤ 14 ∧ ∀ D zs H', H D = none → Same H H' → H' D = some (.lst (List.map V.str zs)) → zs.length = m → (∀ z ∈ zs, z.length ≤ 100) → zs.Nodup → Q (.ref D) H'
theorem scPool : FnScope ["_law_cell", "_law_many", "_law_signs", "_law_draws", "_law_size", "_law_at", "_law_base", "_law_found", "_law_k", "_law_sign", "_law_end"] ["_law_cell", "_law_many"] (defScope sPool) := ⟨rfl, rfl, rfl, by decide +kernel, rfl, by decide +kernel, by decide +kernel⟩
theorem ok_pool (F : Fun K "_law_pool" "_law_pool" sPool f fd) (T : Txt mg) (GS : CalleeD P w K mg base 1 "_law_stream" ["_law_cell", "_law_many"] spStream) : FnOk P w K mg base CX0 2 f fd ["_law_cell", "_law_many"] spPool := by
  refine F.ok scPool (fun vs H Q E h => ?_) (fun cdv A outer s H vs Q E hr h => ?_)
  · obtain ⟨c, m, rfl, _⟩ := h; rfl
  · obtain ⟨c, m, rfl, hm14, q⟩ := h
    refine ⟨_, pss_cons (ps_set (i := 2) scPool.nd rfl (Or.inr rfl) pe_str)
      (pss_cons (ps_set (i := 3) scPool.nd rfl (Or.inl rfl) (pe_fn GS hr rfl (pa_cons (pv 0) (pa_cons pe_int pa_nil))))
      (pss_cons (ps_set (i := 4) scPool.nd rfl (Or.inl rfl) (pe_op op_add pe_int (pe_op op_mod (pe_ix ix_list (pv 3) pe_int (fun _ _ => rfl)) pe_int)))
      (pss_cons (ps_set (i := 5) scPool.nd rfl (Or.inl rfl) (pe_op op_mod (pe_ix ix_list (pv 3) pe_int (fun _ _ => rfl)) (pv 4)))
      (pss_cons (ps_set (i := 6) scPool.nd rfl (Or.inl rfl) (pe_bm PySem.F.plainAttrs_str PySem.F.slot_str_join PySem.F.type_str_join mt_join pe_str
        (pa_cons (pe_compG ["_law_draw"] [(2, "_law_signs")] rfl (pi_list (pe_slice sl_list (pv 3) (po_some pe_int) (po_some (pe_op op_add pe_int (pv 4))))) (caps_of rfl rfl) (by decide +kernel) rfl (by decide +kernel)
          (fun _ _ _ _ _ => pg_name (i := 0) (show (["_law_draw", "_law_signs"] : List Str).Nodup by decide +kernel) rfl (Or.inl rfl)) (fun _ _ _ _ _ => pif_nil) (fun _ _ _ _ _ => pe_ix ix_str (pv 1) (pe_op op_mod (pv 0) pe_int) (fun _ _ => rfl))) pa_nil)))
      (pss_cons (ps_set (i := 7) scPool.nd rfl (Or.inl rfl) (pe_lst pa_nil))
      (pss_cons (ps_for PassesOwn.never rfl (pi_range1 rfl T.rng (pa_cons (pv 1) pa_nil)) (pg_name (i := 8) scPool.nd rfl (Or.inl rfl))
        (pss_cons (ps_set (i := 9) scPool.nd rfl (Or.inl rfl) (pe_ix ix_str (pv 2) (pe_op op_mod (pe_op op_add (pe_ix ix_list (pv 3) (pe_op op_add pe_int (pv 5)) (fun _ _ => rfl)) (pe_op op_mul pe_int (pv 8))) pe_int) (fun _ _ => rfl)))
        (pss_cons (ps_set (i := 10) scPool.nd rfl (Or.inl rfl) (pe_op op_add (pe_op op_add (pv 5) pe_int) (pe_op op_mod (pe_op op_fdiv (pe_ix ix_list (pv 3) pe_int (fun _ _ => rfl)) (pe_op op_add (pv 8) pe_int)) pe_int)))
        (pss_one (ps_expr (pe_bm PySem.F.plainAttrs_list PySem.F.slot_list_append PySem.F.type_list_append mt_append (pv 7)
          (pa_cons (pe_op op_add_str (pe_op op_add_str (pe_slice sl_strF (pv 6) po_none (po_some (pv 5))) (pv 9)) (pe_slice sl_strF (pv 6) (po_some (pe_op op_add (pv 5) pe_int)) (po_some (pv 10)))) pa_nil)))))))
      (pss_one (ps_ret (pv 7))))))))), ?_⟩
    refine ⟨_, rfl, c, 16, rfl, by decide, fun D ns H1 hf0 s1 hD hlen hns => ?_⟩
    have getN : ∀ i : Nat, i < 16 → ∃ x : Int, (0 : Int) ≤ x ∧ x < 4294967311 ∧ atI (ns.map V.int) (i : Int) = some (.int x) := fun i hi => by
      have lt : i < ns.length := by omega
      obtain ⟨a1, a2⟩ := hns ns[i] (List.getElem_mem lt)
      exact ⟨ns[i], a1, a2, atI_nat (by rw [List.getElem?_map, List.getElem?_eq_getElem lt]; rfl)⟩
    obtain ⟨n0, a0, b0, g0⟩ := getN 0 (by decide)
    obtain ⟨n1, a1, b1, g1⟩ := getN 1 (by decide)
    refine ⟨_, rfl, D, _, _, .int n0, rfl, rfl, SqL.of hD, g0, _, _, rfl, rfl, (by show (0 : Int) < 14; decide), _, _, rfl, rfl, ?_⟩
    refine ⟨_, rfl, D, _, _, .int n1, rfl, rfl, SqL.of hD, g1, _, rfl, _, _, rfl, rfl, (by show (0 : Int) < 1 + n0 % 14; omega), ?_⟩
    have hat : (0 : Int) ≤ n1 % (1 + n0 % 14) ∧ n1 % (1 + n0 % 14) < 14 := by
      have h1 : (0 : Int) < 1 + n0 % 14 := by omega
      have h2 := Int.emod_nonneg n1 (Int.ne_of_gt h1)
      have h3 := Int.emod_lt_of_pos n1 h1
      omega
    refine ⟨rfl, _, rfl, 2, rfl, _, rfl, _, _, rfl, rfl, _, rfl, D, _, rfl, SqL.of hD, fun c1 hc1 => ?_⟩
    obtain ⟨ns', e1, _, l1⟩ := cut_ints ns (some 2) (some (2 + (1 + n0 % 14)))
    rw [e1]
    have s2 := s1.trans (same_laid hc1 (.lst (ns'.map V.int)))
    have hD1 : upd H1 c1 (.lst (ns'.map V.int)) D = some (.lst (ns.map V.int)) := by rw [upd_ne (ne_of_none hD hc1)]; exact hD
    have hc2 : upd H1 c1 (.lst (ns'.map V.int)) c1 = some (.lst (ns'.map V.int)) := upd_same
    generalize upd H1 c1 (.lst (ns'.map V.int)) = H2 at s2 hD1 hc2
    refine ⟨c1, rfl, ⟨_, SqL.of hc2⟩, fun D2 hD2 => compG_list (xs := ns'.map V.int) (fun i ys σ2 H3 => ∃ zs : List Str, ys = zs.map V.str ∧ zs.length = i ∧ (∀ z ∈ zs, z.length = 1) ∧ (∃ y, σ2 = [y, some (.str zs93)]) ∧ Same H2 H3 ∧ H3 D2 = some (.lst ys))
      ⟨[], rfl, rfl, by simp, ⟨none, rfl⟩, same_laid hD2 _, upd_same⟩ (fun i ys σ2 H3 _ h => ?_) (fun i x ys σ2 H3 ex h => ?_) (fun ys σ2 H3 h => ?_)⟩
    · obtain ⟨_, _, _, _, _, sm, _⟩ := h
      exact SqL.of (sm _ _ hc2)
    · obtain ⟨zs, rfl, hz, hz1, ⟨y, rfl⟩, sm, hd3⟩ := h
      rw [List.getElem?_map] at ex
      obtain ⟨n, en, rfl⟩ := Option.map_eq_some_iff.mp ex
      obtain ⟨cc, hcc⟩ := at93 n
      have li : i < ns'.length := (List.getElem?_eq_some_iff.mp en).1
      refine goN ?_
      refine goT ?_
      refine ⟨_, rfl, _, rfl, _, _, rfl, rfl, (by show (0 : Int) < 93; decide), zs93, _, cc, rfl, rfl, (by decide +kernel), hcc, hd3, fits' (by rw [List.length_map]; omega), zs ++ [⟨#[cc]⟩], ?_, ?_, ?_, ⟨_, rfl⟩, ?_, ?_⟩
      · rw [List.map_append]; rfl
      · rw [List.length_append, hz]; rfl
      · intro z hzm
        rcases List.mem_append.mp hzm with h | h
        · exact hz1 z h
        · rw [List.mem_singleton.mp h]; rfl
      · intro b o hb
        rw [upd_ne (fun z => by rw [z, hD2] at hb; cases hb)]
        exact sm b o hb
      · rw [upd_same]
    · obtain ⟨zs, rfl, hz, hz1, ⟨y, rfl⟩, sm, hd3⟩ := h
      have hsum : ∀ l : List Str, (∀ z ∈ l, z.length = 1) → (l.map (·.length)).sum = l.length := by
        intro l
        induction l with
        | nil => intro _; rfl
        | cons z r ih => intro h; rw [List.map_cons, List.sum_cons, ih (fun z hz => h z (List.mem_cons_of_mem _ hz)), h z List.mem_cons_self, List.length_cons]; omega
      rw [List.length_map] at hz
      refine ⟨_, D2, zs, rfl, rfl, SqL.of hd3, ?_, ?_⟩
      · have e0 : (Str.ofString "").length = 0 := rfl
        rw [hsum zs hz1, e0]
        omega
      have hb : (Txt.join (Str.ofString "") zs).length ≤ 16 := by
        have h1 := StrLaws.join_length_le (Str.ofString "") zs
        have e0 : (Str.ofString "").length = 0 := rfl
        rw [hsum zs hz1, e0] at h1
        have e2 : Txt.join (Str.ofString "") zs = Str.join (Str.ofString "") zs := StrLaws.glued_eq_join _ _
        rw [e2]
        omega
      generalize Txt.join (Str.ofString "") zs = b0' at hb ⊢
      have hD3 := sm _ _ hD1
      have s3 := s2.trans sm
      clear sm hd3 hD2 hc2
      refine ⟨(by show 0 ≤ sizeLine; decide), fun l hl => ?_⟩
      refine ⟨_, rfl, (m : Int), rfl, by omega, by omega, ?_⟩
      rw [Int.toNat_natCast m]
      obtain ⟨k1, ek1⟩ := Int.eq_ofNat_of_zero_le hat.1
      obtain ⟨n2, a2, b2, g2⟩ := getN (2 + k1) (by omega)
      have hDl : ∀ o, upd H3 l o D = some (.lst (ns.map V.int)) := fun o => by rw [upd_ne (ne_of_none hD3 hl)]; exact hD3
      refine for_range (n := m) (fun i σ H4 => ∃ (ws : List Str) (k2 k3 k4 : Option V), σ = [some (.int c), some (.int (m : Int)), some (.str zs93), some (.ref D), some (.int (1 + n0 % 14)), some (.int (n1 % (1 + n0 % 14))), some (.str b0'), some (.ref l), k2, k3, k4] ∧
        H4 = upd H3 l (.lst (ws.map V.str)) ∧ ws.length = i ∧ (∀ z ∈ ws, z.length ≤ 100) ∧ ∀ j z, ws[j]? = some z → PoolAt (slc b0' none (some (n1 % (1 + n0 % 14)))) n2 j z) ⟨[], none, none, none, rfl, rfl, rfl, by simp, by simp⟩ ?_ ?_
      · rintro i σ H4 hi ⟨ws, k2, k3, k4, rfl, rfl, hw, hwl, hwp⟩
        obtain ⟨cc, hcc⟩ := at93 (n2 + 5 * (0 + (i : Int)))
        refine ⟨_, rfl, _, rfl, _, rfl, _, _, rfl, rfl, D, _, _, .int n2, rfl, rfl, SqL.of (hDl _), ?_, _, rfl, _, _, rfl, rfl, .inl ⟨by decide, by decide⟩, _, _, rfl, rfl, _, _, rfl, rfl, (by show (0 : Int) < 93; decide), zs93, _, cc, rfl, rfl, (by decide +kernel), hcc, ?_⟩
        · rw [ek1]
          have e : (2 : Int) + (k1 : Int) = ((2 + k1 : Nat) : Int) := by omega
          rw [e]
          exact g2
        refine ⟨_, rfl, _, _, rfl, rfl, _, rfl, D, _, _, .int n1, rfl, rfl, SqL.of (hDl _), g1, _, rfl, _, _, rfl, rfl, _, _, rfl, rfl, ⟨by show (0 : Int) < 0 + (i : Int) + 2; omega, by show (0 : Int) + (i : Int) + 2 < 1073741824; omega⟩, _, _, rfl, rfl, (by show (0 : Int) < 15; decide), _, _, rfl, rfl, ?_⟩
        refine ⟨_, rfl, .inl ⟨rfl, _, SqL.of upd_same⟩, ?_⟩
        refine ⟨_, rfl, _, rfl, _, rfl, b0', rfl, fits (by omega), ?_⟩
        have hz1' := slc_le b0' none (some (n1 % (1 + n0 % 14)))
        generalize hz1e : slc b0' none (some (n1 % (1 + n0 % 14))) = z1 at hz1' hwp ⊢
        refine ⟨_, rfl, _, _, rfl, rfl, fits (by show z1.length + 1 ≤ _; omega), ?_⟩
        refine ⟨_, rfl, _, rfl, _, _, rfl, rfl, _, rfl, _, rfl, _, rfl, b0', rfl, fits (by omega), ?_⟩
        have hz2' := slc_le b0' (some (n1 % (1 + n0 % 14) + 1)) (some (n1 % (1 + n0 % 14) + 1 + n1 / (0 + (i : Int) + 2) % 15))
        generalize slc b0' (some (n1 % (1 + n0 % 14) + 1)) (some (n1 % (1 + n0 % 14) + 1 + n1 / (0 + (i : Int) + 2) % 15)) = z2 at hz2' ⊢
        have l1' : (z1 ++ (⟨#[cc]⟩ : Str)).length = z1.length + 1 := str_len_app _ _
        refine ⟨_, _, rfl, rfl, fits (by rw [l1']; omega), ?_⟩
        refine ⟨l, _, _, rfl, rfl, upd_same, fits' (by rw [List.length_map]; omega), ?_⟩
        refine ⟨ws ++ [z1 ++ ⟨#[cc]⟩ ++ z2], _, _, _, rfl, by rw [upd_upd, List.map_append]; rfl, by rw [List.length_append, hw]; rfl, fun z hz' => ?_, fun j z hj => ?_⟩
        · rcases List.mem_append.mp hz' with h | h
          · exact hwl z h
          · rw [List.mem_singleton.mp h, str_len_app, l1']
            omega
        · rw [List.getElem?_append] at hj
          split at hj
          · exact hwp j z hj
          · rename_i hlt
            have ej : j = i := by
              have := (List.getElem?_eq_some_iff.mp hj).1
              simp at this
              omega
            subst ej
            rw [hw, Nat.sub_self] at hj
            cases hj
            refine ⟨cc, z2, rfl, ?_⟩
            have e0 : n2 + 5 * (0 + (j : Int)) = n2 + 5 * (j : Int) := by omega
            rw [← e0]; exact hcc
      · rintro σ H4 ⟨ws, k2, k3, k4, rfl, rfl, hw, hwl, hwp⟩
        exact ⟨_, rfl, q l ws _ (s3.free hl) (s3.trans (same_laid hl _)) upd_same hw hwl (pool_nd (by omega) hwp)⟩
end
end K11

set_option Elab.async false
set_option linter.all false
set_option maxRecDepth 100000
set_option maxHeartbeats 4000000
namespace K11
open PySem L2 M11
abbrev sDigits : Stmt := top 11
section
variable {P : Program} {w : World} {K : PySem.W.Frag} {mg : Str → Option Value} {base : Heap} {f : Addr} {fd : FuncData}
def spDigits : Sp := fun vs H Q _ => ∃ (c : Int) (m : Nat), vs = [.int c, .int (m : Int)] ∧ m ≤ 100 ∧ ∀ (D : Addr) (ns : List Int) (H' : Hp), H D = none → Same H H' → H' D = some (.lst (List.map V.int ns)) → ns.length = m → Q (.ref D) H'
theorem scDigits : FnScope ["_law_cell", "_law_many", "_law_digits_here", "_law_k"] ["_law_cell", "_law_many"] (defScope sDigits) := ⟨rfl, rfl, rfl, by decide +kernel, rfl, by decide +kernel, by decide +kernel⟩
theorem ok_digits (F : Fun K "_law_digits" "_law_digits" sDigits f fd) (T : Txt mg) (GS : CalleeD P w K mg base 1 "_law_stream" ["_law_cell", "_law_many"] spStream) : FnOk P w K mg base CX0 2 f fd ["_law_cell", "_law_many"] spDigits := by
  refine F.ok scDigits (fun vs H Q E h => ?_) (fun cdv A outer s H vs Q E hr h => ?_)
  · obtain ⟨c, m, rfl, _⟩ := h; rfl
  · obtain ⟨c, m, rfl, hm0, q⟩ := h
    refine ⟨_, pss_cons (ps_set (i := 2) scDigits.nd rfl (Or.inl rfl) (pe_fn GS hr rfl (pa_cons (pv 0) (pa_cons (pv 1) pa_nil))))
      (pss_cons (ps_for PassesOwn.never rfl (pi_range1 rfl T.rng (pa_cons (pv 1) pa_nil)) (pg_name (i := 3) scDigits.nd rfl (Or.inl rfl))
        (pss_cons (ps_asg (pe_op op_mod (pe_op op_fdiv (pe_ix ix_list (pv 2) (pv 3) (fun _ _ => rfl)) pe_int) pe_int) (pg_sub (pv 2) (pv 3) set_list))
        (pss_one (ps_if (pt_cmpR op_gt (pv 0) pe_int (nomark _))
          (pss_cons (ps_asg (pe_op op_mod (pe_op op_sub (pv 0) pe_int) pe_int) (pg_sub (pv 2) (pv 3) set_list))
          (pss_one (ps_set (i := 0) scDigits.nd rfl (Or.inl rfl) (pe_op op_fdiv (pe_op op_sub (pv 0) pe_int) pe_int)))) pss_nil))))
      (pss_one (ps_ret (pv 2)))), ?_⟩
    refine ⟨_, rfl, _, rfl, c, m, rfl, hm0, fun D ns H1 hf0 s1 hD hlen _ => ?_⟩
    refine ⟨_, rfl, (m : Int), rfl, by omega, by omega, ?_⟩
    rw [Int.toNat_natCast m]
    refine for_range (n := m) (fun i σ H2 => ∃ (c2 : Int) (ms : List Int) (k2 : Option V), σ = [some (.int c2), some (.int (m : Int)), some (.ref D), k2] ∧ H2 = upd H1 D (.lst (ms.map V.int)) ∧ ms.length = m) ⟨c, ns, none, rfl, ?_, hlen⟩ ?_ ?_
    · funext b
      by_cases h : b = D
      · rw [h, upd_same]; exact hD
      · rw [upd_ne h]
    · rintro i σ H2 hi ⟨c2, ms, k2, rfl, rfl, hm⟩
      have e0 : (0 : Int) + (i : Int) = ((i : Nat) : Int) := by omega
      rw [e0]
      have lt : i < ms.length := by omega
      refine ⟨_, rfl, _, rfl, D, _, _, _, rfl, rfl, SqL.of upd_same, at_ints lt, _, _, rfl, rfl, ⟨by decide, by decide⟩, _, _, rfl, rfl, (by show (0 : Int) < 16; decide), _, rfl, _, rfl, D, _, _, i, rfl, rfl, upd_same, ixN_nat (by rw [List.length_map]; exact lt), ?_⟩
      rw [upd_upd, ← List.map_set]
      refine ⟨_, rfl, _, _, rfl, rfl, _, rfl, ?_⟩
      refine ite2 (fun _ => ?_) (fun _ => ?_)
      · refine ⟨_, rfl, _, _, rfl, rfl, _, _, rfl, rfl, (by show (0 : Int) < 16; decide), _, rfl, _, rfl, D, _, _, i, rfl, rfl, upd_same, ixN_nat (by rw [List.length_map, List.length_set]; exact lt), ?_⟩
        refine ⟨_, rfl, _, _, rfl, rfl, _, _, rfl, rfl, ⟨by decide, by decide⟩, ?_⟩
        exact ⟨_, _, _, rfl, by rw [upd_upd, ← List.map_set], by rw [List.length_set, List.length_set]; exact hm⟩
      · exact ⟨_, _, _, rfl, rfl, by rw [List.length_set]; exact hm⟩
    · rintro σ H2 ⟨c2, ms, k2, rfl, rfl, hm⟩
      exact ⟨_, rfl, q D ms _ hf0 (fun b o hb => by rw [upd_ne (ne_of_none hb hf0)]; exact s1 _ _ hb) upd_same hm⟩
end
end K11

set_option Elab.async false
set_option linter.all false
set_option maxRecDepth 100000
namespace L2
open PySem
def rNeT (K : PySem.W.Frag) : R2 := fun x y H Q => ∃ y', y = .str y' ∧ ((∃ z, x = .str z ∧ Q (.bl (!decide (V.str z = V.str y'))) H) ∨ ∃ a xs, x = .ref a ∧ SqT K H a xs ∧ Q (.bl true) H)
theorem op_ne_ts {X : Cx} (hu : X.A.units < cLine) : OpR X (compareOp .NotEq) (rNeT X.K) := by
  intro pins s σ H x y v u Q I rx ry h
  obtain ⟨y', rfl, h⟩ := h
  rcases h with ⟨z, rfl, q⟩ | ⟨a, xs, rfl, ha, q⟩
  · exact op_ne pins s σ H _ _ v u Q I rx ry ⟨rfl, q⟩
  · cases rx
    obtain ⟨t, rfl⟩ := ry
    obtain ⟨its, r, pl, hz⟩ := I.tuple ha
    exact SeqAt.RcNeAt.tuple_str y' t pl hu X.prog X.w X.xe _ ⟨.bl true, H, I, rfl, q⟩
def rEqNilT (K : PySem.W.Frag) : R2 := fun x y H Q => ∃ a b xs, x = .ref a ∧ y = .ref b ∧ SqT K H a xs ∧ SqT K H b [] ∧ Q (.bl xs.isEmpty) H
theorem op_eq_nilT {X : Cx} (hu : X.A.units < cLine) : OpR X (compareOp .Eq) (rEqNilT X.K) := by
  intro pins s σ H x y v u Q I rx ry h
  obtain ⟨a, b, xs, rfl, rfl, ha, hb, q⟩ := h
  cases rx
  cases ry
  obtain ⟨its, r, pl, hz⟩ := I.tuple ha
  obtain ⟨its2, r2, pl2, hz2⟩ := I.tuple hb
  have e2 : its2 = [] := Vals.zero r2
  subst e2
  have hlen := r.length
  refine SeqAt.RcAt.tuples (e := fun _ => true) pl pl2 hu (fun j _ h2 => absurd h2 (by simp)) X.prog X.w X.xe _ ?_
  have e : ((List.range (min its.toArray.size ([] : List Value).toArray.size)).all (fun _ => true) && its.toArray.size == ([] : List Value).toArray.size) = xs.isEmpty := by
    cases xs with
    | nil =>
      have : its = [] := Vals.zero r
      subst this
      rfl
    | cons x r =>
      cases its with
      | nil => simp at hlen
      | cons y r2 => simp
  rw [e]
  exact ⟨.bl xs.isEmpty, H, I, rfl, q⟩
end L2

set_option Elab.async false
set_option linter.all false
set_option maxRecDepth 100000
set_option maxHeartbeats 4000000
namespace K11
open PySem L2 M11
abbrev sRuleOf : Stmt := top 2
abbrev sBelow : Stmt := top 3
abbrev sStand : Stmt := top 5
abbrev sTop : Stmt := top 6
abbrev sRules : Stmt := top 12
abbrev sTree : Stmt := top 13
abbrev sSpoil : Stmt := top 14
abbrev sStands : Stmt := top 15
abbrev sLaw : Stmt := top 16
def ruAt (rules : List Rule) (k : Int) : Option Rule := if 0 ≤ k then rules[k.toNat]? else none
theorem ruAt_nat {rules : List Rule} (k : Nat) : ruAt rules (k : Int) = rules[k]? := by
  unfold ruAt
  rw [if_pos (by omega), Int.toNat_natCast]
theorem ruAt_some {rules : List Rule} {k : Int} {ru : Rule} (h : ruAt rules k = some ru) : ∃ j : Nat, k = (j : Int) ∧ rules[j]? = some ru := by
  unfold ruAt at h
  by_cases c : 0 ≤ k
  · rw [if_pos c] at h
    exact ⟨k.toNat, by omega, h⟩
  · rw [if_neg c] at h
    cases h
theorem ruAt_none {rules : List Rule} {k : Int} (h : ruAt rules k = none) : ¬ (0 ≤ k ∧ k < (rules.length : Int)) := by
  rintro ⟨h1, h2⟩
  unfold ruAt at h
  rw [if_pos h1, List.getElem?_eq_none_iff] at h
  omega
section
variable {P : Program} {w : World} {K : PySem.W.Frag} {mg : Str → Option Value} {base : Heap} {f : Addr} {fd : FuncData}
theorem kit_st : PySem.W.kitOne K (.type "tuple") (.type "str") = some false := by kernel_rfl
def spBelow : Sp := fun vs H Q _ => ∃ (k m : Int), vs = [.int k, .int m] ∧ Q (.bl (decide (0 ≤ k ∧ k < m))) H
theorem scBelow : FnScope ["number", "many"] ["number", "many"] (defScope sBelow) := ⟨rfl, rfl, rfl, by decide +kernel, rfl, by decide +kernel, by decide +kernel⟩
theorem ok_below (F : Fun K "is_number_below" "is_number_below" sBelow f fd) (T : Txt mg) : FnOk P w K mg base CX0 1 f fd ["number", "many"] spBelow := by
  refine F.ok scBelow (fun vs H Q E h => ?_) (fun cdv A outer s H vs Q E hr h => ?_)
  · obtain ⟨k, m, rfl, _⟩ := h; rfl
  · obtain ⟨k, m, rfl, q⟩ := h
    refine ⟨_, pss_one (ps_ret (pe_and (pe_callB call_isinst rfl T.isi PyProof.Rows.boot_isinstance (pa_cons (pv 0) (pa_cons (pe_bltn (v := .ty "int") rfl T.int PyProof.Rows.boot_int rfl) pa_nil)))
      (pe_and (pe_not (pe_callB call_isinst rfl T.isi PyProof.Rows.boot_isinstance (pa_cons (pv 0) (pa_cons (pe_bltn (v := .ty "bool") rfl T.boo PyProof.Rows.boot_bool rfl) pa_nil))))
      (pe_one (pe_chain op_le op_lt pe_int (pv 0) (pv 1)))))), ?_⟩
    refine ⟨_, rfl, .int k, "int", "int", true, rfl, .int k, kit_self, true, rfl, ?_⟩
    refine iteT ?_
    refine ⟨_, rfl, .int k, "int", "bool", false, rfl, .int k, kit_ib, false, rfl, true, rfl, ?_⟩
    refine iteT ?_
    refine ⟨_, rfl, _, _, rfl, rfl, _, rfl, ?_⟩
    refine ite2 (fun c => ?_) (fun c => ?_)
    · have c' : 0 ≤ k := of_decide_eq_true c
      refine ⟨_, rfl, _, _, rfl, rfl, ?_⟩
      show Q (.bl (decide (k < m))) H
      rw [show decide (k < m) = decide (0 ≤ k ∧ k < m) by simp [c']]
      exact q
    · have c' : ¬ 0 ≤ k := fun z => c (decide_eq_true z)
      show Q (.bl false) H
      rw [show false = decide (0 ≤ k ∧ k < m) by simp [c']]
      exact q
def spRuleOf (K : PySem.W.Frag) : Sp := fun vs H Q _ => ∃ (R : Addr) (rs : List Addr) (rules : List Rule) (k : Int) (x : Str), vs = [.ref R, .int k, .str x] ∧ SqL K H R (rs.map V.ref) ∧ Rules K H rs rules ∧ Q (.bl (match ruAt rules k with | some ru => decide (V.str ru.1 = V.str x) | none => false)) H
theorem scRuleOf : FnScope ["rules", "number", "name"] ["rules", "number", "name"] (defScope sRuleOf) := ⟨rfl, rfl, rfl, by decide +kernel, rfl, by decide +kernel, by decide +kernel⟩
theorem ok_ruleOf (F : Fun K "is_rule_of" "is_rule_of" sRuleOf f fd) (T : Txt mg) (GB : CalleeD P w K mg base 1 "is_number_below" ["number", "many"] spBelow) : FnOk P w K mg base CX0 2 f fd ["rules", "number", "name"] (spRuleOf K) := by
  refine F.ok scRuleOf (fun vs H Q E h => ?_) (fun cdv A outer s H vs Q E hr h => ?_)
  · obtain ⟨R, rs, rules, k, x, rfl, _⟩ := h; rfl
  · obtain ⟨R, rs, rules, k, x, rfl, hR, hrl, q⟩ := h
    refine ⟨_, pss_one (ps_ret (pe_and (pe_fn GB hr rfl (pa_cons (pv 1) (pa_cons (pe_callB call_len_seq rfl T.len PySem.boot_len (pa_cons (pv 0) pa_nil)) pa_nil)))
      (pe_one (pe_cmpR op_eq (pe_ix ix_tup (pe_ix ix_list (pv 0) (pv 1) (fun _ _ => rfl)) pe_int (fun _ _ => rfl)) (pv 2) (nomark _))))), ?_⟩
    have ll := Paired.length hrl
    refine ⟨_, rfl, _, rfl, R, _, rfl, .inl hR, k, _, rfl, ?_⟩
    rw [List.length_map]
    cases hk : ruAt rules k with
    | none =>
      have hn := ruAt_none hk
      rw [hk] at q
      rw [show decide (0 ≤ k ∧ k < (rs.length : Int)) = false from decide_eq_false (by rw [ll]; exact hn)]
      exact ⟨false, rfl, iteF q⟩
    | some ru =>
      rw [hk] at q
      obtain ⟨j, rfl, hj⟩ := ruAt_some hk
      have lk := (List.getElem?_eq_some_iff.mp hj).1
      obtain ⟨r, er, p, v1, v2⟩ := Paired.at_ hrl j ru hj
      have atk : atI (rs.map V.ref) (j : Int) = some (.ref r) := atI_nat (by rw [List.getElem?_map, er]; rfl)
      rw [show decide (0 ≤ (j : Int) ∧ (j : Int) < (rs.length : Int)) = true from decide_eq_true (by omega)]
      refine ⟨true, rfl, ?_⟩
      refine iteT ?_
      exact ⟨_, rfl, _, rfl, R, _, _, _, rfl, rfl, hR, atk, r, _, _, _, rfl, rfl, v1, rfl, _, rfl, rfl, q⟩
def topB (rules : List Rule) (k : Int) (m : Nat) (x : Str) : Bool := match ruAt rules k with | some ru => decide (ru.1 = x) && decide (m = ru.2.length) | none => false
def spTop (K : PySem.W.Frag) : Sp := fun vs H Q _ => ∃ (R : Addr) (rs : List Addr) (rules : List Rule) (v : V) (x : Str), vs = [.ref R, v, .str x] ∧ SqL K H R (rs.map V.ref) ∧ Rules K H rs rules ∧
  ((∃ z, v = .str z ∧ Q (.bl false) H) ∨ ∃ (a p : Addr) (k : Int) (us : List V), v = .ref a ∧ SqT K H a [.int k, .ref p] ∧ SqT K H p us ∧ Q (.bl (topB rules k us.length x)) H)
theorem scTop : FnScope ["rules", "tree", "name"] ["rules", "tree", "name"] (defScope sTop) := ⟨rfl, rfl, rfl, by decide +kernel, rfl, by decide +kernel, by decide +kernel⟩
theorem ok_top (F : Fun K "is_top_of" "is_top_of" sTop f fd) (T : Txt mg) (GR : CalleeD P w K mg base 2 "is_rule_of" ["rules", "number", "name"] (spRuleOf K)) : FnOk P w K mg base CX0 3 f fd ["rules", "tree", "name"] (spTop K) := by
  refine F.ok scTop (fun vs H Q E h => ?_) (fun cdv A outer s H vs Q E hr h => ?_)
  · obtain ⟨R, rs, rules, v, x, rfl, _⟩ := h; rfl
  · obtain ⟨R, rs, rules, v, x, rfl, hR, hrl, hc⟩ := h
    refine ⟨_, pss_cons (ps_if (PW.pt (pw_or (pt_val (pe_callB call_isinst rfl T.isi PyProof.Rows.boot_isinstance (pa_cons (pv 1) (pa_cons (pe_bltn (v := .ty "str") rfl T.str boot_txt rfl) pa_nil))))
        (pw_or1 (pt_not (pt_val (pe_fn GR hr rfl (pa_cons (pv 0) (pa_cons (pe_ix ix_tup (pv 1) pe_int (fun _ _ => rfl)) (pa_cons (pv 2) pa_nil))))))))) (pss_one (ps_ret pe_bl)) pss_nil)
      (pss_one (ps_ret (pe_cmpR op_eq (pe_callB call_len_seq rfl T.len PySem.boot_len (pa_cons (pe_ix ix_tup (pv 1) pe_int (fun _ _ => rfl)) pa_nil))
        (pe_callB call_len_seq rfl T.len PySem.boot_len (pa_cons (pe_ix ix_tup (pe_ix ix_list (pv 0) (pe_ix ix_tup (pv 1) pe_int (fun _ _ => rfl)) (fun _ _ => rfl)) pe_int (fun _ _ => rfl)) pa_nil)) (nomark _)))), ?_⟩
    rcases hc with ⟨z, rfl, q⟩ | ⟨a, p, k, us, rfl, ha, hp, q⟩
    · refine ⟨_, rfl, .str z, "str", "str", true, rfl, .str z, kit_self, true, rfl, ?_⟩
      refine iteT ?_
      exact q
    · refine ⟨_, rfl, .ref a, "tuple", "str", false, rfl, .tup ha, kit_st, false, rfl, ?_⟩
      refine iteF ?_
      have ll := Paired.length hrl
      refine ⟨_, rfl, _, rfl, a, _, _, _, rfl, rfl, ha, rfl, _, rfl, R, rs, rules, k, x, rfl, hR, hrl, ?_⟩
      unfold topB at q
      cases hk : ruAt rules k with
      | none =>
        rw [hk] at q
        refine ⟨false, rfl, ?_⟩
        exact iteT q
      | some ru =>
        rw [hk] at q
        obtain ⟨j, rfl, hj⟩ := ruAt_some hk
        have lk := (List.getElem?_eq_some_iff.mp hj).1
        obtain ⟨r, er, p2, v1, v2⟩ := Paired.at_ hrl j ru hj
        have atk : atI (rs.map V.ref) (j : Int) = some (.ref r) := atI_nat (by rw [List.getElem?_map, er]; rfl)
        by_cases c : ru.1 = x
        · refine ⟨true, by simp [c], ?_⟩
          refine iteF ?_
          refine ⟨_, rfl, a, _, _, _, rfl, rfl, ha, rfl, p, us, rfl, .inr hp, _, rfl, _, rfl, a, _, _, _, rfl, rfl, ha, rfl, R, _, _, _, rfl, rfl, hR, atk, r, _, _, _, rfl, rfl, v1, rfl, p2, _, rfl, .inr v2, rfl, ?_⟩
          rw [List.length_map]
          have : decide (V.int (us.length : Int) = V.int (ru.2.length : Int)) = (decide (ru.1 = x) && decide (us.length = ru.2.length)) := by
            by_cases c2 : us.length = ru.2.length
            · simp [c, c2]
            · have : ¬ (us.length : Int) = (ru.2.length : Int) := by omega
              simp [c, c2, this]
          rw [this]
          exact q
        · refine ⟨false, by simp [c], ?_⟩
          refine iteT ?_
          have : (decide (ru.1 = x) && decide (us.length = ru.2.length)) = false := by simp [c]
          have q' : Q (.bl (decide (ru.1 = x) && decide (us.length = ru.2.length))) H := q
          rw [this] at q'
          exact q'
end
end K11

set_option Elab.async false
set_option linter.all false
set_option maxRecDepth 100000
set_option maxHeartbeats 4000000
namespace K11
open PySem L2 M11
mutual
inductive Tr
  | w (z : Str)
  | n (k : Int) (cs : Trs)
inductive Trs
  | nil
  | cons (t : Tr) (r : Trs)
end
def Trs.toL : Trs → List Tr
  | .nil => []
  | .cons t r => t :: r.toL
mutual
def TrV (K : PySem.W.Frag) (H : Hp) : Tr → V → Prop
  | .w z, v => v = .str z
  | .n k cs, v => ∃ a p vs, v = .ref a ∧ SqT K H a [.int k, .ref p] ∧ SqT K H p vs ∧ TrsV K H cs vs
def TrsV (K : PySem.W.Frag) (H : Hp) : Trs → List V → Prop
  | .nil, vs => vs = []
  | .cons t r, vs => ∃ v vs', vs = v :: vs' ∧ TrV K H t v ∧ TrsV K H r vs'
end
mutual
def row : Tr → List Str
  | .w z => [z]
  | .n _ cs => rows cs
def rows : Trs → List Str
  | .nil => []
  | .cons t r => row t ++ rows r
end
mutual
def sz : Tr → Nat
  | .w _ => 1
  | .n _ cs => 1 + szs cs
def szs : Trs → Nat
  | .nil => 0
  | .cons t r => sz t + szs r
end
mutual
def dp : Tr → Nat
  | .w _ => 0
  | .n _ cs => 1 + dps cs
def dps : Trs → Nat
  | .nil => 0
  | .cons t r => max (dp t) (dps r)
end
mutual
def Is (rules : List Rule) : Tr → Str → Prop
  | .w z, x => x = z ∧ z ∉ hd rules
  | .n k cs, x => ∃ parts, ruAt rules k = some (x, parts) ∧ Iss rules cs parts
def Iss (rules : List Rule) : Trs → List Str → Prop
  | .nil, ps => ps = []
  | .cons t r, ps => ∃ p ps', ps = p :: ps' ∧ Is rules t p ∧ Iss rules r ps'
end
section
variable {K : PySem.W.Frag}
mutual
theorem TrV.keep {H H' : Hp} (k : ∀ a xs, SqT K H a xs → SqT K H' a xs) : ∀ (t : Tr) {v : V}, TrV K H t v → TrV K H' t v
  | .w z, v, h => by unfold TrV at *; exact h
  | .n m cs, v, h => by
    unfold TrV at *
    obtain ⟨a, p, vs, e, h1, h2, h3⟩ := h
    exact ⟨a, p, vs, e, k _ _ h1, k _ _ h2, TrsV.keep k cs h3⟩
theorem TrsV.keep {H H' : Hp} (k : ∀ a xs, SqT K H a xs → SqT K H' a xs) : ∀ (ts : Trs) {vs : List V}, TrsV K H ts vs → TrsV K H' ts vs
  | .nil, vs, h => by unfold TrsV at *; exact h
  | .cons t r, vs, h => by
    unfold TrsV at *
    obtain ⟨v, vs', e, h1, h2⟩ := h
    exact ⟨v, vs', e, TrV.keep k t h1, TrsV.keep k r h2⟩
end
theorem TrsV.paired {H : Hp} : ∀ (ts : Trs) {vs : List V}, TrsV K H ts vs → Paired (fun v t => TrV K H t v) vs ts.toL
  | .nil, vs, h => by unfold TrsV at h; subst h; exact .nil
  | .cons t r, vs, h => by
    unfold TrsV at h
    obtain ⟨v, vs', rfl, h1, h2⟩ := h
    exact .cons h1 (TrsV.paired r h2)
theorem rows_toL : ∀ ts : Trs, rows ts = ts.toL.flatMap row
  | .nil => by unfold rows; rfl
  | .cons t r => by unfold rows; rw [rows_toL r]; rfl
theorem szs_toL : ∀ ts : Trs, szs ts = (ts.toL.map sz).sum
  | .nil => by unfold szs; rfl
  | .cons t r => by unfold szs; rw [szs_toL r]; rfl
theorem sz_pos : ∀ t : Tr, 1 ≤ sz t
  | .w _ => by unfold sz; exact Nat.le_refl _
  | .n _ cs => by unfold sz; omega
theorem Iss.paired {rules : List Rule} : ∀ (ts : Trs) {ps : List Str}, Iss rules ts ps → ts.toL.length = ps.length ∧ ∀ (j : Nat) t p, ts.toL[j]? = some t → ps[j]? = some p → Is rules t p
  | .nil, ps, h => by
    unfold Iss at h; subst h
    exact ⟨rfl, fun j t p e => by simp [Trs.toL] at e⟩
  | .cons t r, ps, h => by
    unfold Iss at h
    obtain ⟨p, ps', rfl, h1, h2⟩ := h
    obtain ⟨a, b⟩ := Iss.paired r h2
    refine ⟨by show r.toL.length + 1 = ps'.length + 1; omega, fun j u q e1 e2 => ?_⟩
    cases j with
    | zero => cases e1; cases e2; exact h1
    | succ j => exact b j u q e1 e2
theorem Iss.back {rules : List Rule} : ∀ (ts : Trs) {ps : List Str}, ts.toL.length = ps.length → (∀ (j : Nat) t p, ts.toL[j]? = some t → ps[j]? = some p → Is rules t p) → Iss rules ts ps
  | .nil, ps, e, h => by
    unfold Iss
    exact List.length_eq_zero_iff.mp e.symm
  | .cons t r, ps, e, h => by
    unfold Iss
    cases ps with
    | nil => exact absurd e (by show ¬ r.toL.length + 1 = 0; omega)
    | cons p ps => exact ⟨p, ps, rfl, h 0 t p rfl rfl, Iss.back r (by have : r.toL.length + 1 = ps.length + 1 := e; omega) fun j u q e1 e2 => h (j + 1) u q e1 e2⟩
theorem dps_le : ∀ (ts : Trs) (t : Tr), t ∈ ts.toL → dp t ≤ dps ts
  | .nil, t, h => by cases h
  | .cons u r, t, h => by
    unfold dps
    rcases List.mem_cons.mp h with e | e
    · rw [e]; omega
    · have := dps_le r t e
      omega
end
section
variable {P : Program} {w : World} {K : PySem.W.Frag} {mg : Str → Option Value} {base : Heap} {f : Addr} {fd : FuncData}
theorem paired_last {α β : Type} {F : α → β → Prop} {us : List α} {ts : List β} (p : Paired F us ts) (h : us ≠ []) : ∃ us' u ts' t, us = us' ++ [u] ∧ ts = ts' ++ [t] ∧ Paired F us' ts' ∧ F u t := by
  have p2 := Paired.rev' p
  have hr : us.reverse ≠ [] := fun z => h (List.reverse_eq_nil_iff.mp z)
  generalize e1 : us.reverse = us2 at p2 hr
  generalize e2 : ts.reverse = ts2 at p2
  cases p2 with
  | nil => exact absurd rfl hr
  | @cons u t us3 ts3 a b =>
    refine ⟨us3.reverse, u, ts3.reverse, t, ?_, ?_, Paired.rev' b, a⟩
    · rw [← List.reverse_reverse us, e1, List.reverse_cons]
    · rw [← List.reverse_reverse ts, e2, List.reverse_cons]
theorem Paired.app' {α β : Type} {F : α → β → Prop} : ∀ {xs : List α} {ys : List β} {xs2 : List α} {ys2 : List β}, Paired F xs ys → Paired F xs2 ys2 → Paired F (xs ++ xs2) (ys ++ ys2)
  | _, _, _, _, .nil, h => h
  | _, _, _, _, .cons a b, h => .cons a (Paired.app' b h)
theorem pop_last {us : List V} {u : V} : (us ++ [u])[(us ++ [u]).length - 1]? = some u := by
  rw [List.length_append]
  simp
end
end K11

set_option Elab.async false
set_option linter.all false
set_option maxRecDepth 100000
set_option maxHeartbeats 4000000
namespace L2
open PySem
theorem comp_pairsL {K : PySem.W.Frag} {H : Hp} {p D : Addr} {zs : List Str} {σ : St} {v : V} {x : Str} {Qp : Hp → Prop} (hp : SqL K H p (zs.map V.str)) (hz : zs.length ≤ 10000) (hD : H D = none)
    (q : ∀ ts H2, Same H H2 → H2 D = some (.lst (ts.map V.ref)) → Paired (fun t h => SqT K H2 t [.str h, v]) ts zs → Qp H2) :
    ∃ W : Nat → Nat → List V → St → Hp → Prop, (∃ m, W 0 m [] (capS [x] [] σ) (upd H D (.lst []))) ∧
  ∀ i m ys σ' H, W i m ys σ' H → ((Itl K p).stop i H ∧ Qp H) ∨ ((Itl K p).go i H ∧ ∃ m', m' < m ∧ ∀ x H', (Itl K p).yld i H x H' → gName 0 x σ' H' fun σ2 H2 => tTrue σ2 H2 fun b H3 =>
    if b = true then tTup (tCons (tVar 0) (tCons (tC v) tNil)) σ2 H3 fun y H4 => H4 D = some (.lst ys) ∧ ys.length < sizeLine ∧ W (i + 1) m' (ys ++ [y]) σ2 (upd H4 D (.lst (ys ++ [y]))) else W (i + 1) m' ys σ2 H3) := by
  refine compG_list (xs := zs.map V.str) (fun i ys σ2 H2 => ∃ ts : List Addr, ys = ts.map V.ref ∧ ts.length = i ∧ Paired (fun t h => SqT K H2 t [.str h, v]) ts (zs.take i) ∧ (∃ y0, σ2 = [y0]) ∧ Same H H2 ∧ H2 D = some (.lst ys))
    ⟨[], rfl, rfl, .nil, ⟨none, rfl⟩, same_laid hD _, upd_same⟩ (fun i ys σ2 H2 _ h => ?_) (fun i x ys σ2 H2 ex h => ?_) (fun ys σ2 H2 h => ?_)
  · obtain ⟨_, _, _, _, _, sm, _⟩ := h
    exact sm.seq hp
  · obtain ⟨ts, rfl, ht, hpp, ⟨y0, rfl⟩, sm, hd⟩ := h
    rw [List.getElem?_map] at ex
    obtain ⟨z, ez, rfl⟩ := Option.map_eq_some_iff.mp ex
    have li := (List.getElem?_eq_some_iff.mp ez).1
    refine goN (goT ?_)
    refine ⟨_, rfl, (by show 2 ≤ sizeLine; decide), fun t ht2 => ⟨?_, fits' (by rw [List.length_map]; omega), ts ++ [t], ?_, ?_, ?_, ⟨_, rfl⟩, ?_, upd_same⟩⟩
    · rw [upd_ne (ne_of_none hd ht2)]; exact hd
    · rw [List.map_append]; rfl
    · rw [List.length_append, ht]; rfl
    · rw [List.take_add_one, ez]
      have hd3 : upd H2 t (.tup [.str z, v]) D = some (.lst (ts.map V.ref)) := by rw [upd_ne (ne_of_none hd ht2)]; exact hd
      exact Paired.snoc (Paired.mapP hpp fun t' h' z => sqt_upd hd3 ((same_laid ht2 _).tup z)) (sqt_upd hd3 (SqT.of upd_same))
    · intro b o hb
      rw [upd_ne (fun z => by rw [z, hD] at hb; cases hb)]
      exact same_laid ht2 _ _ _ (sm b o hb)
  · obtain ⟨ts, rfl, ht, hpp, _, sm, hd⟩ := h
    rw [List.length_map, List.take_length] at hpp
    exact q ts H2 sm hd hpp

theorem val_fill {v : V} : ∀ (hs : List Str) (acc : List (Key × V)) (z : Str), valV (fillK (hs.map fun h => ((Sum.inr h : Key), v)) acc) (Sum.inr z) = if z ∈ hs then some v else valV acc (Sum.inr z)
  | [], acc, z => by simp [fillK]
  | h :: r, acc, z => by
    have ih := val_fill (v := v) r (putK acc (Sum.inr h) v) z
    show valV (fillK (r.map fun h => ((Sum.inr h : Key), v)) (putK acc (Sum.inr h) v)) (Sum.inr z) = _
    rw [ih, valV_put]
    by_cases c : z ∈ r
    · rw [if_pos c, if_pos (List.mem_cons_of_mem _ c)]
    · rw [if_neg c]
      by_cases c2 : z = h
      · rw [if_pos (by rw [c2]), if_pos (by rw [c2]; exact List.mem_cons_self)]
      · rw [if_neg (fun e => c2 (Sum.inr.inj e)), if_neg (fun e => (List.mem_cons.mp e).elim c2 c)]
end L2
namespace K11
open PySem L2 M11
theorem ded_memH : ∀ (hs acc : List Str) (x : Str), x ∈ ded acc hs ↔ x ∈ acc ∨ x ∈ hs
  | [], acc, x => by simp [ded]
  | h :: r, acc, x => by
    show x ∈ ded (add1 acc h) r ↔ _
    rw [ded_memH r, List.mem_cons]
    unfold add1
    by_cases c : h ∈ acc
    · rw [if_pos c]
      constructor
      · rintro (a | a)
        · exact .inl a
        · exact .inr (.inr a)
      · rintro (a | a | a)
        · exact .inl a
        · exact .inl (a ▸ c)
        · exact .inr a
    · rw [if_neg c, List.mem_append, List.mem_singleton]
      constructor
      · rintro ((a | a) | a)
        · exact .inl a
        · exact .inr (.inl a)
        · exact .inr (.inr a)
      · rintro (a | a | a)
        · exact .inl (.inl a)
        · exact .inl (.inr a)
        · exact .inr a
theorem hd_mem {rules : List Rule} {x : Str} : x ∈ hd rules ↔ ∃ ru ∈ rules, ru.1 = x := by
  unfold hd
  rw [ded_memH]
  constructor
  · rintro (h | h)
    · cases h
    · obtain ⟨ru, a, b⟩ := List.mem_map.mp h
      exact ⟨ru, a, b⟩
  · rintro ⟨ru, a, b⟩
    exact .inr (List.mem_map.mpr ⟨ru, a, b⟩)
section
variable {P : Program} {w : World} {K : PySem.W.Frag} {mg : Str → Option Value} {base : Heap} {f : Addr} {fd : FuncData}
def spStand (K : PySem.W.Frag) : Sp := fun vs H Q _ => ∃ (R : Addr) (rs : List Addr) (rules : List Rule) (v : V) (t : Tr) (x : Str) (b : Bool), vs = [.ref R, v, .str x] ∧ SqL K H R (rs.map V.ref) ∧ Rules K H rs rules ∧ rules.length ≤ 1000 ∧ TrV K H t v ∧ sz t ≤ 1000000 ∧ x ∈ hd rules ∧ (b = true ↔ Is rules t x) ∧ ∀ H', Same H H' → Q (.bl b) H'
theorem scStand : FnScope ["rules", "tree", "name", "heads", "waiting", "pair"] ["rules", "tree", "name"] (defScope sStand) := ⟨rfl, rfl, rfl, by decide +kernel, rfl, by decide +kernel, by decide +kernel⟩
theorem ok_stand (F : Fun K "tree_stands" "tree_stands" sStand f fd) (T : Txt mg) (hZ : mg "zip" = none) (GH : CalleeD P w K mg base 3 "heads_of" ["rules"] (spHeads K)) (GT : CalleeD P w K mg base 3 "is_top_of" ["rules", "tree", "name"] (spTop K)) : FnOk P w K mg base CX0 4 f fd ["rules", "tree", "name"] (spStand K) := by
  refine F.ok scStand (fun vs H Q E h => ?_) (fun cdv A outer s H vs Q E hr h => ?_)
  · obtain ⟨R, rs, rules, v, t, x, b, rfl, _⟩ := h; rfl
  · obtain ⟨R, rs, rules, v, t, x, b, rfl, hR, hrl, hlen, ht, hsz, hx, vd, q⟩ := h
    have hu := hu_of hr
    have hu1 := Nat.lt_of_succ_lt hu
    refine ⟨_, pss_cons (ps_set (i := 3) scStand.nd rfl (Or.inl rfl) (pe_callTy (call_dictP rfl) rfl T.dct boot_dct (pa_cons (pe_compG ["head"] [] rfl (pi_list (pe_fn GH hr rfl (pa_cons (pv 0) pa_nil))) (caps_of rfl rfl) (by decide +kernel) rfl (by decide +kernel)
        (fun _ _ _ _ _ => pg_name (i := 0) (show (["head"] : List Str).Nodup by decide +kernel) rfl (Or.inl rfl)) (fun _ _ _ _ _ => pif_nil) (fun _ _ _ _ _ => pe_tup (pa_cons (pv 0) (pa_cons pe_bl pa_nil)))) pa_nil)))
      (pss_cons (ps_if (pt_cmp (pc_dnotin hu (pv 2) (pv 3))) (pss_one (ps_ret pe_bl)) pss_nil)
      (pss_cons (ps_set (i := 4) scStand.nd rfl (Or.inl rfl) (pe_lst (pa_cons (pe_tup (pa_cons (pv 1) (pa_cons (pv 2) pa_nil))) pa_nil)))
      (pss_cons (ps_while PassesOwn.never (pt_truth (pv 4) (fun _ => rfl))
        (pss_cons (ps_set (i := 5) scStand.nd rfl (Or.inl rfl) (pe_bm0 PySem.F.plainAttrs_list PySem.F.slot_list_pop PySem.F.type_list_pop mt_pop (pv 4)))
        (pss_one (ps_if (pt_cmp (pc_din hu (pe_ix ix_tup (pv 5) pe_int (fun _ _ => rfl)) (pv 3)))
          (pss_cons (ps_if (pt_not (pt_val (pe_fn GT hr rfl (pa_cons (pv 0) (pa_cons (pe_ix ix_tup (pv 5) pe_int (fun _ _ => rfl)) (pa_cons (pe_ix ix_tup (pv 5) pe_int (fun _ _ => rfl)) pa_nil)))))) (pss_one (ps_ret pe_bl)) pss_nil)
          (pss_one (ps_expr (pe_bm PySem.F.plainAttrs_list PySem.F.slot_list_extend PySem.F.type_list_extend mt_extend (pv 4) (pa_cons (pe_listzip rfl rfl T.lst rfl hZ (pa_cons (pe_ix ix_tup (pe_ix ix_tup (pv 5) pe_int (fun _ _ => rfl)) pe_int (fun _ _ => rfl))
            (pa_cons (pe_ix ix_tup (pe_ix ix_list (pv 0) (pe_ix ix_tup (pe_ix ix_tup (pv 5) pe_int (fun _ _ => rfl)) pe_int (fun _ _ => rfl)) (fun _ _ => rfl)) pe_int (fun _ _ => rfl)) pa_nil))) pa_nil)))))
          (pss_one (ps_if (pt_cmpR (op_ne_ts hu1) (pe_ix ix_tup (pv 5) pe_int (fun _ _ => rfl)) (pe_ix ix_tup (pv 5) pe_int (fun _ _ => rfl)) (nomark _)) (pss_one (ps_ret pe_bl)) pss_nil))))))
      (pss_one (ps_ret pe_bl))))), ?_⟩
    refine ⟨_, rfl, R, rs, rules, rfl, hR, hrl, hlen, fun D1 H1 f1 s1 e1 => ?_⟩
    have lhd := ded_len (rules.map (·.1)) []
    simp only [List.length_nil, List.length_map] at lhd
    refine ⟨D1, rfl, ⟨_, SqL.of e1⟩, fun D2 hD2 => comp_pairsL (SqL.of e1) (by omega) hD2 fun ts H2 s2 e2 p2 => ?_⟩
    have kp : Paired (fun t (kv : Key × V) => SqT K H2 t [kV kv.1, kv.2]) ts ((hd rules).map fun h => ((Sum.inr h : Key), V.bl true)) := paired_mapR p2 fun _ _ z => z
    refine ⟨D2, ts, _, rfl, e2, kp, fun d hd0 => ?_⟩
    have memH : ∀ z, (valV (fillK ((hd rules).map fun h => ((Sum.inr h : Key), V.bl true)) []) (Sum.inr z)).isSome = decide (z ∈ hd rules) := fun z => by
      rw [val_fill]
      by_cases c : z ∈ hd rules
      · rw [if_pos c, decide_eq_true c]; rfl
      · rw [if_neg c, decide_eq_false c]; rfl
    generalize fillK ((hd rules).map fun h => ((Sum.inr h : Key), V.bl true)) [] = kE at memH
    have s3 := (s1.trans s2).trans (same_laid hd0 (.dK kE))
    have e3 : upd H2 d (.dK kE) d = some (.dK kE) := upd_same
    generalize upd H2 d (.dK kE) = H3 at s3 e3
    refine ⟨_, rfl, _, rfl, d, _, rfl, DGet.k (k := Sum.inr x) e3, _, rfl, ?_⟩
    rw [memH]
    refine ite2 (fun c => ?_) (fun c => ?_)
    · have nx : x ∉ hd rules := by simpa using c
      exact absurd hx nx
    refine ⟨_, rfl, _, rfl, (by show 2 ≤ sizeLine; decide), fun r0 hr0 => ⟨(by show 1 ≤ sizeLine; decide), fun W hW => ?_⟩⟩
    have fW : H W = none := (s3.trans (same_laid hr0 _)).free hW
    have s4 := s3.trans ((same_laid hr0 (.tup [v, .str x])).trans (same_laid hW (.lst [.ref r0])))
    have e4 := (same_laid hr0 (.tup [v, .str x])).trans (same_laid hW (.lst [.ref r0])) _ _ e3
    have v4 : SqT K (upd (upd H3 r0 (.tup [v, .str x])) W (.lst [.ref r0])) r0 [v, .str x] := (same_laid hW _).tup (SqT.of upd_same)
    have eW4 : upd (upd H3 r0 (.tup [v, .str x])) W (.lst [.ref r0]) W = some (.lst [.ref r0]) := upd_same
    have nWd : W ≠ d := fun z => by
      have := (same_laid hr0 (.tup [v, .str x])) _ _ e3
      rw [← z, hW] at this; cases this
    generalize upd (upd H3 r0 (.tup [v, .str x])) W (.lst [.ref r0]) = H4 at s4 e4 v4 eW4
    refine ⟨fun m σ H5 => ∃ (us : List Addr) (ts : List (Tr × Str)) (y : Option V), σ = [some (.ref R), some v, some (.str x), some (.ref d), some (.ref W), y] ∧ Same H H5 ∧ H5 d = some (.dK kE) ∧ H5 W = some (.lst (us.map V.ref)) ∧ Paired (fun r (p : Tr × Str) => ∃ v, SqT K H5 r [v, .str p.2] ∧ TrV K H5 p.1 v) us ts ∧
        (b = true ↔ ∀ p ∈ ts, Is rules p.1 p.2) ∧ m = (ts.map fun p => sz p.1).sum ∧ m ≤ sz t,
      ⟨sz t, [r0], [(t, x)], none, rfl, s4, e4, eW4, .cons ⟨v, v4, TrV.keep (fun _ _ z => s4.tup z) t ht⟩ .nil, by rw [vd]; simp, by simp, Nat.le_refl _⟩, ?_⟩
    rintro m σ H5 ⟨us, ts, y, rfl, sm, e5, eW, pr, jd, em, ez⟩
    have lp := Paired.length pr
    refine ⟨_, rfl, !us.isEmpty, .inl ⟨us.map V.ref, SqL.of eW, by simp⟩, ?_⟩
    refine ite2 (fun c => ?_) (fun c => ?_)
    · obtain ⟨us', r, ts', p0, rfl, rfl, pr', v0, h0, t0v⟩ := paired_last pr (fun z => by rw [z] at c; cases c)
      obtain ⟨t0, x0⟩ := p0
      rw [List.map_append, List.sum_append] at em
      simp only [List.map_cons, List.map_nil, List.sum_cons, List.sum_nil] at em
      have sp := sz_pos t0
      refine ⟨_, fun _ _ h => h, ?_⟩
      rw [List.map_append] at eW
      refine ⟨_, rfl, .inl ⟨rfl, _, SqL.of eW⟩, W, _, .ref r, rfl, rfl, eW, pop_last, ?_⟩
      rw [show (us'.map V.ref ++ [r].map V.ref).dropLast = us'.map V.ref from List.dropLast_concat]
      have sm2 : Same H (upd H5 W (.lst (us'.map V.ref))) := fun b o hb => by rw [upd_ne (fun z => by rw [z, fW] at hb; cases hb)]; exact sm b o hb
      have tk : ∀ a xs, SqT K H5 a xs → SqT K (upd H5 W (.lst (us'.map V.ref))) a xs := fun a xs z => sqt_upd eW z
      have h1 := tk _ _ h0
      have t1 := TrV.keep tk t0 t0v
      have pr2 : Paired (fun r (p : Tr × Str) => ∃ v, SqT K (upd H5 W (.lst (us'.map V.ref))) r [v, .str p.2] ∧ TrV K (upd H5 W (.lst (us'.map V.ref))) p.1 v) us' ts' := Paired.mapP pr' fun r p ⟨v, z1, z2⟩ => ⟨v, tk _ _ z1, TrV.keep tk p.1 z2⟩
      have eW2 : upd H5 W (.lst (us'.map V.ref)) W = some (.lst (us'.map V.ref)) := upd_same
      have e6 : upd H5 W (.lst (us'.map V.ref)) d = some (.dK kE) := by rw [upd_ne (Ne.symm nWd)]; exact e5
      generalize upd H5 W (.lst (us'.map V.ref)) = H6 at sm2 h1 t1 pr2 eW2 e6
      refine ⟨_, rfl, r, _, _, _, rfl, rfl, h1, rfl, _, rfl, d, _, rfl, DGet.k (k := Sum.inr x0) e6, _, rfl, ?_⟩
      rw [memH]
      have j0 : b = true ↔ Is rules t0 x0 ∧ ∀ p ∈ ts', Is rules p.1 p.2 := by
        rw [jd]
        constructor
        · exact fun j => ⟨j _ (List.mem_append.mpr (.inr (List.mem_singleton.mpr rfl))), fun p hp => j p (List.mem_append.mpr (.inl hp))⟩
        · rintro ⟨h1, h2⟩ p hp
          rcases List.mem_append.mp hp with h | h
          · exact h2 p h
          · rw [List.mem_singleton.mp h]; exact h1
      have bF : ¬ Is rules t0 x0 → b = false := fun h => by
        cases hb : b with
        | false => rfl
        | true => exact absurd (j0.mp hb).1 h
      refine ite2 (fun c2 => ?_) (fun c2 => ?_)
      · have hx0 : x0 ∈ hd rules := of_decide_eq_true c2
        cases t0 with
        | w z =>
          have hb := bF (fun j => by unfold Is at j; exact j.2 (j.1 ▸ hx0))
          unfold TrV at t1
          subst t1
          refine ⟨_, rfl, _, rfl, r, _, _, _, rfl, rfl, h1, rfl, _, rfl, r, _, _, _, rfl, rfl, h1, rfl, R, rs, rules, .str z, x0, rfl, sm2.seq hR, hrl.same sm2, .inl ⟨z, rfl, false, rfl, ?_⟩⟩
          refine iteT ?_
          rw [hb] at q
          exact q H6 sm2
        | n k cs =>
          unfold TrV at t1
          obtain ⟨a, p, vs, rfl, ha, hp, hvs⟩ := t1
          have pcs := TrsV.paired cs hvs
          have lcs := Paired.length pcs
          have hrl6 := hrl.same sm2
          refine ⟨_, rfl, _, rfl, r, _, _, _, rfl, rfl, h1, rfl, _, rfl, r, _, _, _, rfl, rfl, h1, rfl, R, rs, rules, .ref a, x0, rfl, sm2.seq hR, hrl6, .inr ⟨a, p, k, vs, rfl, ha, hp, ?_⟩⟩
          cases ctop : topB rules k vs.length x0 with
          | false =>
            have hb := bF (fun j => by
              unfold Is at j
              obtain ⟨parts, hk, hcs⟩ := j
              obtain ⟨lis, _⟩ := Iss.paired cs hcs
              unfold topB at ctop
              rw [hk] at ctop
              have e : vs.length = parts.length := by omega
              simp [e] at ctop)
            refine ⟨false, rfl, ?_⟩
            refine iteT ?_
            rw [hb] at q
            exact q H6 sm2
          | true =>
            refine ⟨true, rfl, ?_⟩
            refine iteF ?_
            obtain ⟨parts, hk, lvp⟩ : ∃ parts, ruAt rules k = some (x0, parts) ∧ vs.length = parts.length := by
              unfold topB at ctop
              cases hk : ruAt rules k with
              | none => rw [hk] at ctop; cases ctop
              | some ru =>
                rw [hk] at ctop
                have c3 : ru.1 = x0 ∧ vs.length = ru.2.length := by simpa using ctop
                exact ⟨ru.2, by rw [← c3.1], c3.2⟩
            obtain ⟨jj, rfl, hj⟩ := ruAt_some hk
            obtain ⟨rr, er, p2, v1, v2⟩ := Paired.at_ hrl6 jj _ hj
            have atk : atI (rs.map V.ref) (jj : Int) = some (.ref rr) := atI_nat (by rw [List.getElem?_map, er]; rfl)
            have e7 : sz (.n (jj : Int) cs) = 1 + (cs.toL.map sz).sum := by unfold sz; rw [szs_toL]
            have lsz : ∀ l : List Tr, l.length ≤ (l.map sz).sum := fun l => by
              induction l with
              | nil => exact Nat.le_refl _
              | cons x r ih =>
                have := sz_pos x
                rw [List.map_cons, List.sum_cons, List.length_cons]
                omega
            have l1 := lsz cs.toL
            have l2 := lsz (ts'.map (·.1))
            have l3 := Paired.length pr2
            rw [List.length_map, List.map_map] at l2
            have l2' : ts'.length ≤ (ts'.map fun p => sz p.1).sum := l2
            refine ⟨_, rfl, .inl ⟨rfl, _, SqL.of eW2⟩, _, rfl, r, _, _, _, rfl, rfl, h1, rfl, a, _, _, _, rfl, rfl, ha, rfl, _, rfl, _, rfl, r, _, _, _, rfl, rfl, h1, rfl, a, _, _, _, rfl, rfl, ha, rfl, R, _, _, _, rfl, rfl, sm2.seq hR, atk, rr, _, _, _, rfl, rfl, v1, rfl, p, p2, vs, parts.map V.str, rfl, hp, v2, by rw [List.length_map]; omega, by omega, fun L ts2 H7 fL s7 eL pz => ?_⟩
            have eW7 := s7 _ _ eW2
            have lz := Paired.length pz
            rw [List.length_zip, List.length_map] at lz
            refine ⟨W, L, _, _, rfl, rfl, eW7, eL, fits (by rw [List.length_map, List.length_map]; omega), ?_⟩
            rw [← List.map_append]
            have k8 : ∀ a xs, SqT K H6 a xs → SqT K (upd H7 W (.lst ((us' ++ ts2).map V.ref))) a xs := fun a xs z => sqt_upd eW7 (s7.tup z)
            have sumz : ((cs.toL.zip parts).map fun p => sz p.1).sum = (cs.toL.map sz).sum := by
              have : ((cs.toL.zip parts).map fun p => sz p.1) = ((cs.toL.zip parts).map Prod.fst).map sz := by rw [List.map_map]; rfl
              rw [this, List.map_fst_zip (by omega)]
            have isI : Is rules (.n (jj : Int) cs) x0 ↔ ∀ pp ∈ cs.toL.zip parts, Is rules pp.1 pp.2 := by
              constructor
              · intro j pp h
                unfold Is at j
                obtain ⟨parts', hk', hcs⟩ := j
                rw [hk] at hk'
                cases hk'
                obtain ⟨j, hj⟩ := List.getElem?_of_mem h
                obtain ⟨ec, eq⟩ := List.getElem?_zip_eq_some.mp hj
                exact (Iss.paired cs hcs).2 j _ _ ec eq
              · intro h
                unfold Is
                exact ⟨parts, hk, Iss.back cs (by omega) fun j t p e1 e2 => h (t, p) (List.mem_of_getElem? (List.getElem?_zip_eq_some.mpr ⟨e1, e2⟩))⟩
            refine ⟨(ts'.map fun p => sz p.1).sum + (cs.toL.map sz).sum, by omega, us' ++ ts2, ts' ++ cs.toL.zip parts, _, rfl, fun b o hb => ?_, by rw [upd_ne (Ne.symm nWd)]; exact s7 _ _ e6, upd_same, ?_, ?_, by rw [List.map_append, List.sum_append, sumz], by omega⟩
            · rw [upd_ne (fun z => by rw [z, fW] at hb; cases hb)]; exact s7 _ _ (sm2 b o hb)
            · refine Paired.app' (Paired.mapP pr2 fun r p ⟨v, z1, z2⟩ => ⟨v, k8 _ _ z1, TrV.keep k8 p.1 z2⟩) (paired_of (by rw [List.length_zip]; omega) fun j T pp eT ep => ?_)
              obtain ⟨ec, eq⟩ := List.getElem?_zip_eq_some.mp ep
              obtain ⟨u, eu, hu2⟩ := Paired.at_ pcs j _ ec
              have ezp : (vs.zip (parts.map V.str))[j]? = some (u, .str pp.2) := List.getElem?_zip_eq_some.mpr ⟨eu, by rw [List.getElem?_map, eq]; rfl⟩
              obtain ⟨T', eT', hT'⟩ := Paired.at_ pz j _ ezp
              rw [eT] at eT'
              cases eT'
              exact ⟨u, sqt_upd eW7 hT', TrV.keep k8 pp.1 hu2⟩
            · rw [j0, isI]
              constructor
              · rintro ⟨h1, h2⟩ pp hpp
                rcases List.mem_append.mp hpp with h | h
                · exact h2 pp h
                · exact h1 pp h
              · exact fun h => ⟨fun pp hp => h pp (List.mem_append.mpr (.inr hp)), fun pp hp => h pp (List.mem_append.mpr (.inl hp))⟩
      · have nx0 : x0 ∉ hd rules := fun z => c2 (decide_eq_true z)
        cases t0 with
        | n k cs =>
          have hb := bF (fun j => by
            unfold Is at j
            obtain ⟨parts, e, _⟩ := j
            obtain ⟨jj, _, e2⟩ := ruAt_some e
            exact nx0 (hd_mem.mpr ⟨_, List.mem_of_getElem? e2, rfl⟩))
          unfold TrV at t1
          obtain ⟨a, p, vs, rfl, ha, hp, hvs⟩ := t1
          refine ⟨_, rfl, r, _, _, _, rfl, rfl, h1, rfl, _, rfl, r, _, _, _, rfl, rfl, h1, rfl, x0, rfl, .inr ⟨a, _, rfl, ha, true, rfl, ?_⟩⟩
          refine iteT ?_
          rw [hb] at q
          exact q H6 sm2
        | w z =>
          unfold TrV at t1
          subst t1
          refine ⟨_, rfl, r, _, _, _, rfl, rfl, h1, rfl, _, rfl, r, _, _, _, rfl, rfl, h1, rfl, x0, rfl, .inl ⟨z, rfl, _, rfl, ?_⟩⟩
          refine ite2 (fun c3 => ?_) (fun c3 => ?_)
          · have hb := bF (fun j => by unfold Is at j; rw [j.1] at c3; simp at c3)
            rw [hb] at q
            exact q H6 sm2
          · have ezx : z = x0 := by
              by_cases c4 : z = x0
              · exact c4
              · exact absurd (by simp [c4]) c3
            have e7 : sz (.w z) = 1 := by unfold sz; rfl
            refine ⟨_, by omega, us', ts', _, rfl, sm2, e6, eW2, pr2, ?_, rfl, by omega⟩
            rw [j0]
            exact ⟨fun h => h.2, fun h => ⟨by unfold Is; exact ⟨ezx.symm, ezx ▸ nx0⟩, h⟩⟩
    · have e0 : us = [] := by
        cases us with
        | nil => rfl
        | cons _ _ => exact absurd rfl c
      subst e0
      cases pr
      have hb : b = true := jd.mpr fun p hp => by cases hp
      rw [hb] at q
      exact q H5 sm
end
end K11

set_option Elab.async false
set_option linter.all false
set_option maxRecDepth 100000
set_option maxHeartbeats 4000000
namespace K11
open PySem L2 M11
theorem cut_strs (ns : List Str) (lo hi : Option Int) : ∃ ns' : List Str, cutV (ns.map V.str) lo hi = ns'.map V.str ∧ (∀ n ∈ ns', n ∈ ns) ∧ ns'.length ≤ ns.length :=
  ⟨(ns.drop (HT.sIx (ns.map V.str).length 0 lo)).take (HT.sIx (ns.map V.str).length (ns.map V.str).length hi - HT.sIx (ns.map V.str).length 0 lo), by unfold cutV; rw [← List.map_drop, ← List.map_take], fun n hn => List.mem_of_mem_drop (List.mem_of_mem_take hn), by rw [List.length_take, List.length_drop]; omega⟩
theorem atM {zs : List Str} {m : Int} (h : (zs.length : Int) = m) (hm : 0 < m) (n : Int) : ∃ z ∈ zs, atI (zs.map V.str) (n % m) = some (.str z) := by
  subst h
  have h1 := Int.emod_lt_of_pos n hm
  have h2 := Int.emod_nonneg n (show (zs.length : Int) ≠ 0 by omega)
  have l : (n % (zs.length : Int)).toNat < zs.length := by omega
  have e : n % (zs.length : Int) = (((n % (zs.length : Int)).toNat : Nat) : Int) := by omega
  refine ⟨zs[(n % (zs.length : Int)).toNat], List.getElem_mem l, ?_⟩
  have t : atI (zs.map V.str) (((n % (zs.length : Int)).toNat : Nat) : Int) = some (.str zs[(n % (zs.length : Int)).toNat]) := atI_nat (by rw [List.getElem?_map, List.getElem?_eq_getElem l]; rfl)
  rw [← e] at t
  exact t
theorem atMI {zs : List Int} {m : Int} (h : (zs.length : Int) = m) (hm : 0 < m) (n : Int) : ∃ z ∈ zs, atI (zs.map V.int) (n % m) = some (.int z) := by
  subst h
  have h1 := Int.emod_lt_of_pos n hm
  have h2 := Int.emod_nonneg n (show (zs.length : Int) ≠ 0 by omega)
  have l : (n % (zs.length : Int)).toNat < zs.length := by omega
  have e : n % (zs.length : Int) = (((n % (zs.length : Int)).toNat : Nat) : Int) := by omega
  refine ⟨zs[(n % (zs.length : Int)).toNat], List.getElem_mem l, ?_⟩
  have t : atI (zs.map V.int) (((n % (zs.length : Int)).toNat : Nat) : Int) = some (.int zs[(n % (zs.length : Int)).toNat]) := atI_nat (by rw [List.getElem?_map, List.getElem?_eq_getElem l]; rfl)
  rw [← e] at t
  exact t
structure MadeT (ns ws : List Str) (rules : List Rule) : Prop where
  first : ∀ (i : Nat) (n : Str), ns[i]? = some n → ∃ parts, rules[i]? = some (n, parts) ∧ ∀ x ∈ parts, x ∈ ws ∨ ns[i + 1]? = some x
  all : ∀ ru ∈ rules, ru.1 ∈ ns ∧ (∀ x ∈ ru.2, x ∈ ns ∨ x ∈ ws) ∧ ru.2.length ≤ 8
section
variable {P : Program} {w : World} {K : PySem.W.Frag} {mg : Str → Option Value} {base : Heap} {f : Addr} {fd : FuncData}
def spRules (K : PySem.W.Frag) : Sp := fun vs H Q _ => ∃ (c : Int) (N W C : Addr) (ns ws : List Str) (cs : List Int), vs = [.int c, .ref N, .ref W, .ref C] ∧ H N = some (.lst (ns.map V.str)) ∧ H W = some (.lst (ws.map V.str)) ∧ SqL K H C (cs.map V.int) ∧ ws.length = 3 ∧ 0 < ns.length ∧ ns.length ≤ 3 ∧ cs.length ≤ 90 ∧
  ∀ (R : Addr) (rs : List Addr) (rules : List Rule) (H' : Hp), H R = none → Same H H' → H' R = some (.lst (rs.map V.ref)) → Rules K H' rs rules → MadeT ns ws rules → rules.length ≤ 100 → Q (.ref R) H'
theorem scRules : FnScope ["_law_cell", "_law_names", "_law_words", "_law_cells", "_law_rules_here", "_law_at", "_law_draw", "_law_parts", "_law_pool_here", "_law_one", "_law_digits_here", "_law_many"] ["_law_cell", "_law_names", "_law_words", "_law_cells"] (defScope sRules) := ⟨rfl, rfl, rfl, by decide +kernel, rfl, by decide +kernel, by decide +kernel⟩
theorem ok_rules (F : Fun K "_law_rules" "_law_rules" sRules f fd) (T : Txt mg) (GS : CalleeD P w K mg base 2 "_law_stream" ["_law_cell", "_law_many"] spStream) (GD : CalleeD P w K mg base 2 "_law_digits" ["_law_cell", "_law_many"] spDigits) : FnOk P w K mg base CX0 3 f fd ["_law_cell", "_law_names", "_law_words", "_law_cells"] (spRules K) := by
  refine F.ok scRules (fun vs H Q E h => ?_) (fun cdv A outer s H vs Q E hr h => ?_)
  · obtain ⟨c, N, W, C, ns, ws, cs, rfl, _⟩ := h; rfl
  · obtain ⟨c, N, W, C, ns, ws, cs, rfl, hN, hW, hC, h3, hn0, hn3, hcs, q⟩ := h
    refine ⟨_, pss_cons (ps_set (i := 4) scRules.nd rfl (Or.inl rfl) (pe_lst pa_nil))
      (pss_cons (ps_cutS (ps_for PassesOwn.never rfl (pi_enum rfl T.enu (pa_cons (pe_fn GS hr rfl (pa_cons (pv 0) (pa_cons (pe_callB call_len_seq rfl T.len PySem.boot_len (pa_cons (pv 1) pa_nil)) pa_nil))) pa_nil)) (pg_tup rfl (pgs_cons (pg_name (i := 5) scRules.nd rfl (Or.inl rfl)) (pgs_cons (pg_name (i := 6) scRules.nd rfl (Or.inr rfl)) pgs_nil)))
        (pss_cons (ps_set (i := 7) scRules.nd rfl (Or.inl rfl) (pe_slice sl_list (pe_compG ["_law_size"] [(2, "_law_words"), (6, "_law_draw")] rfl (pi_list (pe_lst (pa_cons pe_int (pa_cons pe_int pa_nil)))) (caps_of rfl rfl) (by decide +kernel) rfl (by decide +kernel)
            (fun _ _ _ _ _ => pg_name (i := 0) (show (["_law_size", "_law_words", "_law_draw"] : List Str).Nodup by decide +kernel) rfl (Or.inl rfl)) (fun _ _ _ _ _ => pif_nil) (fun _ _ _ _ _ => pe_ix (ix_listK K) (pv 1) (pe_op op_mod (pe_op op_fdiv (pv 2) (pv 0)) pe_int) (fun _ _ => rfl)))
            po_none (po_some (pe_op op_add pe_int (pe_op op_mod (pe_op op_fdiv (pv 6) pe_int) pe_int)))))
        (pss_cons (ps_cutS (ps_if (pt_cmpR op_lt (pe_op op_add (pv 5) pe_int) (pe_callB call_len_seq rfl T.len PySem.boot_len (pa_cons (pv 1) pa_nil)) (nomark _))
          (pss_one (ps_expr (pe_bm PySem.F.plainAttrs_list PySem.F.slot_list_insert PySem.F.type_list_insert mt_insert (pv 7) (pa_cons (pe_op op_mod (pe_op op_fdiv (pv 6) pe_int) (pe_op op_add (pe_callB call_len_seq rfl T.len PySem.boot_len (pa_cons (pv 7) pa_nil)) pe_int)) (pa_cons (pe_ix ix_list (pv 1) (pe_op op_add (pv 5) pe_int) (fun _ _ => rfl)) pa_nil))))) pss_nil))
        (pss_one (ps_expr (pe_bm PySem.F.plainAttrs_list PySem.F.slot_list_append PySem.F.type_list_append mt_append (pv 4) (pa_cons (pe_tup (pa_cons (pe_ix ix_list (pv 1) (pv 5) (fun _ _ => rfl)) (pa_cons (pe_callTy call_tuple_of rfl T.tup PyProof.Rows.boot_tuple (pa_cons (pv 7) pa_nil)) pa_nil))) pa_nil))))))))
      (pss_cons (ps_set (i := 8) scRules.nd rfl (Or.inr rfl) (pe_op op_cat (pv 1) (pv 2)))
      (pss_cons (ps_for PassesOwn.never rfl (pi_list (pv 3)) (pg_name (i := 9) scRules.nd rfl (Or.inl rfl))
        (pss_cons (ps_set (i := 10) scRules.nd rfl (Or.inl rfl) (pe_fn GD hr rfl (pa_cons (pv 9) (pa_cons pe_int pa_nil))))
        (pss_cons (ps_set (i := 11) scRules.nd rfl (Or.inl rfl) (pe_ix ix_list (pe_lst (pa_cons pe_int (pa_cons pe_int (pa_cons pe_int (pa_cons pe_int (pa_cons pe_int (pa_cons pe_int (pa_cons pe_int (pa_cons pe_int pa_nil))))))))) (pe_op op_mod (pe_ix ix_list (pv 10) pe_int (fun _ _ => rfl)) pe_int) (fun _ _ => rfl)))
        (pss_cons (ps_setC (iy := 7) ["_law_digit"] [(8, "_law_pool_here")] scRules.nd rfl rfl rfl (pi_list (pe_slice sl_list (pv 10) (po_some pe_int) (po_some (pe_op op_add pe_int (pv 11))))) (caps_of rfl rfl) (by decide +kernel) rfl (by decide +kernel)
            (fun _ _ _ _ _ => pg_name (i := 0) (show (["_law_digit", "_law_pool_here"] : List Str).Nodup by decide +kernel) rfl (Or.inl rfl)) (fun _ _ _ _ _ => pif_nil) (fun _ _ _ _ _ => pe_ix (ix_listK K) (pv 1) (pe_op op_mod (pv 0) (pe_callB (call_lenK K) rfl T.len PySem.boot_len (pa_cons (pv 1) pa_nil))) (fun _ _ => rfl)))
        (pss_one (ps_expr (pe_bm PySem.F.plainAttrs_list PySem.F.slot_list_append PySem.F.type_list_append mt_append (pv 4) (pa_cons (pe_tup (pa_cons (pe_ix ix_list (pv 1) (pe_op op_mod (pe_ix ix_list (pv 10) pe_int (fun _ _ => rfl)) (pe_callB call_len_seq rfl T.len PySem.boot_len (pa_cons (pv 1) pa_nil))) (fun _ _ => rfl)) (pa_cons (pe_callTy call_tuple_of rfl T.tup PyProof.Rows.boot_tuple (pa_cons (pv 7) pa_nil)) pa_nil))) pa_nil))))))))
      (pss_one (ps_ret (pv 4)))))), ?_⟩
    refine ⟨(by show 0 ≤ sizeLine; decide), fun L hL => ?_⟩
    have s1 := same_laid hL (.lst [])
    have e1 : upd H L (.lst []) L = some (.lst []) := upd_same
    generalize upd H L (.lst []) = H1 at s1 e1
    refine ⟨fun σ H5 => ∃ (rs : List Addr) (rules : List Rule) (y5 y6 y7 : Option V), σ = [some (.int c), some (.ref N), some (.ref W), some (.ref C), some (.ref L), y5, y6, y7, none, none, none, none] ∧ Same H H5 ∧ H5 L = some (.lst (rs.map V.ref)) ∧ Rules K H5 rs rules ∧ rules.length = ns.length ∧
      ∀ (j : Nat) (ru : Rule), rules[j]? = some ru → ns[j]? = some ru.1 ∧ (∀ x ∈ ru.2, x ∈ ws ∨ ns[j + 1]? = some x) ∧ ru.2.length ≤ 8, ?_, ?_⟩
    · refine ⟨_, rfl, _, rfl, N, _, rfl, .inl (SqL.of (s1 _ _ hN)), c, (ns.map V.str).length, rfl, by rw [List.length_map]; omega, fun D ds H2 fD s2 eD lD bD => ?_⟩
      rw [List.length_map] at lD
      have nD : D ≠ L := fun z => by rw [z, e1] at fD; cases fD
      have fD0 : H D = none := s1.free fD
      refine ⟨D, _, rfl, SqL.of eD, ?_⟩
      refine for_enum (xs := ds.map V.int) (fun i σ H6 => ∃ (rs : List Addr) (rules : List Rule) (y5 y6 y7 : Option V), σ = [some (.int c), some (.ref N), some (.ref W), some (.ref C), some (.ref L), y5, y6, y7, none, none, none, none] ∧ Same H H6 ∧ H6 L = some (.lst (rs.map V.ref)) ∧ H6 D = some (.lst (ds.map V.int)) ∧ Rules K H6 rs rules ∧ rules.length = i ∧
        ∀ (j : Nat) (ru : Rule), rules[j]? = some ru → ns[j]? = some ru.1 ∧ (∀ x ∈ ru.2, x ∈ ws ∨ ns[j + 1]? = some x) ∧ ru.2.length ≤ 8) ⟨[], [], none, none, none, rfl, s1.trans s2, s2 _ _ e1, eD, .nil, rfl, fun j ru e => by cases e⟩ ?_ ?_ ?_
      · rintro i σ H6 _ ⟨rs, rules, y5, y6, y7, rfl, sm, eL, eD6, _⟩
        exact SqL.of eD6
      · rintro i x σ H6 t ex ⟨rs, rules, y5, y6, y7, rfl, sm, eL, eD6, hrl, hl, hf⟩ ht
        have li := (List.getElem?_eq_some_iff.mp ex).1
        rw [List.length_map] at li
        rw [List.getElem?_map] at ex
        obtain ⟨d, ed, rfl⟩ := Option.map_eq_some_iff.mp ex
        have hdb := bD d (List.mem_of_getElem? ed)
        have lrs := Paired.length hrl
        have sm7 := sm.trans (same_laid ht (.tup [.int (i : Int), .int d]))
        have eL7 := same_laid ht (.tup [.int (i : Int), .int d]) _ _ eL
        have eD7 := same_laid ht (.tup [.int (i : Int), .int d]) _ _ eD6
        have hrl7 := hrl.same (same_laid ht (.tup [.int (i : Int), .int d]))
        have hv7 : SqT K (upd H6 t (.tup [.int (i : Int), .int d])) t [.int (i : Int), .int d] := SqT.of upd_same
        generalize upd H6 t (.tup [.int (i : Int), .int d]) = H7 at sm7 eL7 eD7 hrl7 hv7
        refine ⟨t, _, rfl, hv7, rfl, _, _, rfl, _, _, rfl, rfl, ?_⟩
        refine ⟨(by show 2 ≤ sizeLine; decide), fun L0 hL0 => ?_⟩
        have k8 := same_laid hL0 (.lst [.int 1, .int 3])
        have e8 : upd H7 L0 (.lst [.int 1, .int 3]) L0 = some (.lst [.int 1, .int 3]) := upd_same
        generalize upd H7 L0 (.lst [.int 1, .int 3]) = H8 at k8 e8
        refine ⟨L0, rfl, ⟨_, SqL.of e8⟩, fun D3 hD3 => compG_list (xs := [.int 1, .int 3]) (fun i ys σ2 H2 => ∃ zs : List Str, ys = zs.map V.str ∧ zs.length = i ∧ (∀ z ∈ zs, z ∈ ws) ∧ (∃ y0, σ2 = [y0, some (.ref W), some (.int d)]) ∧ Same H8 H2 ∧ H2 D3 = some (.lst ys))
          ⟨[], rfl, rfl, by simp, ⟨none, rfl⟩, same_laid hD3 _, upd_same⟩ (fun i ys σ2 H2 _ h => ?_) (fun i x ys σ2 H2 ex h => ?_) (fun ys σ2 H2 h => ?_)⟩
        · obtain ⟨_, _, _, _, _, smm, _⟩ := h
          exact SqL.of (smm _ _ e8)
        · obtain ⟨zs, rfl, hz, hzw, ⟨y0, rfl⟩, smm, hd⟩ := h
          obtain ⟨k, rfl, hk1, hk2⟩ : ∃ k : Int, x = .int k ∧ 0 < k ∧ k < 1073741824 := by
            match i, ex with
            | 0, ex => cases ex; exact ⟨1, rfl, by decide, by decide⟩
            | 1, ex => cases ex; exact ⟨3, rfl, by decide, by decide⟩
          have li2 : i < 2 := (List.getElem?_eq_some_iff.mp ex).1
          obtain ⟨z, hzm, hza⟩ := atM (m := 3) (show (ws.length : Int) = 3 by omega) (by decide) (d / k)
          refine goN (goT ?_)
          refine ⟨_, rfl, _, rfl, _, rfl, _, _, rfl, rfl, ⟨hk1, hk2⟩, _, _, rfl, rfl, (by show (0 : Int) < 3; decide), W, _, _, _, rfl, rfl, SqL.of (smm _ _ (k8 _ _ (sm7 _ _ hW))), hza, hd, fits' (by rw [List.length_map]; omega), zs ++ [z], by rw [List.map_append]; rfl, by rw [List.length_append, hz]; rfl, ?_, ⟨_, rfl⟩, ?_, upd_same⟩
          · intro z' hz'
            rcases List.mem_append.mp hz' with h | h
            · exact hzw z' h
            · rw [List.mem_singleton.mp h]; exact hzm
          · intro b o hb
            rw [upd_ne (fun z => by rw [z, hD3] at hb; cases hb)]
            exact smm b o hb
        · obtain ⟨zs, rfl, hz, hzw, _, smm, hd⟩ := h
          have k9 := k8.trans smm
          obtain ⟨ps, ep, hpm, hpl⟩ := cut_strs zs none (some (1 + d / 9 % 2))
          refine ⟨_, rfl, _, _, rfl, rfl, ⟨by decide, by decide⟩, _, _, rfl, rfl, (by show (0 : Int) < 2; decide), _, _, rfl, rfl, _, rfl, D3, _, rfl, SqL.of hd, fun D4 hD4 => ?_⟩
          rw [ep]
          have hz2 : zs.length = 2 := hz
          have nD4 : ∀ b o, H7 b = some o → b ≠ D4 := fun b o h z => by rw [z] at h; rw [k9 _ _ h] at hD4; cases hD4
          have kA := k9.trans (same_laid hD4 (.lst (ps.map V.str)))
          have fD4 : H D4 = none := (sm7.trans k9).free hD4
          have eA : upd H2 D4 (.lst (ps.map V.str)) D4 = some (.lst (ps.map V.str)) := upd_same
          generalize upd H2 D4 (.lst (ps.map V.str)) = HA at kA eA
          obtain ⟨n, hn⟩ : ∃ n, ns[i]? = some n := ⟨ns[i]'(by omega), List.getElem?_eq_getElem (by omega)⟩
          refine ⟨fun σ HB => ∃ (parts : List Str), σ = [some (.int c), some (.ref N), some (.ref W), some (.ref C), some (.ref L), some (.int (i : Int)), some (.int d), some (.ref D4), none, none, none, none] ∧ Same H HB ∧ HB L = some (.lst (rs.map V.ref)) ∧ HB D = some (.lst (ds.map V.int)) ∧ Rules K HB rs rules ∧ HB D4 = some (.lst (parts.map V.str)) ∧ parts.length ≤ 3 ∧ ∀ x ∈ parts, x ∈ ws ∨ ns[i + 1]? = some x, ?_, ?_⟩
          · refine ⟨_, rfl, _, _, rfl, rfl, _, rfl, N, _, rfl, .inl (SqL.of (kA _ _ (sm7 _ _ hN))), _, _, rfl, rfl, _, rfl, ?_⟩
            refine ite2 (fun cc => ?_) (fun cc => ?_)
            · have c' := of_decide_eq_true cc
              rw [List.length_map] at c'
              obtain ⟨n', en'⟩ : ∃ n', ns[i + 1]? = some n' := ⟨ns[i + 1]'(by omega), List.getElem?_eq_getElem (by omega)⟩
              have at1 : atI (ns.map V.str) ((i : Int) + 1) = some (.str n') := by
                have e : (i : Int) + 1 = ((i + 1 : Nat) : Int) := by omega
                rw [e]
                exact atI_nat (by rw [List.getElem?_map, en']; rfl)
              obtain ⟨ix, hix⟩ : ∃ ix : Nat, d / 18 % ((ps.length : Int) + 1) = (ix : Int) := ⟨(d / 18 % ((ps.length : Int) + 1)).toNat, by
                have := Int.emod_nonneg (d / 18) (show ((ps.length : Int) + 1) ≠ 0 by omega)
                omega⟩
              have hle : ix ≤ ps.length := by
                have := Int.emod_lt_of_pos (d / 18) (show (0 : Int) < (ps.length : Int) + 1 by omega)
                omega
              refine ⟨_, rfl, .inl ⟨rfl, _, SqL.of eA⟩, _, rfl, _, _, rfl, rfl, ⟨by decide, by decide⟩, _, rfl, D4, _, rfl, .inl (SqL.of eA), _, _, rfl, rfl, ?_⟩
              rw [List.length_map]
              refine ⟨_, _, rfl, rfl, (by show (0 : Int) < (ps.length : Int) + 1; omega), ?_⟩
              refine ⟨_, rfl, _, rfl, _, _, rfl, rfl, N, _, _, _, rfl, rfl, SqL.of (kA _ _ (sm7 _ _ hN)), at1, D4, _, ix, .str n', rfl, (by show [V.int (d / 18 % ((ps.length : Int) + 1)), V.str n'] = _; rw [hix]), eA, by rw [List.length_map]; exact hle, by rw [List.length_map]; omega, ?_⟩
              refine ⟨ps.take ix ++ n' :: ps.drop ix, rfl, fun b o hb => ?_, by rw [upd_ne (nD4 _ _ eL7)]; exact kA _ _ eL7, by rw [upd_ne (nD4 _ _ eD7)]; exact kA _ _ eD7, hrl7.keep fun a xs z => sqt_upd eA (kA.tup z), by rw [upd_same, List.map_append, List.map_cons, List.map_take, List.map_drop], by rw [List.length_append, List.length_cons, List.length_take, List.length_drop]; omega, fun x hx => ?_⟩
              · rw [upd_ne (fun z => by rw [z, fD4] at hb; cases hb)]; exact kA _ _ (sm7 b o hb)
              · rcases List.mem_append.mp hx with h | h
                · exact .inl (hzw x (hpm x (List.mem_of_mem_take h)))
                · rcases List.mem_cons.mp h with h | h
                  · exact .inr (h ▸ en')
                  · exact .inl (hzw x (hpm x (List.mem_of_mem_drop h)))
            · exact ⟨ps, rfl, sm7.trans kA, kA _ _ eL7, kA _ _ eD7, hrl7.same kA, eA, by omega, fun x hx => .inl (hzw x (hpm x hx))⟩
          · rintro σ HB ⟨parts, rfl, smB, eLB, eDB, hrlB, eB, lB, pB⟩
            have atn : atI (ns.map V.str) (i : Int) = some (.str n) := atI_nat (by rw [List.getElem?_map, hn]; rfl)
            refine ⟨_, rfl, .inl ⟨rfl, _, SqL.of eLB⟩, _, rfl, _, rfl, N, _, _, _, rfl, rfl, SqL.of (smB _ _ hN), atn, _, rfl, D4, _, rfl, .inl ⟨SqL.of eB, fun t1 ht1 => ⟨(by show 2 ≤ sizeLine; decide), fun R hR => ?_⟩⟩⟩
            have kR := (same_laid ht1 (.tup (parts.map V.str))).trans (same_laid hR (.tup [.str n, .ref t1]))
            have v1 : SqT K (upd (upd HB t1 (.tup (parts.map V.str))) R (.tup [.str n, .ref t1])) R [.str n, .ref t1] := SqT.of upd_same
            have v2 : SqT K (upd (upd HB t1 (.tup (parts.map V.str))) R (.tup [.str n, .ref t1])) t1 (parts.map V.str) := (same_laid hR _).tup (SqT.of upd_same)
            generalize upd (upd HB t1 (.tup (parts.map V.str))) R (.tup [.str n, .ref t1]) = HC at kR v1 v2
            have eLC := kR _ _ eLB
            refine ⟨L, _, _, rfl, rfl, eLC, fits' (by rw [List.length_map]; omega), ?_⟩
            refine ⟨rs ++ [R], rules ++ [(n, parts)], _, _, _, rfl, fun b o hb => ?_, by rw [upd_same, List.map_append]; rfl, by rw [upd_ne nD]; exact kR _ _ eDB, Paired.snoc (hrlB.keep fun b xs z => sqt_upd eLC (kR.tup z)) ⟨t1, sqt_upd eLC v1, sqt_upd eLC v2⟩, by rw [List.length_append, hl]; rfl, fun j ru e => ?_⟩
            · rw [upd_ne (fun z => by rw [z, hL] at hb; cases hb)]; exact kR _ _ (smB b o hb)
            · by_cases c2 : j < rules.length
              · rw [List.getElem?_append_left c2] at e
                exact hf j ru e
              · rw [List.getElem?_append_right (by omega)] at e
                have : j - rules.length = 0 := by
                  have := (List.getElem?_eq_some_iff.mp e).1
                  simp at this
                  omega
                rw [this] at e
                cases e
                have : j = i := by omega
                rw [this]
                exact ⟨hn, pB, by show parts.length ≤ 8; omega⟩
      · rintro σ H6 ⟨rs, rules, y5, y6, y7, rfl, sm, eL, eD6, hrl, hl, hf⟩
        rw [List.length_map] at hl
        exact ⟨rs, rules, _, _, _, rfl, sm, eL, hrl, by omega, hf⟩
    · rintro σ H5 ⟨rs0, rules0, y5, y6, y7, rfl, sm, eL, hrl0, hl0, hf0⟩
      refine ⟨_, rfl, _, rfl, N, W, _, _, rfl, rfl, sm _ _ hN, sm _ _ hW, fits (by rw [List.length_map, List.length_map]; omega), fun PL hPL => ?_⟩
      rw [← List.map_append]
      have sm1 := sm.trans (same_laid hPL (.lst ((ns ++ ws).map V.str)))
      have eL1 := same_laid hPL (.lst ((ns ++ ws).map V.str)) _ _ eL
      have hrl1 := hrl0.same (same_laid hPL (.lst ((ns ++ ws).map V.str)))
      have nPL : PL ≠ L := fun z => by rw [z, eL] at hPL; cases hPL
      have eP1 : upd H5 PL (.lst ((ns ++ ws).map V.str)) PL = some (.lst ((ns ++ ws).map V.str)) := upd_same
      generalize upd H5 PL (.lst ((ns ++ ws).map V.str)) = H6 at sm1 eL1 hrl1 eP1
      refine ⟨_, rfl, C, rfl, ⟨_, sm1.seq hC⟩, for_list (xs := cs.map V.int) (fun i σ H6 => ∃ (rs : List Addr) (more : List Rule) (y5 y6 y7 y9 y10 y11 : Option V), σ = [some (.int c), some (.ref N), some (.ref W), some (.ref C), some (.ref L), y5, y6, y7, some (.ref PL), y9, y10, y11] ∧ Same H H6 ∧ H6 L = some (.lst (rs.map V.ref)) ∧ H6 PL = some (.lst ((ns ++ ws).map V.str)) ∧ Rules K H6 rs (rules0 ++ more) ∧ more.length = i ∧
        ∀ ru ∈ more, ru.1 ∈ ns ∧ (∀ x ∈ ru.2, x ∈ ns ∨ x ∈ ws) ∧ ru.2.length ≤ 8) ⟨rs0, [], _, _, _, _, _, _, rfl, sm1, eL1, eP1, by rw [List.append_nil]; exact hrl1, rfl, fun ru h => by cases h⟩ ?_ ?_ ?_⟩
      · rintro i σ H6 _ ⟨rs, more, y5, y6, y7, y9, y10, y11, rfl, sm, _⟩
        exact sm.seq hC
      · rintro i x σ H7 ex ⟨rs, more, y5, y6, y7, y9, y10, y11, rfl, sm7, eL7, eP7, hrl7, hl, hm⟩
        have li := (List.getElem?_eq_some_iff.mp ex).1
        rw [List.length_map] at li
        rw [List.getElem?_map] at ex
        obtain ⟨d, ed, rfl⟩ := Option.map_eq_some_iff.mp ex
        have lrs := Paired.length hrl7
        rw [List.length_append] at lrs
        refine goN ?_
        refine ⟨_, rfl, d, 8, rfl, by decide, fun D6 dg H8 f8 s8 e8 l8 => ?_⟩
        obtain ⟨m0, em0⟩ : ∃ m, dg[0]? = some m := ⟨dg[0]'(by omega), List.getElem?_eq_getElem (by omega)⟩
        obtain ⟨m1, em1⟩ : ∃ m, dg[1]? = some m := ⟨dg[1]'(by omega), List.getElem?_eq_getElem (by omega)⟩
        have at0 : atI (dg.map V.int) 0 = some (.int m0) := atI_nat (j := 0) (by rw [List.getElem?_map, em0]; rfl)
        have at1 : atI (dg.map V.int) 1 = some (.int m1) := atI_nat (j := 1) (by rw [List.getElem?_map, em1]; rfl)
        refine ⟨(by show 8 ≤ sizeLine; decide), fun L8 hL8 => ?_⟩
        have k9 := s8.trans (same_laid hL8 (.lst [.int 0, .int 1, .int 2, .int 3, .int 1, .int 2, .int 3, .int 6]))
        have e9 := same_laid hL8 (.lst [.int 0, .int 1, .int 2, .int 3, .int 1, .int 2, .int 3, .int 6]) _ _ e8
        have eM : upd H8 L8 (.lst [.int 0, .int 1, .int 2, .int 3, .int 1, .int 2, .int 3, .int 6]) L8 = some (.lst [.int 0, .int 1, .int 2, .int 3, .int 1, .int 2, .int 3, .int 6]) := upd_same
        generalize upd H8 L8 (.lst [.int 0, .int 1, .int 2, .int 3, .int 1, .int 2, .int 3, .int 6]) = H9 at k9 e9 eM
        obtain ⟨mm, _, atm⟩ := atMI (zs := [0, 1, 2, 3, 1, 2, 3, 6]) (m := 8) rfl (by decide) m1
        refine ⟨_, rfl, D6, _, _, _, rfl, rfl, SqL.of e9, at1, _, _, rfl, rfl, (by show (0 : Int) < 8; decide), L8, _, _, _, rfl, rfl, SqL.of eM, atm, ?_⟩
        refine ⟨_, rfl, _, rfl, _, rfl, _, _, rfl, rfl, _, rfl, D6, _, rfl, SqL.of e9, fun D1 hD1 => ?_⟩
        obtain ⟨es, ee, _, hel⟩ := cut_ints dg (some 2) (some (2 + mm))
        rw [ee]
        have kA := k9.trans (same_laid hD1 (.lst (es.map V.int)))
        have e10 := same_laid hD1 (.lst (es.map V.int)) _ _ e9
        have eA : upd H9 D1 (.lst (es.map V.int)) D1 = some (.lst (es.map V.int)) := upd_same
        generalize upd H9 D1 (.lst (es.map V.int)) = HA at kA e10 eA
        refine ⟨D1, rfl, ⟨_, SqL.of eA⟩, fun D2 hD2 => compG_list (xs := es.map V.int) (fun i ys σ2 H4 => ∃ zs : List Str, ys = zs.map V.str ∧ zs.length = i ∧ (∀ z ∈ zs, z ∈ ns ++ ws) ∧ (∃ y0, σ2 = [y0, some (.ref PL)]) ∧ Same HA H4 ∧ H4 D2 = some (.lst ys))
          ⟨[], rfl, rfl, by simp, ⟨none, rfl⟩, same_laid hD2 _, upd_same⟩ (fun i ys σ2 H4 _ h => ?_) (fun i x ys σ2 H4 ex h => ?_) (fun ys σ2 H4 h => ?_)⟩
        · obtain ⟨_, _, _, _, _, smm, _⟩ := h
          exact SqL.of (smm _ _ eA)
        · obtain ⟨zs, rfl, hz, hzw, ⟨y0, rfl⟩, smm, hd⟩ := h
          have li2 := (List.getElem?_eq_some_iff.mp ex).1
          rw [List.length_map] at li2
          rw [List.getElem?_map] at ex
          obtain ⟨d2, ed2, rfl⟩ := Option.map_eq_some_iff.mp ex
          have hpl : (0 : Int) < ((ns ++ ws).length : Int) := by rw [List.length_append]; omega
          obtain ⟨zz, hzm, atz⟩ := atM (zs := ns ++ ws) rfl hpl d2
          refine goN (goT ?_)
          refine ⟨_, rfl, _, rfl, _, rfl, PL, _, rfl, .inl (SqL.of (smm _ _ (kA _ _ eP7))), _, _, rfl, rfl, ?_⟩
          rw [List.length_map]
          refine ⟨hpl, PL, _, _, _, rfl, rfl, SqL.of (smm _ _ (kA _ _ eP7)), atz, hd, fits' (by rw [List.length_map]; omega), zs ++ [zz], by rw [List.map_append]; rfl, by rw [List.length_append, hz]; rfl, ?_, ⟨_, rfl⟩, ?_, upd_same⟩
          · intro z' hz'
            rcases List.mem_append.mp hz' with h | h
            · exact hzw z' h
            · rw [List.mem_singleton.mp h]; exact hzm
          · intro b o hb
            rw [upd_ne (fun z => by rw [z, hD2] at hb; cases hb)]
            exact smm b o hb
        · obtain ⟨zs, rfl, hz, hzw, _, smm, hd⟩ := h
          rw [List.length_map] at hz
          refine goN ?_
          have kB := kA.trans smm
          have smB := sm7.trans kB
          have eLB := kB _ _ eL7
          have hnn : (0 : Int) < (ns.length : Int) := by omega
          obtain ⟨n, hnm, atn⟩ := atM (zs := ns) rfl hnn m0
          refine ⟨_, rfl, .inl ⟨rfl, _, SqL.of eLB⟩, _, rfl, _, rfl, D6, _, _, _, rfl, rfl, SqL.of (smm _ _ e10), at0, _, rfl, N, _, rfl, .inl (SqL.of (smB _ _ hN)), _, _, rfl, rfl, ?_⟩
          rw [List.length_map]
          refine ⟨hnn, N, _, _, _, rfl, rfl, SqL.of (smB _ _ hN), atn, _, rfl, D2, _, rfl, .inl ⟨SqL.of hd, fun t1 ht1 => ⟨(by show 2 ≤ sizeLine; decide), fun R hR => ?_⟩⟩⟩
          have kR := (same_laid ht1 (.tup (zs.map V.str))).trans (same_laid hR (.tup [.str n, .ref t1]))
          have v1 : SqT K (upd (upd H4 t1 (.tup (zs.map V.str))) R (.tup [.str n, .ref t1])) R [.str n, .ref t1] := SqT.of upd_same
          have v2 : SqT K (upd (upd H4 t1 (.tup (zs.map V.str))) R (.tup [.str n, .ref t1])) t1 (zs.map V.str) := (same_laid hR _).tup (SqT.of upd_same)
          generalize upd (upd H4 t1 (.tup (zs.map V.str))) R (.tup [.str n, .ref t1]) = HC at kR v1 v2
          have eLC := kR _ _ eLB
          refine ⟨L, _, _, rfl, rfl, eLC, fits' (by rw [List.length_map]; omega), ?_⟩
          refine ⟨rs ++ [R], more ++ [(n, zs)], _, _, _, _, _, _, rfl, fun b o hb => ?_, by rw [upd_same, List.map_append]; rfl, by rw [upd_ne nPL]; exact kR _ _ (kB _ _ eP7), ?_, by rw [List.length_append, hl]; rfl, fun ru hru => ?_⟩
          · rw [upd_ne (fun z => by rw [z, hL] at hb; cases hb)]; exact kR _ _ (smB b o hb)
          · rw [← List.append_assoc]
            exact Paired.snoc (hrl7.keep fun b xs z => sqt_upd eLC (kR.tup (kB.tup z))) ⟨t1, sqt_upd eLC v1, sqt_upd eLC v2⟩
          · rcases List.mem_append.mp hru with h | h
            · exact hm ru h
            · rw [List.mem_singleton.mp h]
              exact ⟨hnm, fun x hx => List.mem_append.mp (hzw x hx), by show zs.length ≤ 8; omega⟩
      · rintro σ H7 ⟨rs, more, y5, y6, y7, y9, y10, y11, rfl, sm7, eL7, eP7, hrl7, hl, hm⟩
        rw [List.length_map] at hl
        refine ⟨_, rfl, q L rs (rules0 ++ more) H7 hL sm7 eL7 hrl7 ⟨fun i n hn => ?_, fun ru hru => ?_⟩ (by rw [List.length_append]; omega)⟩
        · have li := (List.getElem?_eq_some_iff.mp hn).1
          have e : rules0[i]? = some (rules0[i]'(by omega)) := List.getElem?_eq_getElem (by omega)
          obtain ⟨a1, a2, _⟩ := hf0 i _ e
          rw [hn] at a1
          refine ⟨(rules0[i]'(by omega)).2, ?_, a2⟩
          rw [List.getElem?_append_left (by omega), e]
          congr 1
          exact Prod.ext (by cases a1; rfl) rfl
        · rcases List.mem_append.mp hru with h | h
          · obtain ⟨j, hj⟩ := List.getElem?_of_mem h
            obtain ⟨a1, a2, a3⟩ := hf0 j ru hj
            refine ⟨List.mem_of_getElem? a1, fun x hx => ?_, a3⟩
            rcases a2 x hx with h | h
            · exact .inr h
            · exact .inl (List.mem_of_getElem? h)
          · exact hm ru h
end
end K11

set_option Elab.async false
set_option linter.all false
set_option maxRecDepth 100000
set_option maxHeartbeats 4000000
namespace K11
open PySem L2 M11
theorem inV_str (h : Str) (zs : List Str) : inV (.str h) (zs.map V.str) = true ↔ h ∈ zs := by
  unfold inV
  rw [List.any_eq_true]
  constructor
  · rintro ⟨x, h1, h2⟩
    obtain ⟨z, hz, rfl⟩ := List.mem_map.mp h1
    have : z = h := by simpa [eqV] using h2
    rw [← this]; exact hz
  · intro hm
    exact ⟨.str h, List.mem_map.mpr ⟨h, hm, rfl⟩, by simp [eqV]⟩
theorem flat_strs (zs : List Str) : (zs.map V.str).all flatV = true := by
  rw [List.all_eq_true]
  intro x hx
  obtain ⟨z, _, rfl⟩ := List.mem_map.mp hx
  rfl
def SameD (T : Addr) (H H' : Hp) : Prop := ∀ b o, b ≠ T → H b = some o → H' b = some o
theorem SameD.trans {T : Addr} {H H1 H2 : Hp} (a : SameD T H H1) (b : SameD T H1 H2) : SameD T H H2 := fun c o n h => b c o n (a c o n h)
theorem SameD.of {T : Addr} {H H' : Hp} (s : Same H H') : SameD T H H' := fun b o _ h => s b o h
theorem SameD.tup {K : PySem.W.Frag} {T : Addr} {H H' : Hp} {xs ys : List V} (s : SameD T H H') (hT : H T = some (.lst ys)) {a : Addr} (h : SqT K H a xs) : SqT K H' a xs := by
  rcases h with (h | ⟨u, h⟩) | h
  · exact .inl (.inl (s _ _ (fun z => by rw [z, hT] at h; cases h) h))
  · exact .inl (.inr ⟨u, s _ _ (fun z => by rw [z, hT] at h; cases h) h⟩)
  · exact .inr h
def Trs.ofL : List Tr → Trs
  | [] => .nil
  | t :: r => .cons t (Trs.ofL r)
theorem toL_ofL : ∀ ts : List Tr, (Trs.ofL ts).toL = ts
  | [] => rfl
  | t :: r => by show t :: (Trs.ofL r).toL = t :: r; rw [toL_ofL r]
theorem ofL_trsV {K : PySem.W.Frag} {H : Hp} : ∀ {vs : List V} {ts : List Tr}, Paired (fun v t => TrV K H t v) vs ts → TrsV K H (Trs.ofL ts) vs
  | _, _, .nil => by unfold Trs.ofL TrsV; rfl
  | _, _, .cons h r => by unfold Trs.ofL TrsV; exact ⟨_, _, rfl, h, ofL_trsV r⟩
theorem ofL_iss {rules : List Rule} : ∀ {ts : List Tr} {ps : List Str}, Paired (fun t p => Is rules t p) ts ps → Iss rules (Trs.ofL ts) ps
  | _, _, .nil => by unfold Trs.ofL Iss; rfl
  | _, _, .cons h r => by unfold Trs.ofL Iss; exact ⟨_, _, rfl, h, ofL_iss r⟩
theorem ofL_dps {b : Nat} : ∀ (ts : List Tr), (∀ t ∈ ts, dp t ≤ b) → dps (Trs.ofL ts) ≤ b
  | [], _ => by unfold Trs.ofL dps; exact Nat.zero_le _
  | t :: r, h => by
    have h1 := ofL_dps r fun u hu => h u (List.mem_cons_of_mem _ hu)
    have h2 := h t List.mem_cons_self
    unfold Trs.ofL dps
    omega
def ksOf (rules : List Rule) (name : Str) (i : Nat) : List Nat := (List.range i).filter fun k => decide ((rules[k]?.map (·.1)) = some name)
theorem ks_mem {rules : List Rule} {name : Str} {i k : Nat} (h : k ∈ ksOf rules name i) : ∃ parts, rules[k]? = some (name, parts) := by
  have := of_decide_eq_true (List.mem_filter.mp h).2
  obtain ⟨ru, e1, e2⟩ := Option.map_eq_some_iff.mp this
  exact ⟨ru.2, by rw [e1, ← e2]⟩
theorem ks_first {rules : List Rule} {name : Str} {i n : Nat} (hi : i < n) (h : (rules[i]?.map (·.1)) = some name) (hb : ∀ j, j < i → (rules[j]?.map (·.1)) ≠ some name) : (ksOf rules name n)[0]? = some i := by
  unfold ksOf
  have e : n = i + (n - i) := by omega
  rw [e, List.range_add, List.filter_append]
  have e1 : (List.range i).filter (fun k => decide ((rules[k]?.map (·.1)) = some name)) = [] := by
    rw [List.filter_eq_nil_iff]
    intro j hj c
    exact hb j (List.mem_range.mp hj) (of_decide_eq_true c)
  rw [e1, List.nil_append]
  obtain ⟨m, em⟩ : ∃ m, n - i = m + 1 := ⟨n - i - 1, by omega⟩
  rw [em, List.range_succ_eq_map, List.map_cons, List.filter_cons]
  rw [if_pos (decide_eq_true (by simpa using h))]
  simp
def gB : Nat → Nat
  | 0 => 1
  | m + 1 => 1 + 8 * gB m
theorem gB_pos : ∀ m, 1 ≤ gB m
  | 0 => Nat.le_refl _
  | m + 1 => by unfold gB; omega
theorem gB_le {m : Nat} (h : m ≤ 2) : gB m ≤ 73 := by
  match m, h with
  | 0, _ => decide
  | 1, _ => decide
  | 2, _ => decide
theorem hd_in {ns ws : List Str} {rules : List Rule} (M : MadeT ns ws rules) {z : Str} (h : z ∈ hd rules) : z ∈ ns := by
  obtain ⟨ru, h1, rfl⟩ := hd_mem.mp h
  exact (M.all ru h1).1
theorem atMK {zs : List Nat} {m : Int} (h : (zs.length : Int) = m) (hm : 0 < m) (n : Int) : ∃ z ∈ zs, atI (zs.map fun k : Nat => V.int (k : Int)) (n % m) = some (.int (z : Int)) := by
  subst h
  have h1 := Int.emod_lt_of_pos n hm
  have h2 := Int.emod_nonneg n (show (zs.length : Int) ≠ 0 by omega)
  have l : (n % (zs.length : Int)).toNat < zs.length := by omega
  have e : n % (zs.length : Int) = (((n % (zs.length : Int)).toNat : Nat) : Int) := by omega
  refine ⟨zs[(n % (zs.length : Int)).toNat], List.getElem_mem l, ?_⟩
  have t : atI (zs.map fun k : Nat => V.int (k : Int)) (((n % (zs.length : Int)).toNat : Nat) : Int) = some (.int ((zs[(n % (zs.length : Int)).toNat] : Nat) : Int)) := atI_nat (by rw [List.getElem?_map, List.getElem?_eq_getElem l]; rfl)
  rw [← e] at t
  exact t
section
variable {P : Program} {w : World} {K : PySem.W.Frag} {mg : Str → Option Value} {base : Heap} {f : Addr} {fd : FuncData}
def spTree (K : PySem.W.Frag) (n : Nat) : Sp := fun vs H Q _ => ∃ (R N Dg : Addr) (rs : List Addr) (rules : List Rule) (ns ws : List Str) (i : Nat) (name : Str) (dg : List Int), vs = [.ref R, .ref N, .str name, .ref Dg] ∧ H R = some (.lst (rs.map V.ref)) ∧ Rules K H rs rules ∧ rules.length ≤ 100 ∧ H N = some (.lst (ns.map V.str)) ∧ MadeT ns ws rules ∧ ns.Nodup ∧ ns.length ≤ 3 ∧ (∀ x ∈ ns, x ∉ ws) ∧ ns[i]? = some name ∧
  H Dg = some (.lst (dg.map V.int)) ∧ dg.length ≤ 12 ∧ 4 * dg.length + (ns.length - i) < n ∧
  ∀ (v : V) (t : Tr) (dg' : List Int) (H' : Hp), SameD Dg H H' → H' Dg = some (.lst (dg'.map V.int)) → dg'.length ≤ dg.length → TrV K H' t v → Is rules t name → dp t ≤ 4 * dg.length + (ns.length - i) → sz t ≤ 1000 * (1 + 8 * (dg.length - dg'.length)) → (dg = [] → sz t ≤ gB (ns.length - i)) → Q v H'
theorem scTree : FnScope ["_law_rules_here", "_law_names", "_law_name", "_law_digits_here", "_law_numbers", "_law_number", "_law_children", "_law_part"] ["_law_rules_here", "_law_names", "_law_name", "_law_digits_here"] (defScope sTree) := ⟨rfl, rfl, rfl, by decide +kernel, rfl, by decide +kernel, by decide +kernel⟩
theorem ok_tree (F : Fun K "_law_tree" "_law_tree" sTree f fd) (T : Txt mg) (b1 : Binds K fd ["_law_rules_here", "_law_names", "_law_name", "_law_digits_here"] []) (m1 : mg "_law_tree" = some (.ref f)) : ∀ n, FnOk P w K mg base CX0 n f fd ["_law_rules_here", "_law_names", "_law_name", "_law_digits_here"] (spTree K n)
  | 0 => ⟨fun vs H Q E ⟨_, _, _, _, _, _, _, _, _, _, e, _⟩ => by rw [e]; rfl, fun A outer s H args us vs Q E _ _ _ _ ⟨_, _, _, _, _, _, _, _, _, _, _, _, _, _, _, _, _, _, _, _, _, _, h, _⟩ => absurd h (Nat.not_lt_zero _)⟩
  | n + 1 => by
    have G : CalleeD P w K mg base n "_law_tree" ["_law_rules_here", "_law_names", "_law_name", "_law_digits_here"] (spTree K n) := ⟨f, fd, ok_tree F T b1 m1 n, b1, F.kp, m1⟩
    refine F.ok scTree (fun vs H Q E h => ?_) (fun cdv A outer s H vs Q E hr h => ?_)
    · obtain ⟨_, _, _, _, _, _, _, _, _, _, rfl, _⟩ := h; rfl
    · obtain ⟨R, N, Dg, rs, rules, ns, ws, i, name, dg, rfl, hR, hrl, hlen, hN, M, hnd, hn3, hdj, hni, hDg, hd12, hms, q⟩ := h
      have hu := Nat.lt_of_succ_lt (hu_of hr)
      refine ⟨_, pss_cons (ps_setC (iy := 4) ["_law_number"] [(0, "_law_rules_here"), (2, "_law_name")] scTree.nd rfl rfl rfl (pi_range1 rfl T.rng (pa_cons (pe_callB call_len_seq rfl T.len PySem.boot_len (pa_cons (pv 0) pa_nil)) pa_nil)) (caps_of rfl rfl) (by decide +kernel) rfl (by decide +kernel)
          (fun _ _ _ _ _ => pg_name (i := 0) (show (["_law_number", "_law_rules_here", "_law_name"] : List Str).Nodup by decide +kernel) rfl (Or.inl rfl)) (fun _ _ _ _ _ => pif_one (pt_cmpR op_eq (pe_ix (ix_tupK K) (pe_ix (ix_listK K) (pv 1) (pv 0) (fun _ _ => rfl)) pe_int (fun _ _ => rfl)) (pv 2) (nomark _))) (fun _ _ _ _ _ => pv 0))
        (pss_cons (ps_set (i := 5) scTree.nd rfl (Or.inl rfl) (pe_ix ix_list (pv 4) pe_int (fun _ _ => rfl)))
        (pss_cons (ps_cutS (ps_if (pt_cmpR (op_ne_nil hu) (pv 3) (pe_lst pa_nil) (nomark _)) (pss_one (ps_set (i := 5) scTree.nd rfl (Or.inl rfl) (pe_ix ix_list (pv 4) (pe_op op_mod (pe_bm0 PySem.F.plainAttrs_list PySem.F.slot_list_pop PySem.F.type_list_pop mt_pop (pv 3)) (pe_callB call_len_seq rfl T.len PySem.boot_len (pa_cons (pv 4) pa_nil))) (fun _ _ => rfl)))) pss_nil))
        (pss_cons (ps_set (i := 6) scTree.nd rfl (Or.inl rfl) (pe_lst pa_nil))
        (pss_cons (ps_for PassesOwn.never rfl (pi_tup (pe_ix ix_tup (pe_ix ix_list (pv 0) (pv 5) (fun _ _ => rfl)) pe_int (fun _ _ => rfl))) (pg_name (i := 7) scTree.nd rfl (Or.inl rfl))
          (pss_one (ps_if (pt_cmpR (op_in_seqK K) (pv 7) (pv 1) rfl)
            (pss_one (ps_expr (pe_bm PySem.F.plainAttrs_list PySem.F.slot_list_append PySem.F.type_list_append mt_append (pv 6) (pa_cons (pe_fn G hr rfl (pa_cons (pv 0) (pa_cons (pv 1) (pa_cons (pv 7) (pa_cons (pv 3) pa_nil))))) pa_nil))))
            (pss_one (ps_expr (pe_bm PySem.F.plainAttrs_list PySem.F.slot_list_append PySem.F.type_list_append mt_append (pv 6) (pa_cons (pv 7) pa_nil)))))))
        (pss_one (ps_ret (pe_tup (pa_cons (pv 5) (pa_cons (pe_callTy call_tuple_of rfl T.tup PyProof.Rows.boot_tuple (pa_cons (pv 6) pa_nil)) pa_nil))))))))), ?_⟩
      have ll := Paired.length hrl
      have li := (List.getElem?_eq_some_iff.mp hni).1
      obtain ⟨parts0, ru0, hp0⟩ := M.first i name hni
      have lr := (List.getElem?_eq_some_iff.mp ru0).1
      have hNd : N ≠ Dg := fun z => by
        rw [z, hDg] at hN
        have e : dg.map V.int = ns.map V.str := by injection hN with e; injection e
        have := congrArg (fun l => l[i]?) e
        simp only [List.getElem?_map, hni] at this
        cases h : dg[i]? <;> rw [h] at this <;> cases this
      have hRd : R ≠ Dg := fun z => by
        rw [z, hDg] at hR
        have e : dg.map V.int = rs.map V.ref := by injection hR with e; injection e
        have := congrArg (fun l => l[i]?) e
        simp only [List.getElem?_map, List.getElem?_eq_getElem (show i < rs.length by omega)] at this
        cases h : dg[i]? <;> rw [h] at this <;> cases this
      have e0 : (rules[i]?.map (·.1)) = some name := by rw [ru0]; rfl
      have eb : ∀ j, j < i → (rules[j]?.map (·.1)) ≠ some name := fun j hj c => by
        obtain ⟨n', en'⟩ : ∃ n', ns[j]? = some n' := ⟨ns[j]'(by omega), List.getElem?_eq_getElem (by omega)⟩
        obtain ⟨p', ep', _⟩ := M.first j n' en'
        rw [ep'] at c
        cases c
        have := (List.getElem?_inj (by omega) hnd).mp (en'.trans hni.symm)
        omega
      have kf := ks_first (n := rs.length) (by omega) e0 eb
      refine ⟨_, rfl, R, _, rfl, .inl (SqL.of hR), _, rfl, by rw [List.length_map]; omega, by rw [List.length_map]; omega, fun D1 hD1 => ?_⟩
      rw [List.length_map, Int.toNat_natCast]
      refine compG_range (fun j ys σ2 H2 => ys = (ksOf rules name j).map (fun k : Nat => V.int (k : Int)) ∧ (∃ y0, σ2 = [y0, some (.ref R), some (.str name)]) ∧ Same H H2 ∧ H2 D1 = some (.lst ys)) ⟨rfl, ⟨none, rfl⟩, same_laid hD1 _, upd_same⟩ (fun j ys σ2 H2 hj h => ?_) (fun ys σ2 H2 h => ?_)
      · obtain ⟨rfl, ⟨y0, rfl⟩, sm, eD⟩ := h
        obtain ⟨ru, eru⟩ : ∃ ru, rules[j]? = some ru := ⟨rules[j]'(by omega), List.getElem?_eq_getElem (by omega)⟩
        obtain ⟨a, ea, t, ha, ht⟩ := Paired.at_ hrl j ru eru
        have atj : atI (rs.map V.ref) (0 + (j : Int)) = some (.ref a) := by
          rw [Int.zero_add]
          exact atI_nat (by rw [List.getElem?_map, ea]; rfl)
        have ks1 : ksOf rules name (j + 1) = ksOf rules name j ++ (if ru.1 = name then [j] else []) := by
          unfold ksOf
          rw [List.range_succ, List.filter_append, List.filter_cons, List.filter_nil, eru]
          congr 1
          by_cases c : ru.1 = name <;> simp [c]
        have kl : (ksOf rules name j).length ≤ j := by
          unfold ksOf
          exact Nat.le_trans (List.length_filter_le _ _) (by rw [List.length_range]; exact Nat.le_refl _)
        refine goN ?_
        refine ⟨_, rfl, _, rfl, R, _, _, _, rfl, rfl, SqL.of (sm _ _ hR), atj, a, _, _, _, rfl, rfl, sm.tup ha, rfl, _, rfl, rfl, _, rfl, ?_⟩
        refine ite2 (fun cc => ?_) (fun cc => ?_)
        · have c' : ru.1 = name := by simpa using cc
          rw [ks1, if_pos c', List.map_append]
          refine ⟨_, rfl, eD, fits' (by rw [List.length_map]; omega), ?_, ⟨_, rfl⟩, ?_, upd_same⟩
          · rw [Int.zero_add]; rfl
          · intro b o hb
            rw [upd_ne (fun z => by rw [z, hD1] at hb; cases hb)]
            exact sm b o hb
        · have c' : ¬ ru.1 = name := by simpa using cc
          rw [ks1, if_neg c', List.append_nil]
          exact ⟨rfl, ⟨_, rfl⟩, sm, eD⟩
      · obtain ⟨rfl, _, sm, eD⟩ := h
        refine goN ?_
        have at0 : atI ((ksOf rules name rs.length).map (fun k : Nat => V.int (k : Int))) 0 = some (.int (i : Int)) := atI_nat (j := 0) (by rw [List.getElem?_map, kf]; rfl)
        refine ⟨_, rfl, D1, _, _, _, rfl, rfl, SqL.of eD, at0, ?_⟩
        refine goN ?_
        have eDg2 := sm _ _ hDg
        have nD1 : D1 ≠ Dg := fun z => by rw [z, hDg] at hD1; cases hD1
        refine ⟨fun σ H5 => ∃ (k : Nat) (parts : List Str) (dgc : List Int), σ = [some (.ref R), some (.ref N), some (.str name), some (.ref Dg), some (.ref D1), some (.int (k : Int)), none, none] ∧ SameD Dg H H5 ∧ H5 Dg = some (.lst (dgc.map V.int)) ∧ rules[k]? = some (name, parts) ∧ ((dg = [] ∧ dgc = [] ∧ ∀ x ∈ parts, x ∈ ws ∨ ns[i + 1]? = some x) ∨ dgc.length + 1 = dg.length), ?_, ?_⟩
        · refine ⟨_, rfl, (by show 0 ≤ sizeLine; decide), fun L0 hL0 => ⟨Dg, L0, _, rfl, rfl, SqL.of (same_laid hL0 _ _ _ eDg2), SqL.of upd_same, _, rfl, ?_⟩⟩
          have s3 := sm.trans (same_laid hL0 (.lst []))
          have eD3 := same_laid hL0 (.lst []) _ _ eD
          have eDg3 := same_laid hL0 (.lst []) _ _ eDg2
          generalize upd H2 L0 (.lst []) = H3 at s3 eD3 eDg3
          refine ite2 (fun cc => ?_) (fun cc => ?_)
          · have hne : dg ≠ [] := fun z => by rw [z] at cc; simp at cc
            have hpos : 0 < dg.length := List.length_pos_iff.mpr hne
            have el : (dg.map V.int)[(dg.map V.int).length - 1]? = some (.int (dg[dg.length - 1]'(by omega))) := by
              rw [List.length_map, List.getElem?_map, List.getElem?_eq_getElem (show dg.length - 1 < dg.length by omega)]; rfl
            have kpos : (0 : Int) < ((ksOf rules name rs.length).length : Int) := by
              have := (List.getElem?_eq_some_iff.mp kf).1
              omega
            obtain ⟨z, hzm, hza⟩ := atMK (zs := ksOf rules name rs.length) rfl kpos (dg[dg.length - 1]'(by omega))
            obtain ⟨parts, erz⟩ := ks_mem hzm
            have eD4 : upd H3 Dg (.lst (dg.map V.int).dropLast) D1 = some (.lst ((ksOf rules name rs.length).map (fun k : Nat => V.int (k : Int)))) := by rw [upd_ne nD1]; exact eD3
            refine ⟨_, rfl, _, rfl, .inl ⟨rfl, _, SqL.of eDg3⟩, Dg, _, _, rfl, rfl, eDg3, el, _, rfl, D1, _, rfl, .inl (SqL.of eD4), _, _, rfl, rfl, ?_⟩
            rw [List.length_map]
            refine ⟨kpos, D1, _, _, _, rfl, rfl, SqL.of eD4, hza, ?_⟩
            refine ⟨z, parts, dg.dropLast, rfl, fun b o nb hb => by rw [upd_ne nb]; exact s3 b o hb, by rw [upd_same, List.map_dropLast], erz, .inr (by rw [List.length_dropLast]; omega)⟩
          · have hnil : dg = [] := by
              cases dg with
              | nil => rfl
              | cons a r => exact absurd rfl cc
            exact ⟨i, parts0, [], rfl, SameD.of s3, by rw [eDg3, hnil], ru0, .inl ⟨hnil, rfl, hp0⟩⟩
        · rintro σ H5 ⟨k, parts, dgc, rfl, sd, eDg, erk, hcase⟩
          have hpl : parts.length ≤ 8 := (M.all _ (List.mem_of_getElem? erk)).2.2
          have hpm : ∀ x ∈ parts, x ∈ ns ∨ x ∈ ws := (M.all _ (List.mem_of_getElem? erk)).2.1
          refine ⟨(by show 0 ≤ sizeLine; decide), fun L hL => ?_⟩
          have nL : L ≠ Dg := fun z => by rw [z, eDg] at hL; cases hL
          have sd1 := sd.trans (SameD.of (same_laid hL (.lst [])))
          have eDg1 := same_laid hL (.lst []) _ _ eDg
          have eL1 : upd H5 L (.lst []) L = some (.lst []) := upd_same
          have fL0 : H L = none := by
            cases h : H L with
            | none => rfl
            | some o => exact absurd (sd L o nL h) (by rw [hL]; exact fun z => by cases z)
          generalize upd H5 L (.lst []) = H6 at sd1 eDg1 eL1
          obtain ⟨a, ea, p, ha, hp⟩ := Paired.at_ hrl k _ erk
          have atk : atI (rs.map V.ref) (k : Int) = some (.ref a) := atI_nat (by rw [List.getElem?_map, ea]; rfl)
          have hcl : dgc.length ≤ dg.length := by rcases hcase with ⟨_, h, _⟩ | h <;> simp_all <;> omega
          refine ⟨_, rfl, _, rfl, R, _, _, _, rfl, rfl, SqL.of (sd1 _ _ hRd hR), atk, a, _, _, _, rfl, rfl, sd1.tup hDg ha, rfl, p, rfl, ⟨_, sd1.tup hDg hp⟩, for_tup (xs := parts.map V.str) (fun j σ H7 => ∃ (vs : List V) (ts : List Tr) (dg' : List Int) (y : Option V), σ = [some (.ref R), some (.ref N), some (.str name), some (.ref Dg), some (.ref D1), some (.int (k : Int)), some (.ref L), y] ∧ SameD Dg H H7 ∧ H7 Dg = some (.lst (dg'.map V.int)) ∧ dg'.length ≤ dgc.length ∧ H7 L = some (.lst vs) ∧ Paired (fun v t => TrV K H7 t v) vs ts ∧ Paired (fun t p => Is rules t p) ts (parts.take j) ∧ (∀ t ∈ ts, dp t + 1 ≤ 4 * dg.length + (ns.length - i)) ∧ (ts.map sz).sum ≤ 1000 * (j + 8 * (dgc.length - dg'.length)) ∧ (dg = [] → (ts.map sz).sum ≤ j * gB (ns.length - (i + 1)))) ⟨[], [], dgc, none, rfl, sd1, eDg1, Nat.le_refl _, eL1, .nil, .nil, by simp, by simp, by simp⟩ ?_ ?_ ?_⟩
          · rintro j σ H7 _ ⟨_, _, _, _, _, sd7, _⟩
            exact sd7.tup hDg hp
          · rintro j x σ H7 ex ⟨vs, ts, dg', y, rfl, sd7, eDg7, hle, eL7, pv7, pi7, hdp, hsz, hgb⟩
            have lj := (List.getElem?_eq_some_iff.mp ex).1
            rw [List.length_map] at lj
            rw [List.getElem?_map] at ex
            obtain ⟨pt, ept, rfl⟩ := Option.map_eq_some_iff.mp ex
            have lts := Paired.length pv7
            have lpi := Paired.length pi7
            rw [List.length_take] at lpi
            have tk : parts.take (j + 1) = parts.take j ++ [pt] := by rw [List.take_add_one, ept]; rfl
            refine ⟨_, rfl, _, rfl, N, _, rfl, .inl (SqL.of (sd7 _ _ hNd hN)), rfl, flat_strs ns, _, rfl, ?_⟩
            refine ite2 (fun cc => ?_) (fun cc => ?_)
            · have hin : pt ∈ ns := (inV_str pt ns).mp cc
              obtain ⟨i', hi', hme, hA⟩ : ∃ i', ns[i']? = some pt ∧ 4 * dg'.length + (ns.length - i') + 1 ≤ 4 * dg.length + (ns.length - i) ∧ (dg = [] → i' = i + 1) := by
                rcases hcase with ⟨h1, h2, h3⟩ | h
                · have h4 := (h3 pt (List.mem_of_getElem? ept)).resolve_left (hdj pt hin)
                  have l4 := (List.getElem?_eq_some_iff.mp h4).1
                  have : dgc.length = 0 := by rw [h2]; rfl
                  exact ⟨i + 1, h4, by omega, fun _ => rfl⟩
                · obtain ⟨i', li', e'⟩ := List.getElem_of_mem hin
                  exact ⟨i', by rw [List.getElem?_eq_getElem li', e'], by omega, fun z => by rw [z] at h; cases h⟩
              refine ⟨_, rfl, .inl ⟨rfl, _, SqL.of eL7⟩, _, rfl, _, rfl, _, rfl, _, rfl, R, N, Dg, rs, rules, ns, ws, i', pt, dg', rfl, sd7 _ _ hRd hR, hrl.keep fun a xs z => sd7.tup hDg z, hlen, sd7 _ _ hNd hN, M, hnd, hn3, hdj, hi', eDg7, by omega, by omega, fun v t dg2 H8 sd8 eDg8 le8 tv8 is8 dp8 sz8 gb8 => ?_⟩
              have eL8 := sd8 _ _ nL eL7
              refine ⟨L, _, _, rfl, rfl, eL8, fits' (by omega), ?_⟩
              refine ⟨vs ++ [v], ts ++ [t], dg2, _, rfl, fun b o nb hb => ?_, by rw [upd_ne nL.symm]; exact eDg8, by omega, upd_same, Paired.snoc (Paired.mapP pv7 fun v t z => TrV.keep (fun a xs z => sqt_upd eL8 (sd8.tup eDg7 z)) t z) (TrV.keep (fun a xs z => sqt_upd eL8 z) t tv8), by rw [tk]; exact Paired.snoc pi7 is8, fun t' ht' => ?_, ?_, fun z => ?_⟩
              · rw [upd_ne (fun z => by rw [z, fL0] at hb; cases hb)]; exact sd8 _ _ nb (sd7 b o nb hb)
              · rcases List.mem_append.mp ht' with h | h
                · exact hdp t' h
                · rw [List.mem_singleton.mp h]; omega
              · rw [List.map_append, List.sum_append]
                simp
                omega
              · have h0 : dg' = [] := by
                  have : dg.length = 0 := by rw [z]; rfl
                  exact List.length_eq_zero_iff.mp (by omega)
                have h1 := gb8 h0
                have h2 := hgb z
                rw [hA z] at h1
                rw [List.map_append, List.sum_append, Nat.succ_mul]
                simp
                omega
            · have hnin : pt ∉ ns := fun z => cc ((inV_str pt ns).mpr z)
              refine ⟨_, rfl, .inl ⟨rfl, _, SqL.of eL7⟩, _, rfl, L, _, _, rfl, rfl, eL7, fits' (by omega), ?_⟩
              refine ⟨vs ++ [.str pt], ts ++ [.w pt], dg', _, rfl, fun b o nb hb => ?_, by rw [upd_ne nL.symm]; exact eDg7, hle, upd_same, Paired.snoc (Paired.mapP pv7 fun v t z => TrV.keep (fun a xs z => sqt_upd eL7 z) t z) (by unfold TrV; rfl), by rw [tk]; exact Paired.snoc pi7 (by unfold Is; exact ⟨rfl, fun z => hnin (hd_in M z)⟩), fun t' ht' => ?_, ?_, fun z => ?_⟩
              · rw [upd_ne (fun z => by rw [z, fL0] at hb; cases hb)]; exact sd7 b o nb hb
              · rcases List.mem_append.mp ht' with h | h
                · exact hdp t' h
                · rw [List.mem_singleton.mp h]; unfold dp; omega
              · rw [List.map_append, List.sum_append]
                simp [sz]
                omega
              · have h2 := hgb z
                have h3 := gB_pos (ns.length - (i + 1))
                rw [List.map_append, List.sum_append, Nat.succ_mul]
                simp [sz]
                omega
          · rintro σ H7 ⟨vs, ts, dg', y, rfl, sd7, eDg7, hle, eL7, pv7, pi7, hdp, hsz, hgb⟩
            rw [List.length_map] at pi7 hsz hgb
            rw [List.take_length] at pi7
            refine ⟨_, rfl, _, rfl, L, _, rfl, .inl ⟨SqL.of eL7, fun t1 ht1 => ⟨(by show 2 ≤ sizeLine; decide), fun T0 hT0 => ?_⟩⟩⟩
            have kR := (same_laid ht1 (.tup vs)).trans (same_laid hT0 (.tup [.int (k : Int), .ref t1]))
            have v1 : SqT K (upd (upd H7 t1 (.tup vs)) T0 (.tup [.int (k : Int), .ref t1])) T0 [.int (k : Int), .ref t1] := SqT.of upd_same
            have v2 : SqT K (upd (upd H7 t1 (.tup vs)) T0 (.tup [.int (k : Int), .ref t1])) t1 vs := (same_laid hT0 _).tup (SqT.of upd_same)
            have g1 : ns.length - i = (ns.length - (i + 1)) + 1 := by omega
            have g2 : gB (ns.length - i) = 1 + 8 * gB (ns.length - (i + 1)) := by rw [g1]; rfl
            have g3 : gB (ns.length - (i + 1)) ≤ 73 := gB_le (by omega)
            have g4 : dg = [] → (ts.map sz).sum ≤ 8 * gB (ns.length - (i + 1)) := fun z => Nat.le_trans (hgb z) (Nat.mul_le_mul_right _ hpl)
            have g5 : sz (.n (k : Int) (Trs.ofL ts)) = 1 + (ts.map sz).sum := by unfold sz; rw [szs_toL, toL_ofL]
            refine q (.ref T0) (.n (k : Int) (Trs.ofL ts)) dg' _ (sd7.trans (SameD.of kR)) (kR _ _ eDg7) (by omega) ?_ ?_ ?_ ?_ ?_
            · unfold TrV
              exact ⟨T0, t1, vs, rfl, v1, v2, ofL_trsV (Paired.mapP pv7 fun v t z => TrV.keep (fun a xs z => kR.tup z) t z)⟩
            · unfold Is
              exact ⟨parts, by rw [ruAt_nat]; exact erk, ofL_iss pi7⟩
            · have := ofL_dps (b := 4 * dg.length + (ns.length - i) - 1) ts fun t ht => by have := hdp t ht; omega
              unfold dp
              omega
            · rw [g5]
              rcases hcase with ⟨h1, h2, _⟩ | h
              · have := g4 h1
                omega
              · omega
            · intro z
              have := g4 z
              rw [g5, g2]
              omega
end
end K11

set_option Elab.async false
set_option linter.all false
set_option maxRecDepth 100000
set_option maxHeartbeats 4000000
namespace L2
open PySem PySem.Spec PyProof.Rows
section
variable {prog : Program} {w : World} {A : Around} {E : Value → Shared → Prop} {s : Shared}
theorem owned_zipT {elts : List Expr} {x1} {pos : Pos} {z TI TO T : Addr} {f0 f1 : Value} {Q : Unit → Shared → Prop} (hz : IsZip2 s.heap z f0 f1 TI TO) (hf : f0 = .none ∨ ∃ T : Nat, f0 = rawInt T)
    (hQ : ∀ h' f0', IsZip2 h' z f0' f1 TI TO → (f0' = .none ∨ ∃ T : Nat, f0' = rawInt T) → Heap.SameBut z s.heap h' → Q () { s with heap := h' }) :
    wpAny (model prog w) A (letOwnedTupleGo (.Tuple elts x1 pos) (.ref z) (.ref T)) Q E s := by
  unfold letOwnedTupleGo
  refine wpAny_bind (wpAny_load hz ?_)
  show wpAny _ _ (if (["enumerate", "zip", "dict_itemiterator", "dict_reverseitemiterator", "odict_iterator", "itertools.zip_longest", "itertools.pairwise"].contains "zip" &&
      (#[f0, f1, .bool false, .ref TI, .ref TO] : Array Value)[0]? == some (rawInt T)) = true then _ else _) Q E s
  split
  rotate_left
  · exact wpAny_pure (hQ s.heap f0 hz hf ⟨rfl, fun _ _ => rfl⟩)
  refine wpAny_bind (wpAny_rule ?_)
  show wpAny _ _ (setField (.ref z) 0 .none) Q E s
  exact wpAny_setField_rec hz (by simp) fun h' hz' hs' => hQ h' .none hz' (.inl rfl) hs'
end
theorem Inv.turnedL {X : Cx} {pins : List (Addr × Obj)} {σ : St} {H : Hp} {s : Shared} {h' : Heap} {t' : Nat} {fp : List Addr} (I : Inv X pins σ H s) (hf : ∀ b ∈ fp, FpOk X pins H b) (k : ∀ b o, b ∉ fp → s.heap.get? b = some o → h'.get? b = some o) : Inv X pins σ H { s with heap := h', toks := t' } := by
  have tr : ∀ b v, H b = some v → b ∉ fp := fun b v q hb => by rw [(hf b hb).1] at q; cases q
  refine I.call (g' := s.gens) (t' := t') (d' := s.drawn) (ch := fp) ⟨fun b o q _ _ c => k b o c q, fun b o q _ _ c => ⟨o.slots, k b o c q⟩, fun b o q n _ => n, fun b o q c => ⟨o, k b o c q⟩, fun b ys q => q, fun b o v q => q, fun b ps q => ⟨#[], by rw [q]; simp⟩⟩ (fun b v q => ?_) I.bare (fun b hb => ?_)
  · refine (I.hok b v q).stay (fun c o hc' z => ?_) (fun c q' => q') fun c ys q' => q'
    rcases hc' with rfl | hc'
    · exact k c o (tr c _ q) z
    · exact k c o (tr c _ hc') z
  · have f := hf b hb
    exact ⟨f.2.2.2.1, f.2.1, f.2.2.2.2.1, f.2.2.2.2.2⟩
theorem Inv.turnedT {X : Cx} {pins : List (Addr × Obj)} {σ : St} {H : Hp} {s : Shared} {h' : Heap} {t' : Nat} {fp : List Addr} {x y : V} {u v : Value} (I : Inv X pins σ H s) (hf : ∀ b ∈ fp, FpOk X pins H b) (k : ∀ b o, b ∉ fp → s.heap.get? b = some o → h'.get? b = some o)
    (T2 : IsPair h' s.heap.objs.size u v) (ru : RelV x u) (rv : RelV y v) : Inv X pins σ (upd H s.heap.objs.size (.tup [x, y])) { s with heap := h', toks := t' } := by
  have fT : H s.heap.objs.size = none := I.hok.fresh (Nat.le_refl _)
  have tr : ∀ b v, H b = some v → b ∉ fp := fun b v q hb => by rw [(hf b hb).1] at q; cases q
  have lt : ∀ b o, s.heap.get? b = some o → b ≠ s.heap.objs.size := fun b o q => Nat.ne_of_lt (Heap.lt_size q)
  refine I.call (g' := s.gens) (t' := t') (d' := s.drawn) (ch := fp) ⟨fun b o q _ _ c => k b o c q, fun b o q _ _ c => ⟨o.slots, k b o c q⟩,
    fun b o q n _ => by rw [upd_ne (lt b o q)]; exact n, fun b o q c => ⟨o, k b o c q⟩, fun b ys q => by rw [upd_ne (ne_of_none q fT)]; exact q, fun b o v q => by rw [upd_ne (ne_of_none q fT)]; exact q,
    fun b ps q => ⟨#[], by rw [upd_ne (ne_of_none q fT), q]; simp⟩⟩ (fun b w q => ?_) I.bare (fun b hb => ?_)
  · by_cases hb : b = s.heap.objs.size
    · subst hb
      rw [upd_same] at q
      cases q
      exact ⟨by show 2 ≤ sizeLine; decide, [u, v], .cons ru (.cons rv .nil), _, T2, rfl, _, rfl⟩
    · rw [upd_ne hb] at q
      refine (I.hok b w q).stay (fun c o hc' z => ?_) (fun c q' => by rw [upd_ne (ne_of_none q' fT)]; exact q') fun c ys q' => by rw [upd_ne (ne_of_none q' fT)]; exact q'
      rcases hc' with rfl | hc'
      · exact k c o (tr c _ q) z
      · exact k c o (tr c _ hc') z
  · have f := hf b hb
    exact ⟨f.2.2.2.1, f.2.1, f.2.2.2.2.1, f.2.2.2.2.2⟩
def Itz (K : PySem.W.Frag) (a b : Addr) : It :=
  ⟨fun i H => ∃ xs ys x y, SqT K H a xs ∧ SqT K H b ys ∧ xs[i]? = some x ∧ ys[i]? = some y, fun i H x H' => ∃ t y1 y2, x = .ref t ∧ H t = none ∧ H' = upd H t (.tup [y1, y2]) ∧ (∀ xs, SqT K H a xs → xs[i]? = some y1) ∧ ∀ ys, SqT K H b ys → ys[i]? = some y2, fun i H => ∃ xs, SqT K H a xs ∧ xs.length ≤ i⟩
structure ZTn (h : Heap) (z TI TO i1 i2 l1 l2 : Addr) (i : Nat) : Prop where
  hz : ∃ f0 f1, IsZip2 h z f0 f1 TI TO ∧ (f0 = .none ∨ ∃ T : Nat, f0 = rawInt T)
  hI : IsPair h TI (.ref i1) (.ref i2)
  hO : ∃ a b, IsPair h TO a b
  h1 : h.IsTupleIter i1 l1 i
  h2 : h.IsTupleIter i2 l2 i
theorem turn_zip {P : Program} {w : World} {K : PySem.W.Frag} {elts : List Expr} {k : Nat} {tpos : Pos} (l1 l2 z TI TO i1 i2 : Addr) (ap : ZipApart z TI TO i1 i2 l1 l2) :
    Turn P w K (.Tuple elts k tpos) (Itz K l1 l2) [z, TI, TO, i1, i2] z (fun i h => ZTn h z TI TO i1 i2 l1 l2 i) where
  mem := by simp
  obj := fun i h st b hb => by
    obtain ⟨⟨f0, f1, hz, _⟩, hI, ⟨a, c, hO⟩, ⟨o1, e1, c1, d1⟩, ⟨o2, e2, c2, d2⟩⟩ := st
    simp only [List.mem_cons, List.not_mem_nil, or_false] at hb
    rcases hb with rfl | rfl | rfl | rfl | rfl
    · exact ⟨_, hz, fun v z => by cases z⟩
    · exact ⟨_, hI, fun v z => by cases z⟩
    · exact ⟨_, hO, fun v z => by cases z⟩
    · exact ⟨o1, e1, fun v z => by rw [d1] at z; cases z⟩
    · exact ⟨o2, e2, fun v z => by rw [d2] at z; cases z⟩
  keep := fun i h h' st k => by
    obtain ⟨⟨f0, f1, hz, hf⟩, hI, ⟨a, c, hO⟩, h1, h2⟩ := st
    exact ⟨⟨f0, f1, k z (by simp) _ hz, hf⟩, k TI (by simp) _ hI, ⟨a, c, k TO (by simp) _ hO⟩, h1.at fun o q => k i1 (by simp) o q, h2.at fun o q => k i2 (by simp) o q⟩
  item := by
    intro X hP hw hK hc i pins s σ H E I hf st hg
    subst hP hw hK
    obtain ⟨xs, ys, x, y, hx, hy, ex, ey⟩ := hg
    obtain ⟨is1, rv1, p1, _⟩ := I.tuple hx
    obtain ⟨is2, rv2, p2, _⟩ := I.tuple hy
    obtain ⟨u, hu, ru⟩ := rv1.get ex
    obtain ⟨v, hv, rv⟩ := rv2.get ey
    obtain ⟨⟨f0, f1, hz, hff⟩, hI, ⟨a, c, hO⟩, h1, h2⟩ := st
    refine zipT_item ap hz hI hO h1 h2 p1 p2 (x := u) (y := v) (by simpa using hu) (by simpa using hv) hff fun h' f0' f1' a' b' hz' hff' hO' h1' h2' hT kk => ?_
    refine ⟨_, rfl, owned_zipT hz' hff' fun h3 f03 hz3 hff3 sb => ?_⟩
    have ltz : ∀ b o, s.heap.get? b = some o → b ≠ s.heap.objs.size := fun b o q => Nat.ne_of_lt (Heap.lt_size q)
    have nz : s.heap.objs.size ≠ z := (ltz z _ hz).symm
    have T2 : IsPair h3 s.heap.objs.size u v := (sb.2 _ nz).trans hT
    have k3 : ∀ b o, b ∉ [z, TI, TO, i1, i2] → s.heap.get? b = some o → h3.get? b = some o := fun b o nb q => by
      simp only [List.mem_cons, List.not_mem_nil, or_false, not_or] at nb
      exact (sb.2 b nb.1).trans (kk b o nb.1 nb.2.2.1 nb.2.2.2.1 nb.2.2.2.2 q)
    have kTI : h3.get? TI = s.heap.get? TI := (sb.2 TI ap.TIz).trans ((kk TI _ ap.TIz ap.TITO ap.TIi1 ap.TIi2 hI).trans hI.symm)
    have I2 : Inv X pins σ (upd H s.heap.objs.size (.tup [x, y])) { s with heap := h3, toks := s.toks } := Inv.turnedT I hf k3 T2 ru rv
    refine ⟨.ref s.heap.objs.size, _, I2, rfl, ⟨_, x, y, rfl, I.hok.fresh (Nat.le_refl _), rfl, fun zs hz => by rw [I.tuple_inj hz hx]; exact ex, fun zs hz => by rw [I.tuple_inj hz hy]; exact ey⟩, ⟨⟨_, _, hz3, hff3⟩, kTI.trans hI, ⟨a', b', (sb.2 TO ap.TOz).trans hO'⟩, h1'.at fun o q => (sb.2 i1 ap.i1z).trans q, h2'.at fun o q => (sb.2 i2 ap.i2z).trans q⟩, fun b hb => ?_⟩
    have hb' : ∃ o, s.heap.get? b = some o := by
      obtain ⟨o1, e1, _⟩ := h1
      obtain ⟨o2, e2, _⟩ := h2
      simp only [List.mem_cons, List.not_mem_nil, or_false] at hb
      rcases hb with rfl | rfl | rfl | rfl | rfl
      · exact ⟨_, hz⟩
      · exact ⟨_, hI⟩
      · exact ⟨_, hO⟩
      · exact ⟨_, e1⟩
      · exact ⟨_, e2⟩
    obtain ⟨o, q⟩ := hb'
    rw [upd_ne (ltz b o q)]
    exact (hf b hb).1
  done := by
    intro X hP hw hK hc i pins s σ H E I hf st hg
    subst hP hw hK
    obtain ⟨xs, hx, hl⟩ := hg
    obtain ⟨is1, rv1, p1, _⟩ := I.tuple hx
    have ll := rv1.length
    obtain ⟨⟨f0, f1, hz, hff⟩, hI, ⟨a, c, hO⟩, h1, h2⟩ := st
    refine zipT_end (I.ok.hd hc) ap hz hI h1 p1 (by simp; omega) hff fun h' kk => ⟨rfl, Inv.turnedL (t' := s.toks) I hf fun b o nb q => ?_⟩
    simp only [List.mem_cons, List.not_mem_nil, or_false, not_or] at nb
    exact kk b o nb.1 nb.2.2.2.1 q
  self := fun _ _ _ _ _ st h => by
    obtain ⟨⟨f0, f1, hz, hff⟩, _⟩ := st
    have hT : Shared.TypeIs _ (.ref z) "zip" := ⟨_, hz, rfl⟩
    refine wpAny_pyIter_slot hT F.slot_zip_iter (wpAny_call_entry F.slot_zip_iter hT F.entry_zip_iter ?_ (F.args_zip_iter_1 _))
    show wpAny _ _ (ret (.ref z)) _ _ _
    exact wpAny_pure ⟨_, rfl, "zip", _, hT, F.slot_zip_next.lookup, h⟩
def iZip (K : PySem.W.Frag) (ta : TA) : TI := fun σ H R => ta σ H fun vs H1 => ∃ a b xs ys, vs = [.ref a, .ref b] ∧ SqT K H1 a xs ∧ SqT K H1 b ys ∧ R (Itz K a b) H1
theorem pi_zip {X : Cx} {elts : List Expr} {k : Nat} {tpos : Pos} {a b : Expr} {ta : TA} {p pos : Pos} (hg : Gl X "zip") (hm : X.mg "zip" = none) (ha : PA X [a, b] ta) (he : starEach [a, b] X.env = (false, eval a X.env) :: starEach [b] X.env := by rfl) (hpl : (backTo pos (starEach [b] X.env)).any (·.1) = false := by rfl) :
    PI X (.Tuple elts k tpos) (.Call (.Name "zip" p) [a, b] [] pos) (iZip X.K ta) := by
  intro pins s σ H R I h
  refine wpAny_Call_Name_kw (ld_blt I hg hm (by decide +kernel : bootBuiltins "zip" = some (.type "zip")) ?_ (by decide) (by decide))
  refine PyProof.Rows.callWith_type1 (thn (ha pos pins s σ H _ I h) fun us s1 ⟨vs, H1, I1, r1, q1⟩ => ?_) he hpl
  obtain ⟨l1, l2, xs, ys, rfl, hx, hy, q⟩ := q1
  obtain ⟨u1, u2, rfl, rx, ry⟩ := vals2 r1
  cases (show u1 = Value.ref l1 from rx)
  cases (show u2 = Value.ref l2 from ry)
  obtain ⟨i1, v1, t1, z1⟩ := I1.tuple hx
  obtain ⟨i2, v2, t2, z2⟩ := I1.tuple hy
  refine call_zipT t1 t2 ?_
  obtain ⟨o1, g1, _, _⟩ := id t1
  obtain ⟨o2, g2, _, _⟩ := id t2
  have ll1 := Heap.lt_size g1
  have ll2 := Heap.lt_size g2
  have ap := zipApart_new ll1 ll2
  have st := zT_st t1 t2
  have tz := turn_zip (P := X.prog) (w := X.w) (K := X.K) (elts := elts) (k := k) (tpos := tpos) l1 l2 _ _ _ _ _ ap
  have tn : ZTn (zT s1.heap l1 l2) (s1.heap.objs.size + 4) (s1.heap.objs.size + 2) (s1.heap.objs.size + 3) s1.heap.objs.size (s1.heap.objs.size + 1) l1 l2 0 := ⟨st.hz, st.hI, st.hO, st.h1, st.h2⟩
  refine tz.self X.A 0 { s1 with heap := zT s1.heap l1 l2 } _ _ tn ?_
  refine ⟨s1.heap.objs.size + 4, _, _, _, H1, rfl, I1.kept (t' := s1.toks) fun b o e => zT_old e, tz, tn, fun b hb => ?_, q⟩
  simp only [List.mem_cons, List.not_mem_nil, or_false] at hb
  rcases hb with rfl | rfl | rfl | rfl | rfl
  · exact I1.fpOk (Nat.le_add_right _ _) (I1.hok.fresh (Nat.le_add_right _ _))
  · exact I1.fpOk (Nat.le_add_right _ _) (I1.hok.fresh (Nat.le_add_right _ _))
  · exact I1.fpOk (Nat.le_add_right _ _) (I1.hok.fresh (Nat.le_add_right _ _))
  · exact I1.fpOk (Nat.le_refl _) (I1.hok.fresh (Nat.le_refl _))
  · exact I1.fpOk (Nat.le_add_right _ _) (I1.hok.fresh (Nat.le_add_right _ _))
theorem compG_zip {K : PySem.W.Frag} {a b D : Addr} {xs ys : List V} {g : TG} {tif : TT} {te : TE} {σ : St} {H : Hp} {R : Hp → Prop} {ts : List Str} {js : List (Nat × Str)} (hxy : xs.length = ys.length) (Pv : Nat → List V → St → Hp → Prop) (h0 : Pv 0 [] (capS ts js σ) (upd H D (.lst []))) (hl : ∀ i zs σ H, i ≤ xs.length → Pv i zs σ H → SqT K H a xs ∧ SqT K H b ys)
    (hs : ∀ i x y zs σ H t, xs[i]? = some x → ys[i]? = some y → Pv i zs σ H → H t = none → g (.ref t) σ (upd H t (.tup [x, y])) fun σ2 H2 => tif σ2 H2 fun b H3 => if b = true then te σ2 H3 fun y H4 => H4 D = some (.lst zs) ∧ zs.length < sizeLine ∧ Pv (i + 1) (zs ++ [y]) σ2 (upd H4 D (.lst (zs ++ [y]))) else Pv (i + 1) zs σ2 H3)
    (hd : ∀ zs σ H, Pv xs.length zs σ H → R H) :
    ∃ W : Nat → Nat → List V → St → Hp → Prop, (∃ m, W 0 m [] (capS ts js σ) (upd H D (.lst []))) ∧
  ∀ i m ys σ' H, W i m ys σ' H → ((Itz K a b).stop i H ∧ R H) ∨ ((Itz K a b).go i H ∧ ∃ m', m' < m ∧ ∀ x H', (Itz K a b).yld i H x H' → g x σ' H' fun σ2 H2 => tif σ2 H2 fun b H3 =>
    if b = true then te σ2 H3 fun y H4 => H4 D = some (.lst ys) ∧ ys.length < sizeLine ∧ W (i + 1) m' (ys ++ [y]) σ2 (upd H4 D (.lst (ys ++ [y]))) else W (i + 1) m' ys σ2 H3) := by
  refine ⟨fun i m zs σ H => m = xs.length - i ∧ i ≤ xs.length ∧ Pv i zs σ H, ⟨xs.length, by simp, Nat.zero_le _, h0⟩, ?_⟩
  rintro i m zs σ' H ⟨rfl, hi, p⟩
  have q := hl i zs σ' H hi p
  by_cases hlt : i < xs.length
  · refine .inr ⟨⟨xs, ys, xs[i], ys[i]'(by omega), q.1, q.2, by simp [hlt], by simp⟩, xs.length - (i + 1), by omega, fun x H' y => ?_⟩
    obtain ⟨t, y1, y2, rfl, ht, rfl, e1, e2⟩ := y
    have z := hs i y1 y2 zs σ' _ t (e1 xs q.1) (e2 ys q.2) p ht
    have h1 : (i + 1 ≤ xs.length) = True := eq_true hlt
    simp only [h1, true_and]
    exact z
  · have e : i = xs.length := by omega
    subst e
    exact .inl ⟨⟨xs, q.1, Nat.le_refl _⟩, hd zs σ' H p⟩
end L2

set_option Elab.async false
set_option linter.all false
set_option maxRecDepth 100000
set_option maxHeartbeats 4000000
namespace K11
open PySem L2 M11
noncomputable def isB (rules : List Rule) (t : Tr) (x : Str) : Bool := @decide (Is rules t x) (Classical.propDecidable _)
theorem isB_iff {rules : List Rule} {t : Tr} {x : Str} : isB rules t x = true ↔ Is rules t x := by
  unfold isB
  exact @decide_eq_true_iff _ (Classical.propDecidable _)
theorem isB_no {rules : List Rule} {t : Tr} {x : Str} (h : ¬ Is rules t x) : isB rules t x = false := by
  cases c : isB rules t x with
  | false => rfl
  | true => exact absurd (isB_iff.mp c) h
theorem sum_mem {t : Tr} : ∀ {l : List Tr}, t ∈ l → sz t ≤ (l.map sz).sum
  | x :: r, h => by
    rw [List.map_cons, List.sum_cons]
    rcases List.mem_cons.mp h with e | e
    · rw [e]; omega
    · have := sum_mem e
      omega
theorem len_sum : ∀ l : List Tr, l.length ≤ (l.map sz).sum
  | [] => Nat.le_refl _
  | x :: r => by
    have := sz_pos x
    have := len_sum r
    rw [List.map_cons, List.sum_cons, List.length_cons]
    omega
section
variable {P : Program} {w : World} {K : PySem.W.Frag} {mg : Str → Option Value} {base : Heap} {f : Addr} {fd : FuncData}
def spStands (K : PySem.W.Frag) (n : Nat) : Sp := fun vs H Q _ => ∃ (R N : Addr) (rs : List Addr) (rules : List Rule) (ns : List Str) (v : V) (t : Tr) (x : Str), vs = [.ref R, .ref N, v, .str x] ∧ H R = some (.lst (rs.map V.ref)) ∧ Rules K H rs rules ∧ rules.length ≤ 1000 ∧ H N = some (.lst (ns.map V.str)) ∧ (∀ z, z ∈ ns ↔ z ∈ hd rules) ∧
  TrV K H t v ∧ dp t < n ∧ sz t ≤ 1000000 ∧ ∀ H', Same H H' → Q (.bl (isB rules t x)) H'
abbrev NS : List Str := ["_law_rules_here", "_law_names", "_law_tree_here", "_law_part", "_law_head", "_law_parts"]
theorem scStands : FnScope NS ["_law_rules_here", "_law_names", "_law_tree_here", "_law_part"] (defScope sStands) := ⟨rfl, rfl, rfl, by decide +kernel, rfl, by decide +kernel, by decide +kernel⟩
theorem ok_stands (F : Fun K "_law_stands" "_law_stands" sStands f fd) (T : Txt mg) (hZ : mg "zip" = none) (b1 : Binds K fd ["_law_rules_here", "_law_names", "_law_tree_here", "_law_part"] []) (m1 : mg "_law_stands" = some (.ref f)) : ∀ n, FnOk P w K mg base CX0 n f fd ["_law_rules_here", "_law_names", "_law_tree_here", "_law_part"] (spStands K n)
  | 0 => ⟨fun vs H Q E ⟨_, _, _, _, _, _, _, _, e, _⟩ => by rw [e]; rfl, fun A outer s H args us vs Q E _ _ _ _ ⟨_, _, _, _, _, _, _, _, _, _, _, _, _, _, _, h, _⟩ => absurd h (Nat.not_lt_zero _)⟩
  | n + 1 => by
    have G : CalleeD P w K mg base n "_law_stands" ["_law_rules_here", "_law_names", "_law_tree_here", "_law_part"] (spStands K n) := ⟨f, fd, ok_stands F T hZ b1 m1 n, b1, F.kp, m1⟩
    refine F.ok scStands (fun vs H Q E h => ?_) (fun cdv A outer s H vs Q E hr h => ?_)
    · obtain ⟨_, _, _, _, _, _, _, _, rfl, _⟩ := h; rfl
    · obtain ⟨R, N, rs, rules, ns, v, t, x, rfl, hR, hrl, hlen, hN, hnh, ht, hdp, hsz, q⟩ := h
      refine ⟨_, pss_cons (ps_if (pt_cmpR op_notIn_seq (pv 3) (pv 1) rfl) (pss_one (ps_ret (pe_and (pe_callB call_isinst rfl T.isi PyProof.Rows.boot_isinstance (pa_cons (pv 2) (pa_cons (pe_bltn (v := .ty "str") rfl T.str boot_txt rfl) pa_nil))) (pe_one (pe_cmpR op_eq (pv 2) (pv 3) (nomark _)))))) pss_nil)
        (pss_cons (ps_if (PW.pt (pw_or (pt_val (pe_callB call_isinst rfl T.isi PyProof.Rows.boot_isinstance (pa_cons (pv 2) (pa_cons (pe_bltn (v := .ty "str") rfl T.str boot_txt rfl) pa_nil)))) (pw_or1 (pt_not (pt_chain op_le op_lt pe_int (pe_ix ix_tup (pv 2) pe_int (fun _ _ => rfl)) (pe_callB call_len_seq rfl T.len PySem.boot_len (pa_cons (pv 0) pa_nil))))))) (pss_one (ps_ret pe_bl)) pss_nil)
        (pss_cons (ps_asg (pe_ix ix_list (pv 0) (pe_ix ix_tup (pv 2) pe_int (fun _ _ => rfl)) (fun _ _ => rfl)) (pg_tup rfl (pgs_cons (pg_name (i := 4) scStands.nd rfl (Or.inl rfl)) (pgs_cons (pg_name (i := 5) scStands.nd rfl (Or.inl rfl)) pgs_nil))))
        (pss_cons (ps_if (PW.pt (pw_or (pt_cmpR op_ne (pv 4) (pv 3) (nomark _)) (pw_or1 (pt_cmpR op_ne (pe_callB call_len_seq rfl T.len PySem.boot_len (pa_cons (pv 5) pa_nil)) (pe_callB call_len_seq rfl T.len PySem.boot_len (pa_cons (pe_ix ix_tup (pv 2) pe_int (fun _ _ => rfl)) pa_nil)) (nomark _))))) (pss_one (ps_ret pe_bl)) pss_nil)
        (pss_one (ps_ret (pe_callB (call_allB rfl) rfl T.all boot_all (pa_cons (pe_compG ["_law_child", "_law_one"] [(0, "_law_rules_here"), (1, "_law_names")] rfl (pi_zip rfl hZ (pa_cons (pe_ix ix_tup (pv 2) pe_int (fun _ _ => rfl)) (pa_cons (pv 5) pa_nil))) (caps_of rfl rfl) (by decide +kernel) rfl (by decide +kernel)
          (fun _ _ _ _ _ => pg_tupK (n := 2) K rfl (pgs_cons (pg_name (i := 0) (show (["_law_child", "_law_one", "_law_rules_here", "_law_names"] : List Str).Nodup by decide +kernel) rfl (Or.inl rfl)) (pgs_cons (pg_name (i := 1) (show (["_law_child", "_law_one", "_law_rules_here", "_law_names"] : List Str).Nodup by decide +kernel) rfl (Or.inl rfl)) pgs_nil))) (fun _ _ _ _ _ => pif_nil)
          (fun _ _ _ _ _ => pe_fn G hr rfl (pa_cons (pv 2) (pa_cons (pv 3) (pa_cons (pv 0) (pa_cons (pv 1) pa_nil)))))) pa_nil))))))), ?_⟩
      refine ⟨_, rfl, _, rfl, N, _, rfl, .inl (SqL.of hN), rfl, flat_strs ns, _, rfl, ?_⟩
      refine ite2 (fun cc => ?_) (fun cc => ?_)
      · have hx : x ∉ hd rules := fun z => by
          have cc' : (!inV (.str x) (ns.map V.str)) = true := cc
          rw [(inV_str x ns).mpr ((hnh x).mpr z)] at cc'
          exact absurd cc' (by decide)
        cases t with
        | w z =>
          unfold TrV at ht
          subst ht
          refine ⟨_, rfl, .str z, "str", "str", true, rfl, .str z, kit_self, true, rfl, ?_⟩
          refine iteT ?_
          refine ⟨_, rfl, _, rfl, rfl, ?_⟩
          have e : decide (V.str z = V.str x) = isB rules (.w z) x := by
            by_cases c : z = x
            · have : Is rules (.w z) x := by unfold Is; exact ⟨c.symm, c ▸ hx⟩
              rw [isB_iff.mpr this]
              simp [c]
            · rw [isB_no (fun h => by unfold Is at h; exact c h.1.symm)]
              simp [c]
          rw [e]
          exact q H fun _ _ h => h
        | n k cs =>
          unfold TrV at ht
          obtain ⟨a, p, vs, rfl, ha, hp, hcs⟩ := ht
          refine ⟨_, rfl, .ref a, "tuple", "str", false, rfl, .tup ha, kit_st, false, rfl, ?_⟩
          refine iteF ?_
          rw [isB_no (fun h => by
            unfold Is at h
            obtain ⟨parts, e, _⟩ := h
            obtain ⟨jj, _, e2⟩ := ruAt_some e
            exact hx (hd_mem.mpr ⟨_, List.mem_of_getElem? e2, rfl⟩))] at q
          exact q H fun _ _ h => h
      have hx : x ∈ hd rules := by
        have : inV (.str x) (ns.map V.str) = true := by
          cases h : inV (.str x) (ns.map V.str) with
          | true => rfl
          | false => exact absurd (by show (!inV (.str x) (ns.map V.str)) = true; rw [h]; rfl) cc
        exact (hnh x).mp ((inV_str x ns).mp this)
      cases t with
      | w z =>
        unfold TrV at ht
        subst ht
        refine ⟨_, rfl, .str z, "str", "str", true, rfl, .str z, kit_self, true, rfl, ?_⟩
        refine iteT ?_
        rw [isB_no (fun h => by unfold Is at h; exact h.2 (h.1 ▸ hx))] at q
        exact q H fun _ _ h => h
      | n k cs =>
        unfold TrV at ht
        obtain ⟨a, p, vs, rfl, ha, hp, hcs⟩ := ht
        have ll := Paired.length hrl
        refine ⟨_, rfl, .ref a, "tuple", "str", false, rfl, .tup ha, kit_st, false, rfl, ?_⟩
        refine iteF ?_
        refine ⟨_, rfl, a, _, _, _, rfl, rfl, ha, rfl, _, _, rfl, rfl, _, rfl, ?_⟩
        cases hk : ruAt rules k with
        | none =>
          have hn := ruAt_none hk
          rw [isB_no (fun h => by
            unfold Is at h
            obtain ⟨parts, e, _⟩ := h
            rw [hk] at e; cases e)] at q
          refine ite2 (fun c => ?_) (fun c => ?_)
          · have c' : 0 ≤ k := of_decide_eq_true c
            refine ⟨_, rfl, R, _, rfl, .inl (SqL.of hR), _, _, rfl, rfl, _, rfl, ?_⟩
            refine ite2 (fun _ => q H fun _ _ h => h) (fun c2 => ?_)
            exfalso
            apply c2
            rw [List.length_map, ll, decide_eq_false (fun z => hn ⟨c', z⟩)]
            rfl
          · refine ⟨_, rfl, ?_⟩
            refine iteT ?_
            exact q H fun _ _ h => h
        | some ru =>
          obtain ⟨j, rfl, hj⟩ := ruAt_some hk
          have lk := (List.getElem?_eq_some_iff.mp hj).1
          obtain ⟨r, er, p2, v1, v2⟩ := Paired.at_ hrl j ru hj
          have atk : atI (rs.map V.ref) (j : Int) = some (.ref r) := atI_nat (by rw [List.getElem?_map, er]; rfl)
          refine ite2 (fun c => ?_) (fun c => absurd (decide_eq_true (by omega)) c)
          refine ⟨_, rfl, R, _, rfl, .inl (SqL.of hR), _, _, rfl, rfl, _, rfl, ?_⟩
          refine ite2 (fun c2 => absurd c2 ?_) (fun _ => ?_)
          · rw [List.length_map, ll, decide_eq_true (by omega)]
            decide
          refine ⟨_, rfl, _, rfl, a, _, _, _, rfl, rfl, ha, rfl, R, _, _, _, rfl, rfl, SqL.of hR, atk, r, _, rfl, v1, rfl, _, _, rfl, _, _, rfl, rfl, ?_⟩
          refine ⟨_, rfl, _, rfl, rfl, _, rfl, ?_⟩
          refine ite2 (fun c3 => ?_) (fun c3 => ?_)
          · have ne : ru.1 ≠ x := fun z => by rw [z] at c3; simp at c3
            rw [isB_no (fun h => by
              unfold Is at h
              obtain ⟨parts, e, _⟩ := h
              rw [hk] at e; cases e
              exact ne rfl)] at q
            exact q H fun _ _ h => h
          have ex : ru.1 = x := by
            by_cases c4 : ru.1 = x
            · exact c4
            · exact absurd (by simp [c4]) c3
          have pcs := TrsV.paired cs hcs
          have lcs := Paired.length pcs
          refine ⟨_, rfl, p2, _, rfl, .inr v2, _, rfl, a, _, _, _, rfl, rfl, ha, rfl, p, _, rfl, .inr hp, rfl, _, rfl, ?_⟩
          rw [List.length_map]
          refine ite2 (fun c5 => ?_) (fun c5 => ?_)
          · have ne : ru.2.length ≠ vs.length := fun z => by rw [z] at c5; simp at c5
            rw [isB_no (fun h => by
              unfold Is at h
              obtain ⟨parts, e, hi⟩ := h
              rw [hk] at e; cases e
              have := (Iss.paired cs hi).1
              exact ne (by show parts.length = vs.length; omega))] at q
            exact q H fun _ _ h => h
          have el : ru.2.length = vs.length := by
            by_cases c6 : ru.2.length = vs.length
            · exact c6
            · exact absurd (by have : ¬ (ru.2.length : Int) = (vs.length : Int) := by omega
                               simp [this]) c5
          have e7 : sz (.n (j : Int) cs) = 1 + (cs.toL.map sz).sum := by unfold sz; rw [szs_toL]
          have szm : ∀ t ∈ cs.toL, sz t ≤ 1000000 := fun t h => by
            have : sz t ≤ (cs.toL.map sz).sum := sum_mem h
            omega
          have dpm : ∀ t ∈ cs.toL, dp t < n := fun t h => by
            have := dps_le cs t h
            unfold dp at hdp
            omega
          have lcl : cs.toL.length ≤ (cs.toL.map sz).sum := len_sum cs.toL
          refine ⟨_, rfl, a, _, _, _, rfl, rfl, ha, rfl, _, rfl, p, p2, vs, ru.2.map V.str, rfl, hp, v2, fun D3 hD3 => compG_zip (xs := vs) (ys := ru.2.map V.str) (by rw [List.length_map]; omega) (fun i zs σ2 H2 => zs = ((cs.toL.zip ru.2).take i).map (fun p => V.bl (isB rules p.1 p.2)) ∧ (∃ y0 y1, σ2 = [y0, y1, some (.ref R), some (.ref N)]) ∧ Same H H2 ∧ H2 D3 = some (.lst zs)) ⟨rfl, ⟨none, none, rfl⟩, same_laid hD3 _, upd_same⟩ (fun i zs σ2 H2 _ h => ?_) (fun i x1 y1 zs σ2 H2 tt ex1 ey1 h htt => ?_) (fun zs σ2 H2 h => ?_)⟩
          · obtain ⟨_, _, sm, _⟩ := h
            exact ⟨sm.tup hp, sm.tup v2⟩
          · obtain ⟨rfl, ⟨y0, y2, rfl⟩, sm, hD⟩ := h
            have li := (List.getElem?_eq_some_iff.mp ex1).1
            rw [List.getElem?_map] at ey1
            obtain ⟨pt, ept, rfl⟩ := Option.map_eq_some_iff.mp ey1
            obtain ⟨tc, etc⟩ : ∃ tc, cs.toL[i]? = some tc := ⟨cs.toL[i]'(by omega), List.getElem?_eq_getElem (by omega)⟩
            obtain ⟨x', ex', hx'⟩ := Paired.at_ pcs i tc etc
            rw [ex1] at ex'
            cases ex'
            have s3 := sm.trans (same_laid htt (.tup [x1, .str pt]))
            have hD4 := same_laid htt (.tup [x1, .str pt]) _ _ hD
            have hv3 : SqT K (upd H2 tt (.tup [x1, .str pt])) tt [x1, .str pt] := SqT.of upd_same
            generalize upd H2 tt (.tup [x1, .str pt]) = H3 at s3 hD4 hv3
            refine ⟨tt, _, rfl, hv3, rfl, _, _, rfl, _, _, rfl, rfl, ?_⟩
            refine goT ?_
            refine ⟨_, rfl, _, rfl, _, rfl, _, rfl, R, N, rs, rules, ns, x1, tc, pt, rfl, s3 _ _ hR, hrl.same s3, hlen, s3 _ _ hN, hnh, TrV.keep (fun _ _ z => s3.tup z) tc hx', dpm tc (List.mem_of_getElem? etc), szm tc (List.mem_of_getElem? etc), fun H4 s4 => ?_⟩
            refine ⟨s4 _ _ hD4, fits' (by rw [List.length_map, List.length_take]; omega), ?_, ⟨_, _, rfl⟩, fun b o hb => ?_, upd_same⟩
            · have ez : (cs.toL.zip ru.2)[i]? = some (tc, pt) := List.getElem?_zip_eq_some.mpr ⟨etc, ept⟩
              rw [List.take_add_one, ez, List.map_append]
              rfl
            · rw [upd_ne (fun z => by rw [z, hD3] at hb; cases hb)]
              exact s4 _ _ (s3 b o hb)
          · obtain ⟨rfl, _, sm, hD⟩ := h
            have lz : (cs.toL.zip ru.2).length ≤ vs.length := by rw [List.length_zip]; omega
            rw [List.take_of_length_le lz] at hD
            refine ⟨D3, (cs.toL.zip ru.2).map (fun p => isB rules p.1 p.2), rfl, SqL.of (by rw [hD, List.map_map]; rfl), ?_⟩
            have e : ((cs.toL.zip ru.2).map (fun p => isB rules p.1 p.2)).all id = isB rules (.n (j : Int) cs) x := by
              rw [Bool.eq_iff_iff, isB_iff, List.all_eq_true]
              constructor
              · intro h
                unfold Is
                refine ⟨ru.2, by rw [hk, ← ex], Iss.back cs (by omega) fun i t p e1 e2 => ?_⟩
                exact isB_iff.mp (h _ (List.mem_map.mpr ⟨(t, p), List.mem_of_getElem? (List.getElem?_zip_eq_some.mpr ⟨e1, e2⟩), rfl⟩))
              · intro h b hb
                obtain ⟨pp, hpp, rfl⟩ := List.mem_map.mp hb
                unfold Is at h
                obtain ⟨parts, e, hi⟩ := h
                rw [hk] at e; cases e
                obtain ⟨i, hi2⟩ := List.getElem?_of_mem hpp
                obtain ⟨ec, eq⟩ := List.getElem?_zip_eq_some.mp hi2
                exact isB_iff.mpr ((Iss.paired cs hi).2 i _ _ ec eq)
            rw [e]
            exact q H2 sm
end
end K11

set_option Elab.async false
set_option linter.all false
set_option maxRecDepth 100000
set_option maxHeartbeats 4000000
namespace HT
open PySem PySem.Spec PyProof.Rows
section
variable {prog : Program} {w : World} {A : Around} {E : Value → Shared → Prop} {s : Shared}
theorem getItem_tuple_all {t sl : Addr} {items : Array Value} {vl vu : Value} {lo hi : Option Int} {Q : Value → Shared → Prop} (ht : IsTup s.heap t items) (hs : s.heap.IsSliceOf sl vl vu .none) (pl : IsPart vl lo) (pu : IsPart vu hi)
    (hw : sIx items.size 0 lo = 0 ∧ sIx items.size items.size hi = items.size) (h : Q (.ref t) s) : wpAny (model prog w) A (getItem (.ref t) (.ref sl)) Q E s := by
  obtain ⟨os, hos, hcs, hds⟩ := id hs
  have hTs : s.TypeIs (.ref sl) "slice" := ⟨os, hos, hcs⟩
  unfold getItem
  try with_reducible refine wpAny_holding ?_
  first | refine wpAny_bind (wpAny_pure ?_) | skip
  refine wpAny_bind (wpAny_sequenceKey ht.typeIs (by decide) ?_)
  refine wpAny_bind (wpAny_callSpecial?_slot (name := Str.ofString "__getitem__") ht.typeIs PyProof.Rows.slot_tuple_getitem
    (wpAny_call_entry PyProof.Rows.slot_tuple_getitem ht.typeIs entry_tuple_getitem ?_ (args_tuple_getitem _ _)))
  show wpAny _ _ (Builtin.Tuple.tupleItemsOf (.ref t) >>= _) _ _ s
  refine wpAny_bind (tupleItemsOf_ ht ?_)
  refine wpAny_bind (wpAny_typeOf hTs ?_)
  rw [if_pos (by decide)]
  refine wpAny_bind (sliceApplied_gen hs pl pu ?_)
  have hyes : (((sIx items.size 0 lo : Nat) : Int) == 0 && (1 : Int) == 1 && (sIx items.size items.size hi - sIx items.size 0 lo) == items.size) = true := by
    rw [hw.1, hw.2]
    simp
  show wpAny _ _ (if (((sIx items.size 0 lo : Nat) : Int) == 0 && (1 : Int) == 1 && (sIx items.size items.size hi - sIx items.size 0 lo) == items.size) = true then _ else _) _ _ s
  rw [if_pos hyes]
  refine wpAny_bind ?_
  unfold Builtin.Tuple.tupleIsExact
  refine wpAny_bind (wpAny_typeOf ht.typeIs (wpAny_pure ?_))
  rw [if_pos (by decide)]
  refine wpAny_bind (wpAny_rule ?_)
  exact wpAny_pure ⟨_, rfl, wpAny_pure h⟩
end
end HT
namespace L2
open PySem PySem.Spec PyProof.Rows
def rSlG2 (K : PySem.W.Frag) : V → Option Int → Option Int → Hp → VK → Prop := fun x lo hi H Q => ∃ a xs, x = .ref a ∧ SqT K H a xs ∧ ∀ p H', Same H H' → SqT K H' p (cutV xs lo hi) → Q (.ref p) H'
theorem sl_tupG {X : Cx} : SlR X (rSlG2 X.K) := by
  intro pins s σ H x v vl vu lo hi sl Q I rx hs pl pu h
  obtain ⟨a, xs, rfl, hx, q⟩ := h
  by_cases hw : HT.sIx xs.length 0 lo = 0 ∧ HT.sIx xs.length xs.length hi = xs.length
  · have ec : cutV xs lo hi = xs := by
      unfold cutV
      rw [hw.1, hw.2, List.drop_zero, Nat.sub_zero, List.take_length]
    cases rx
    obtain ⟨its, r, ht, hz⟩ := I.tuple hx
    have hlen : its.toArray.size = xs.length := by rw [List.size_toArray]; exact r.length.symm
    refine ⟨"tuple", _, PyProof.Rows.slot_tuple_getitem.lookup, ht.typeIs, ?_⟩
    exact HT.getItem_tuple_all ht hs pl pu (by rw [hlen]; exact hw) ⟨.ref a, H, I, rfl, q a H (fun _ _ h => h) (by rw [ec]; exact hx)⟩
  · exact sl_tup pins s σ H _ v vl vu lo hi sl Q I rx hs pl pu ⟨a, xs, rfl, hx, hw, fun p hp => q p _ (same_laid hp _) (SqT.of upd_same)⟩
def rCatG (K : PySem.W.Frag) : R2 := fun x y H Q => ∃ a b xs ys, x = .ref a ∧ y = .ref b ∧ SqT K H a xs ∧ SqT K H b ys ∧ xs.length + ys.length ≤ sizeLine ∧ ∀ p H', Same H H' → SqT K H' p (xs ++ ys) → Q (.ref p) H'
theorem op_catG {X : Cx} : OpR X (binaryOp .Add) (rCatG X.K) := by
  intro pins s σ H x y v u Q I rx ry h
  obtain ⟨a, b, xs, ys, rfl, rfl, ha, hb, hz, q⟩ := h
  by_cases hx : xs = []
  · cases rx
    cases ry
    obtain ⟨its, r1, p1, _⟩ := I.tuple ha
    obtain ⟨its2, r2, p2, _⟩ := I.tuple hb
    have e1 : its = [] := r1.nil_iff.mpr hx
    obtain ⟨⟨cls, dd, data, sl⟩, ho, hc, n, hd⟩ := id p1
    obtain ⟨⟨cls2, dd2, data2, sl2⟩, ho2, hc2, n2, hd2⟩ := id p2
    simp only at hc hd hc2 hd2
    subst hc hd hc2 hd2
    exact concat_meets ⟨_, ho, rfl⟩ ⟨_, ho2, rfl⟩ noFill_tuple_add seq_tuple_add PySem.F.slot_tuple_add PySem.F.entry_tuple_add (PySem.F.args_tuple_add_2 _ _)
      (tuple_addW0 a b its.toArray its2.toArray n n2 dd dd2 sl sl2 (by simp [e1])) ⟨ho, ho2, .ref b, H, I, rfl, q b H (fun _ _ h => h) (by rw [hx]; exact hb)⟩
  · refine op_catT pins s σ H _ _ v u Q I rx ry ⟨a, b, xs, ys, rfl, rfl, ha, hb, hx, hz, fun e => q a H (fun _ _ h => h) (by rw [e, List.append_nil]; exact ha), fun _ p hp => q p _ (same_laid hp _) (SqT.of upd_same)⟩
end L2

set_option Elab.async false
set_option linter.all false
set_option maxRecDepth 100000
set_option maxHeartbeats 4000000
namespace K11
open PySem L2 M11
theorem cutG_take (vs : List V) (k : Nat) : cutV vs none (some (k : Int)) = vs.take k := by
  unfold cutV
  rw [HT.sIx_nat, HT.sIx_none, List.drop_zero, Nat.sub_zero]
  by_cases h : k ≤ vs.length
  · rw [Nat.min_eq_left h]
  · rw [Nat.min_eq_right (by omega), List.take_length, List.take_of_length_le (by omega)]
theorem cutG_drop (vs : List V) (k : Nat) : cutV vs (some (k : Int)) none = vs.drop k := by
  unfold cutV
  rw [HT.sIx_nat, HT.sIx_none]
  by_cases h : k ≤ vs.length
  · rw [Nat.min_eq_left h, List.take_of_length_le (by rw [List.length_drop]; omega)]
  · rw [Nat.min_eq_right (by omega), Nat.sub_self, List.take_zero, List.drop_eq_nil_of_le (by omega)]
theorem cutG_mid (vs : List V) (k : Nat) (hk : k ≤ vs.length) : cutV vs (some (k : Int)) (some ((k + 1 : Nat) : Int)) = (vs.drop k).take 1 := by
  unfold cutV
  rw [HT.sIx_nat, HT.sIx_nat, Nat.min_eq_left hk]
  by_cases h : k + 1 ≤ vs.length
  · rw [Nat.min_eq_left h, show k + 1 - k = 1 by omega]
  · rw [Nat.min_eq_right (by omega), show vs.length - k = 0 by omega, List.drop_eq_nil_of_le (by omega), List.take_nil, List.take_nil]
theorem Paired.take' {α β : Type} {F : α → β → Prop} : ∀ {xs : List α} {ys : List β} (k : Nat), Paired F xs ys → Paired F (xs.take k) (ys.take k)
  | _, _, 0, _ => by rw [List.take_zero, List.take_zero]; exact .nil
  | _, _, _ + 1, .nil => .nil
  | _, _, k + 1, .cons a b => .cons a (Paired.take' k b)
theorem Paired.drop' {α β : Type} {F : α → β → Prop} : ∀ {xs : List α} {ys : List β} (k : Nat), Paired F xs ys → Paired F (xs.drop k) (ys.drop k)
  | _, _, 0, h => h
  | _, _, _ + 1, .nil => .nil
  | _, _, k + 1, .cons a b => Paired.drop' k b
theorem sum_split (ts : List Tr) (k : Nat) : ((ts.take k).map sz).sum + ((ts.drop k).map sz).sum = (ts.map sz).sum := by
  rw [← List.sum_append, ← List.map_append, List.take_append_drop]
theorem drop_one {ts : List Tr} {k : Nat} {t : Tr} (h : ts[k]? = some t) : ts.drop k = t :: ts.drop (k + 1) := by
  obtain ⟨l, e⟩ := List.getElem?_eq_some_iff.mp h
  rw [List.drop_eq_getElem_cons l, e]
section
variable {P : Program} {w : World} {K : PySem.W.Frag} {mg : Str → Option Value} {base : Heap} {f : Addr} {fd : FuncData}
theorem boot_mx : bootBuiltins "max" = some (.builtin "max") := by decide +kernel
def spSpoil (K : PySem.W.Frag) (n : Nat) : Sp := fun vs H Q _ => ∃ (v : V) (t : Tr) (PL Dg : Addr) (m : Nat) (zs : List Str) (dg : List Int), vs = [v, .ref PL, .int (m : Int), .ref Dg] ∧ TrV K H t v ∧ dp t < n ∧ sz t ≤ 400000 ∧ H PL = some (.lst (zs.map V.str)) ∧ zs.length = 6 ∧ 0 < m ∧ H Dg = some (.lst (dg.map V.int)) ∧ 3 ≤ dg.length ∧ dg.length + n ≤ 1000 ∧
  ∀ (v' : V) (t' : Tr) (H' : Hp), Same H H' → TrV K H' t' v' → sz t' ≤ sz t + 1 → dp t' ≤ dp t + 1 → Q v' H'
abbrev NP : List Str := ["_law_tree_here", "_law_pool_here", "_law_many", "_law_digits_here", "_law_way", "_law_number", "_law_children", "_law_at", "_law_below"]
theorem scSpoil : FnScope NP ["_law_tree_here", "_law_pool_here", "_law_many", "_law_digits_here"] (defScope sSpoil) := ⟨rfl, rfl, rfl, by decide +kernel, rfl, by decide +kernel, by decide +kernel⟩
theorem ok_spoil (F : Fun K "_law_spoiled" "_law_spoiled" sSpoil f fd) (T : Txt mg) (b1 : Binds K fd ["_law_tree_here", "_law_pool_here", "_law_many", "_law_digits_here"] []) (m1 : mg "_law_spoiled" = some (.ref f)) : ∀ n, FnOk P w K mg base CX0 n f fd ["_law_tree_here", "_law_pool_here", "_law_many", "_law_digits_here"] (spSpoil K n)
  | 0 => ⟨fun vs H Q E ⟨_, _, _, _, _, _, _, e, _⟩ => by rw [e]; rfl, fun A outer s H args us vs Q E _ _ _ _ ⟨_, _, _, _, _, _, _, _, _, h, _⟩ => absurd h (Nat.not_lt_zero _)⟩
  | n + 1 => by
    have G : CalleeD P w K mg base n "_law_spoiled" ["_law_tree_here", "_law_pool_here", "_law_many", "_law_digits_here"] (spSpoil K n) := ⟨f, fd, ok_spoil F T b1 m1 n, b1, F.kp, m1⟩
    refine F.ok scSpoil (fun vs H Q E h => ?_) (fun cdv A outer s H vs Q E hr h => ?_)
    · obtain ⟨_, _, _, _, _, _, _, rfl, _⟩ := h; rfl
    · obtain ⟨v, t, PL, Dg, m, zs, dg, rfl, ht, hdp, hsz, hPL, hz6, hm, hDg, hd3, hdn, q⟩ := h
      have hu := Nat.lt_of_succ_lt (hu_of hr)
      refine ⟨_, pss_cons (ps_set (i := 4) scSpoil.nd rfl (Or.inl rfl) (pe_op op_mod (pe_ix ix_list (pv 3) pe_int (fun _ _ => rfl)) pe_int))
        (pss_cons (ps_if (pt_val (pe_callB call_isinst rfl T.isi PyProof.Rows.boot_isinstance (pa_cons (pv 0) (pa_cons (pe_bltn (v := .ty "str") rfl T.str boot_txt rfl) pa_nil))))
          (pss_one (ps_ret (pe_ix ix_list (pe_lst (pa_cons (pe_ix ix_list (pv 1) (pe_op op_mod (pe_ix ix_list (pv 3) pe_int (fun _ _ => rfl)) pe_int) (fun _ _ => rfl)) (pa_cons (pe_tup (pa_cons (pe_op op_sub (pe_op op_mod (pe_ix ix_list (pv 3) pe_int (fun _ _ => rfl)) (pe_op op_add (pv 2) pe_int)) pe_int) (pa_cons (pe_tup pa_nil) pa_nil))) (pa_cons (pe_tup (pa_cons (pe_op op_mod (pe_ix ix_list (pv 3) pe_int (fun _ _ => rfl)) (pv 2)) (pa_cons (pe_tup (pa_cons (pv 0) pa_nil)) pa_nil))) (pa_cons (pv 0) pa_nil))))) (pe_op op_mod (pv 4) pe_int) (fun _ _ => rfl)))) pss_nil)
        (pss_cons (ps_asg (pv 0) (pg_tup rfl (pgs_cons (pg_name (i := 5) scSpoil.nd rfl (Or.inl rfl)) (pgs_cons (pg_name (i := 6) scSpoil.nd rfl (Or.inl rfl)) pgs_nil))))
        (pss_cons (ps_cutS (ps_set (i := 7) scSpoil.nd rfl (Or.inl rfl) (pe_op op_mod (pe_ix ix_list (pv 3) pe_int (fun _ _ => rfl)) (pe_callB (call_max2 rfl) rfl T.max boot_mx (pa_cons pe_int (pa_cons (pe_callB call_len_seq rfl T.len PySem.boot_len (pa_cons (pv 6) pa_nil)) pa_nil))))))
        (pss_cons (ps_if (PW.pt (pw_or (pt_cmpR op_eq (pv 4) pe_int (nomark _)) (pw_or1 (pt_cmpR (op_eq_nilT hu) (pv 6) (pe_tup pa_nil) (nomark _))))) (pss_one (ps_ret (pe_tup (pa_cons (pe_op op_sub (pe_op op_mod (pe_ix ix_list (pv 3) pe_int (fun _ _ => rfl)) (pe_op op_add (pv 2) pe_int)) pe_int) (pa_cons (pv 6) pa_nil))))) pss_nil)
        (pss_cons (ps_if (pt_cmpR op_eq (pv 4) pe_int (nomark _)) (pss_one (ps_ret (pe_tup (pa_cons (pv 5) (pa_cons (pe_op op_catG (pe_slice sl_tupG (pv 6) po_none (po_some (pv 7))) (pe_slice sl_tupG (pv 6) (po_some (pe_op op_add (pv 7) pe_int)) po_none)) pa_nil))))) pss_nil)
        (pss_cons (ps_if (pt_cmpR op_eq (pv 4) pe_int (nomark _)) (pss_one (ps_ret (pe_tup (pa_cons (pv 5) (pa_cons (pe_op op_catG (pe_op op_catG (pe_slice sl_tupG (pv 6) po_none (po_some (pv 7))) (pe_tup (pa_cons (pe_ix ix_list (pv 1) (pe_op op_mod (pe_ix ix_list (pv 3) pe_int (fun _ _ => rfl)) pe_int) (fun _ _ => rfl)) pa_nil))) (pe_slice sl_tupG (pv 6) (po_some (pv 7)) po_none)) pa_nil))))) pss_nil)
        (pss_cons (ps_if (pt_cmpR op_eq (pv 4) pe_int (nomark _)) (pss_one (ps_ret (pe_tup (pa_cons (pv 5) (pa_cons (pe_op op_catG (pe_op op_catG (pe_op op_catG (pe_slice sl_tupG (pv 6) po_none (po_some (pv 7))) (pe_slice sl_tupG (pv 6) (po_some (pe_op op_add (pv 7) pe_int)) (po_some (pe_op op_add (pv 7) pe_int)))) (pe_tup (pa_cons (pe_ix ix_tup (pv 6) (pv 7) (fun _ _ => rfl)) pa_nil))) (pe_slice sl_tupG (pv 6) (po_some (pe_op op_add (pv 7) pe_int)) po_none)) pa_nil))))) pss_nil)
        (pss_cons (ps_if (pt_cmpR op_eq (pv 4) pe_int (nomark _)) (pss_one (ps_ret (pe_ix ix_list (pv 1) (pe_op op_mod (pe_ix ix_list (pv 3) pe_int (fun _ _ => rfl)) pe_int) (fun _ _ => rfl)))) pss_nil)
        (pss_cons (ps_set (i := 8) scSpoil.nd rfl (Or.inl rfl) (pe_fn G hr rfl (pa_cons (pe_ix ix_tup (pv 6) (pv 7) (fun _ _ => rfl)) (pa_cons (pv 1) (pa_cons (pv 2) (pa_cons (pe_op op_cat (pe_slice sl_list (pv 3) (po_some pe_int) po_none) (pe_lst (pa_cons pe_int (pa_cons pe_int (pa_cons pe_int pa_nil))))) pa_nil))))))
        (pss_one (ps_ret (pe_tup (pa_cons (pv 5) (pa_cons (pe_op op_catG (pe_op op_catG (pe_slice sl_tupG (pv 6) po_none (po_some (pv 7))) (pe_tup (pa_cons (pv 8) pa_nil))) (pe_slice sl_tupG (pv 6) (po_some (pe_op op_add (pv 7) pe_int)) po_none)) pa_nil)))))))))))))), ?_⟩
      obtain ⟨d0, e0⟩ : ∃ d, dg[0]? = some d := ⟨dg[0]'(by omega), List.getElem?_eq_getElem (by omega)⟩
      obtain ⟨d1, e1⟩ : ∃ d, dg[1]? = some d := ⟨dg[1]'(by omega), List.getElem?_eq_getElem (by omega)⟩
      obtain ⟨d2, e2⟩ : ∃ d, dg[2]? = some d := ⟨dg[2]'(by omega), List.getElem?_eq_getElem (by omega)⟩
      have at0 : atI (dg.map V.int) 0 = some (.int d0) := atI_nat (j := 0) (by rw [List.getElem?_map, e0]; rfl)
      have at1 : atI (dg.map V.int) 1 = some (.int d1) := atI_nat (j := 1) (by rw [List.getElem?_map, e1]; rfl)
      have at2 : atI (dg.map V.int) 2 = some (.int d2) := atI_nat (j := 2) (by rw [List.getElem?_map, e2]; rfl)
      obtain ⟨z1, _, az1⟩ := atM (zs := zs) (m := 6) (by omega) (by decide) d1
      obtain ⟨z2, _, az2⟩ := atM (zs := zs) (m := 6) (by omega) (by decide) d2
      refine ⟨_, rfl, Dg, _, _, _, rfl, rfl, SqL.of hDg, at0, _, _, rfl, rfl, (by show (0 : Int) < 8; decide), ?_⟩
      cases t with
      | w z =>
        unfold TrV at ht
        subst ht
        refine ⟨_, rfl, .str z, "str", "str", true, rfl, .str z, kit_self, true, rfl, ?_⟩
        refine iteT ?_
        refine ⟨_, rfl, _, rfl, Dg, _, _, _, rfl, rfl, SqL.of hDg, at1, _, _, rfl, rfl, (by show (0 : Int) < 6; decide), PL, _, _, _, rfl, rfl, SqL.of hPL, az1, ?_⟩
        refine ⟨_, rfl, Dg, _, _, _, rfl, rfl, SqL.of hDg, at1, _, rfl, _, _, rfl, rfl, _, _, rfl, rfl, (by show (0 : Int) < (m : Int) + 2; omega), _, _, rfl, rfl, (by show 0 ≤ sizeLine; decide), fun p0 hp0 => ⟨(by show 2 ≤ sizeLine; decide), fun p1 hp1 => ?_⟩⟩
        have sA := (same_laid hp0 (.tup [])).trans (same_laid hp1 (.tup [.int (d1 % ((m : Int) + 2) - 1), .ref p0]))
        have vA1 : SqT K (upd (upd H p0 (.tup [])) p1 (.tup [.int (d1 % ((m : Int) + 2) - 1), .ref p0])) p1 [.int (d1 % ((m : Int) + 2) - 1), .ref p0] := SqT.of upd_same
        have vA0 : SqT K (upd (upd H p0 (.tup [])) p1 (.tup [.int (d1 % ((m : Int) + 2) - 1), .ref p0])) p0 [] := (same_laid hp1 _).tup (SqT.of upd_same)
        generalize upd (upd H p0 (.tup [])) p1 (.tup [.int (d1 % ((m : Int) + 2) - 1), .ref p0]) = HA at sA vA1 vA0
        refine ⟨_, rfl, Dg, _, _, _, rfl, rfl, SqL.of (sA _ _ hDg), at1, _, rfl, _, _, rfl, rfl, (by show (0 : Int) < (m : Int); omega), _, rfl, (by show 1 ≤ sizeLine; decide), fun p2 hp2 => ⟨(by show 2 ≤ sizeLine; decide), fun p3 hp3 => ?_⟩⟩
        have sB := (same_laid hp2 (.tup [.str z])).trans (same_laid hp3 (.tup [.int (d1 % (m : Int)), .ref p2]))
        have vB3 : SqT K (upd (upd HA p2 (.tup [.str z])) p3 (.tup [.int (d1 % (m : Int)), .ref p2])) p3 [.int (d1 % (m : Int)), .ref p2] := SqT.of upd_same
        have vB2 : SqT K (upd (upd HA p2 (.tup [.str z])) p3 (.tup [.int (d1 % (m : Int)), .ref p2])) p2 [.str z] := (same_laid hp3 _).tup (SqT.of upd_same)
        generalize upd (upd HA p2 (.tup [.str z])) p3 (.tup [.int (d1 % (m : Int)), .ref p2]) = HB at sB vB3 vB2
        refine ⟨_, rfl, (by show 4 ≤ sizeLine; decide), fun L hL => ?_⟩
        have sC := same_laid hL (.lst [.str z1, .ref p1, .ref p3, .str z])
        have eL : upd HB L (.lst [.str z1, .ref p1, .ref p3, .str z]) L = some (.lst [.str z1, .ref p1, .ref p3, .str z]) := upd_same
        generalize upd HB L (.lst [.str z1, .ref p1, .ref p3, .str z]) = HC at sC eL
        have s0C := (sA.trans sB).trans sC
        refine ⟨_, rfl, _, _, rfl, rfl, (by show (0 : Int) < 4; decide), ?_⟩
        have hw : d0 % 8 % 4 = 0 ∨ d0 % 8 % 4 = 1 ∨ d0 % 8 % 4 = 2 ∨ d0 % 8 % 4 = 3 := by omega
        rcases hw with hw | hw | hw | hw
        · exact ⟨L, _, _, _, rfl, rfl, SqL.of eL, (show atI [V.str z1, .ref p1, .ref p3, .str z] (d0 % 8 % 4) = some (.str z1) by rw [hw]; rfl), q _ (.w z1) HC s0C (by unfold TrV; rfl) (by unfold sz; omega) (by unfold dp; omega)⟩
        · refine ⟨L, _, _, _, rfl, rfl, SqL.of eL, (show atI [V.str z1, .ref p1, .ref p3, .str z] (d0 % 8 % 4) = some (.ref p1) by rw [hw]; rfl), q _ (.n (d1 % ((m : Int) + 2) - 1) .nil) HC s0C ?_ (by unfold sz szs; omega) (by unfold dp dps; omega)⟩
          unfold TrV
          exact ⟨p1, p0, [], rfl, (sB.trans sC).tup vA1, (sB.trans sC).tup vA0, by unfold TrsV; rfl⟩
        · refine ⟨L, _, _, _, rfl, rfl, SqL.of eL, (show atI [V.str z1, .ref p1, .ref p3, .str z] (d0 % 8 % 4) = some (.ref p3) by rw [hw]; rfl), q _ (.n (d1 % (m : Int)) (.cons (.w z) .nil)) HC s0C ?_ (by simp [sz, szs]) (by simp [dp, dps])⟩
          unfold TrV
          exact ⟨p3, p2, [.str z], rfl, sC.tup vB3, sC.tup vB2, by unfold TrsV; exact ⟨_, _, rfl, by unfold TrV; rfl, by unfold TrsV; rfl⟩⟩
        · exact ⟨L, _, _, _, rfl, rfl, SqL.of eL, (show atI [V.str z1, .ref p1, .ref p3, .str z] (d0 % 8 % 4) = some (.str z) by rw [hw]; rfl), q _ (.w z) HC s0C (by unfold TrV; rfl) (by omega) (by omega)⟩
      | n k cs =>
        unfold TrV at ht
        obtain ⟨a, p, vs, rfl, ha, hp, hcs⟩ := ht
        have pcs := TrsV.paired cs hcs
        have lcs := Paired.length pcs
        have e7 : sz (.n k cs) = 1 + (cs.toL.map sz).sum := by unfold sz; rw [szs_toL]
        have e8 : dp (.n k cs) = 1 + dps cs := by unfold dp; rfl
        have lcl := len_sum cs.toL
        have dpm : ∀ t ∈ cs.toL, dp t ≤ dps cs := fun t h => dps_le cs t h
        have fin : ∀ (k' : Int) (T0 p' : Addr) (vs' : List V) (ts' : List Tr) (H' : Hp), Same H H' → SqT K H' T0 [.int k', .ref p'] → SqT K H' p' vs' → Paired (fun v t => TrV K H' t v) vs' ts' → (ts'.map sz).sum ≤ (cs.toL.map sz).sum + 1 → (∀ t ∈ ts', dp t ≤ dps cs + 1) → Q (.ref T0) H' := fun k' T0 p' vs' ts' H' s' h1 h2 h3 h4 h5 =>
          q (.ref T0) (.n k' (Trs.ofL ts')) H' s' (by unfold TrV; exact ⟨T0, p', vs', rfl, h1, h2, ofL_trsV h3⟩) (by
            have e9 : sz (.n k' (Trs.ofL ts')) = 1 + (ts'.map sz).sum := by unfold sz; rw [szs_toL, toL_ofL]
            omega) (by
            have := ofL_dps (b := dps cs + 1) ts' h5
            have e9 : dp (.n k' (Trs.ofL ts')) = 1 + dps (Trs.ofL ts') := by unfold dp; rfl
            omega)
        refine ⟨_, rfl, .ref a, "tuple", "str", false, rfl, .tup ha, kit_st, false, rfl, ?_⟩
        refine iteF ?_
        refine ⟨_, rfl, a, _, rfl, ha, rfl, _, _, rfl, _, _, rfl, rfl, ?_⟩
        obtain ⟨ai, hai, hlt⟩ : ∃ ai : Nat, d1 % (if (vs.length : Int) > 1 then (vs.length : Int) else 1) = (ai : Int) ∧ (vs ≠ [] → ai < vs.length) := by
          by_cases c : (vs.length : Int) > 1
          · rw [if_pos c]
            have h1 := Int.emod_lt_of_pos d1 (show (0 : Int) < (vs.length : Int) by omega)
            have h2 := Int.emod_nonneg d1 (show (vs.length : Int) ≠ 0 by omega)
            exact ⟨(d1 % (vs.length : Int)).toNat, by omega, fun _ => by omega⟩
          · rw [if_neg c]
            exact ⟨0, by omega, fun h => List.length_pos_iff.mpr h⟩
        refine ⟨fun σ H5 => σ = [some (.ref a), some (.ref PL), some (.int (m : Int)), some (.ref Dg), some (.int (d0 % 8)), some (.int k), some (.ref p), some (.int (ai : Int)), none] ∧ H = H5, ?_, ?_⟩
        · refine ⟨_, rfl, Dg, _, _, _, rfl, rfl, SqL.of hDg, at1, _, rfl, p, vs, rfl, .inr hp, _, _, rfl, _, _, rfl, rfl, (by show (0 : Int) < (if (vs.length : Int) > 1 then (vs.length : Int) else 1); split <;> omega), ?_⟩
          exact ⟨by rw [← hai]; rfl, rfl⟩
        rintro σ H5 ⟨rfl, rfl⟩
        refine ⟨_, rfl, rfl, _, rfl, ?_⟩
        refine ite2 (fun _ => ?_) (fun _ => ?_)
        · refine ⟨_, rfl, Dg, _, _, _, rfl, rfl, SqL.of hDg, at2, _, rfl, _, _, rfl, rfl, _, _, rfl, rfl, (by show (0 : Int) < (m : Int) + 2; omega), _, _, rfl, rfl, _, rfl, (by show 2 ≤ sizeLine; decide), fun T0 hT0 => ?_⟩
          exact fin _ T0 p vs cs.toL _ (same_laid hT0 _) (SqT.of upd_same) ((same_laid hT0 _).tup hp) (Paired.mapP pcs fun v t z => TrV.keep (fun a xs z => (same_laid hT0 _).tup z) t z) (by omega) (fun t h => Nat.le_succ_of_le (dpm t h))
        refine ⟨_, rfl, (by show 0 ≤ sizeLine; decide), fun p0 hp0 => ?_⟩
        have s1 := same_laid hp0 (.tup [])
        have v0 : SqT K (upd H p0 (.tup [])) p0 [] := SqT.of upd_same
        generalize upd H p0 (.tup []) = H1 at s1 v0
        have hp1 := s1.tup hp
        refine ⟨p, p0, vs, rfl, rfl, hp1, v0, _, rfl, ?_⟩
        refine ite2 (fun _ => ?_) (fun cE => ?_)
        · refine ⟨_, rfl, Dg, _, _, _, rfl, rfl, SqL.of (s1 _ _ hDg), at2, _, rfl, _, _, rfl, rfl, _, _, rfl, rfl, (by show (0 : Int) < (m : Int) + 2; omega), _, _, rfl, rfl, _, rfl, (by show 2 ≤ sizeLine; decide), fun T0 hT0 => ?_⟩
          have s2 := s1.trans (same_laid hT0 (.tup [.int (d2 % ((m : Int) + 2) - 1), .ref p]))
          exact fin _ T0 p vs cs.toL _ s2 (SqT.of upd_same) (s2.tup hp) (Paired.mapP pcs fun v t z => TrV.keep (fun a xs z => s2.tup z) t z) (by omega) (fun t h => Nat.le_succ_of_le (dpm t h))
        have hne : vs ≠ [] := fun z => by rw [z] at cE; exact cE rfl
        have hl := hlt hne
        obtain ⟨ta, eta⟩ : ∃ t, cs.toL[ai]? = some t := ⟨cs.toL[ai]'(by omega), List.getElem?_eq_getElem (by omega)⟩
        obtain ⟨va, eva, hva⟩ := Paired.at_ pcs ai ta eta
        have ata : atI vs (ai : Int) = some va := atI_nat eva
        have c1 : (ai : Int) + 1 = ((ai + 1 : Nat) : Int) := by omega
        have c2 : (ai : Int) + 2 = ((ai + 1 + 1 : Nat) : Int) := by omega
        have su1 := sum_split cs.toL ai
        have su2 := drop_one eta
        have su3 : ((cs.toL.drop ai).map sz).sum = sz ta + ((cs.toL.drop (ai + 1)).map sz).sum := by rw [su2, List.map_cons, List.sum_cons]
        have su4 := sum_split (cs.toL.drop (ai + 1)) 1
        rw [List.drop_drop] at su4
        have hta := dpm ta (List.mem_of_getElem? eta)
        have mt : ∀ {j : Nat} {t : Tr}, t ∈ cs.toL.take j → dp t ≤ dps cs + 1 := fun h => Nat.le_succ_of_le (dpm _ (List.mem_of_mem_take h))
        have md : ∀ {j : Nat} {t : Tr}, t ∈ cs.toL.drop j → dp t ≤ dps cs + 1 := fun h => Nat.le_succ_of_le (dpm _ (List.mem_of_mem_drop h))
        have ka : ∀ {H' : Hp}, Same H H' → Paired (fun v t => TrV K H' t v) vs cs.toL := fun s' => Paired.mapP pcs fun v t z => TrV.keep (fun a xs z => s'.tup z) t z
        have fitS : ∀ j : Nat, j ≤ 1000000 → j ≤ sizeLine := fun j h => fits (by omega)
        -- way 1
        refine ⟨_, rfl, rfl, _, rfl, ?_⟩
        refine ite2 (fun _ => ?_) (fun _ => ?_)
        · refine ⟨_, rfl, _, rfl, _, rfl, _, rfl, p, vs, rfl, hp1, fun pA HA sA vA => ?_⟩
          rw [cutG_take] at vA
          refine ⟨_, rfl, _, rfl, _, _, rfl, rfl, _, rfl, p, vs, rfl, sA.tup hp1, fun pB HB sB vB => ?_⟩
          rw [c1, cutG_drop] at vB
          refine ⟨pA, pB, _, _, rfl, rfl, sB.tup vA, vB, fitS _ (by rw [List.length_take, List.length_drop]; omega), fun pC HC sC vC => ⟨(by show 2 ≤ sizeLine; decide), fun T0 hT0 => ?_⟩⟩
          have sT := same_laid hT0 (.tup [.int k, .ref pC])
          have s0 := (((s1.trans sA).trans sB).trans sC).trans sT
          refine fin k T0 pC _ (cs.toL.take ai ++ cs.toL.drop (ai + 1)) _ s0 (SqT.of upd_same) (sT.tup vC) (Paired.app' (Paired.take' ai (ka s0)) (Paired.drop' (ai + 1) (ka s0))) ?_ fun t h => ?_
          · rw [List.map_append, List.sum_append]; omega
          · rcases List.mem_append.mp h with h | h
            · exact mt h
            · exact md h
        -- way 2
        refine ⟨_, rfl, rfl, _, rfl, ?_⟩
        refine ite2 (fun _ => ?_) (fun _ => ?_)
        · refine ⟨_, rfl, _, rfl, _, rfl, _, rfl, p, vs, rfl, hp1, fun pA HA sA vA => ?_⟩
          rw [cutG_take] at vA
          have s1A := s1.trans sA
          refine ⟨_, rfl, _, rfl, Dg, _, _, _, rfl, rfl, SqL.of (s1A _ _ hDg), at2, _, _, rfl, rfl, (by show (0 : Int) < 6; decide), PL, _, _, _, rfl, rfl, SqL.of (s1A _ _ hPL), az2, (by show 1 ≤ sizeLine; decide), fun pB hpB => ?_⟩
          have sB := same_laid hpB (.tup [.str z2])
          have vB : SqT K (upd HA pB (.tup [.str z2])) pB [.str z2] := SqT.of upd_same
          generalize upd HA pB (.tup [.str z2]) = HB at sB vB
          refine ⟨pA, pB, _, _, rfl, rfl, sB.tup vA, vB, fitS _ (by rw [List.length_take]; simp; omega), fun pC HC sC vC => ?_⟩
          have s1C := (s1A.trans sB).trans sC
          refine ⟨_, rfl, _, rfl, _, rfl, p, vs, rfl, s1C.tup hp, fun pD HD sD vD => ?_⟩
          rw [cutG_drop] at vD
          refine ⟨pC, pD, _, _, rfl, rfl, sD.tup vC, vD, fitS _ (by rw [List.length_append, List.length_take, List.length_drop]; simp; omega), fun pE HE sE vE => ⟨(by show 2 ≤ sizeLine; decide), fun T0 hT0 => ?_⟩⟩
          have sT := same_laid hT0 (.tup [.int k, .ref pE])
          have s0 := ((s1C.trans sD).trans sE).trans sT
          refine fin k T0 pE _ ((cs.toL.take ai ++ [.w z2]) ++ cs.toL.drop ai) _ s0 (SqT.of upd_same) (sT.tup vE) (Paired.app' (Paired.app' (Paired.take' ai (ka s0)) (.cons (by unfold TrV; rfl) .nil)) (Paired.drop' ai (ka s0))) ?_ fun t h => ?_
          · have ez : sz (.w z2) = 1 := by unfold sz; rfl
            rw [List.map_append, List.sum_append, List.map_append, List.sum_append]; simp only [List.map_cons, List.map_nil, List.sum_cons, List.sum_nil]; omega
          · rcases List.mem_append.mp h with h | h
            · rcases List.mem_append.mp h with h | h
              · exact mt h
              · rw [List.mem_singleton.mp h]; unfold dp; omega
            · exact md h
        -- way 3
        refine ⟨_, rfl, rfl, _, rfl, ?_⟩
        refine ite2 (fun _ => ?_) (fun _ => ?_)
        · refine ⟨_, rfl, _, rfl, _, rfl, _, rfl, p, vs, rfl, hp1, fun pA HA sA vA => ?_⟩
          rw [cutG_take] at vA
          have s1A := s1.trans sA
          refine ⟨_, rfl, _, rfl, _, _, rfl, rfl, _, rfl, _, rfl, _, _, rfl, rfl, _, rfl, p, vs, rfl, s1A.tup hp, fun pB HB sB vB => ?_⟩
          rw [c1, c2, cutG_mid vs (ai + 1) (by omega)] at vB
          refine ⟨pA, pB, _, _, rfl, rfl, sB.tup vA, vB, fitS _ (by rw [List.length_take, List.length_take, List.length_drop]; omega), fun pC HC sC vC => ?_⟩
          have s1C := (s1A.trans sB).trans sC
          refine ⟨_, rfl, _, rfl, p, _, _, _, rfl, rfl, s1C.tup hp, ata, (by show 1 ≤ sizeLine; decide), fun pD hpD => ?_⟩
          have sD := same_laid hpD (.tup [va])
          have vD : SqT K (upd HC pD (.tup [va])) pD [va] := SqT.of upd_same
          generalize upd HC pD (.tup [va]) = HD at sD vD
          refine ⟨pC, pD, _, _, rfl, rfl, sD.tup vC, vD, fitS _ (by rw [List.length_append, List.length_take, List.length_take, List.length_drop]; simp; omega), fun pE HE sE vE => ?_⟩
          have s1E := (s1C.trans sD).trans sE
          refine ⟨_, rfl, _, rfl, _, _, rfl, rfl, _, rfl, p, vs, rfl, s1E.tup hp, fun pF HF sF vF => ?_⟩
          rw [c2, cutG_drop] at vF
          refine ⟨pE, pF, _, _, rfl, rfl, sF.tup vE, vF, fitS _ (by rw [List.length_append, List.length_append, List.length_take, List.length_take, List.length_drop, List.length_drop]; simp; omega), fun pG HG sG vG => ⟨(by show 2 ≤ sizeLine; decide), fun T0 hT0 => ?_⟩⟩
          have sT := same_laid hT0 (.tup [.int k, .ref pG])
          have s0 := ((s1E.trans sF).trans sG).trans sT
          refine fin k T0 pG _ (((cs.toL.take ai ++ (cs.toL.drop (ai + 1)).take 1) ++ [ta]) ++ cs.toL.drop (ai + 1 + 1)) _ s0 (SqT.of upd_same) (sT.tup vG) (Paired.app' (Paired.app' (Paired.app' (Paired.take' ai (ka s0)) (Paired.take' 1 (Paired.drop' (ai + 1) (ka s0)))) (.cons (TrV.keep (fun a xs z => s0.tup z) ta hva) .nil)) (Paired.drop' (ai + 1 + 1) (ka s0))) ?_ fun t h => ?_
          · rw [List.map_append, List.sum_append, List.map_append, List.sum_append, List.map_append, List.sum_append]; simp only [List.map_cons, List.map_nil, List.sum_cons, List.sum_nil]; omega
          · rcases List.mem_append.mp h with h | h
            · rcases List.mem_append.mp h with h | h
              · rcases List.mem_append.mp h with h | h
                · exact mt h
                · exact md (List.mem_of_mem_take h)
              · rw [List.mem_singleton.mp h]; omega
            · exact md h
        -- way 4
        refine ⟨_, rfl, rfl, _, rfl, ?_⟩
        refine ite2 (fun _ => ?_) (fun _ => ?_)
        · exact ⟨_, rfl, _, rfl, Dg, _, _, _, rfl, rfl, SqL.of (s1 _ _ hDg), at2, _, _, rfl, rfl, (by show (0 : Int) < 6; decide), PL, _, _, _, rfl, rfl, SqL.of (s1 _ _ hPL), az2, q _ (.w z2) H1 s1 (by unfold TrV; rfl) (by have : sz (.w z2) = 1 := (by unfold sz; rfl); omega) (by have : dp (.w z2) = 0 := (by unfold dp; rfl); omega)⟩
        -- below
        obtain ⟨es, ees, _, hel⟩ := cut_ints dg (some 2) none
        have les : es.length = dg.length - 2 := by
          have := congrArg List.length ees
          rw [List.length_map] at this
          rw [← this, show cutV (dg.map V.int) (some 2) none = (dg.map V.int).drop 2 from cutG_drop _ 2, List.length_drop, List.length_map]
        refine ⟨_, rfl, _, rfl, p, _, _, _, rfl, rfl, hp1, ata, _, rfl, _, rfl, _, rfl, 2, rfl, Dg, _, rfl, SqL.of (s1 _ _ hDg), fun D1 hD1 => ?_⟩
        rw [ees]
        have sB := s1.trans (same_laid hD1 (.lst (es.map V.int)))
        have eB : upd H1 D1 (.lst (es.map V.int)) D1 = some (.lst (es.map V.int)) := upd_same
        generalize upd H1 D1 (.lst (es.map V.int)) = HB at sB eB
        refine ⟨(by show 3 ≤ sizeLine; decide), fun D2 hD2 => ?_⟩
        have sC := sB.trans (same_laid hD2 (.lst [.int 1, .int 1, .int 1]))
        have eB2 := same_laid hD2 (.lst [.int 1, .int 1, .int 1]) _ _ eB
        have eC : upd HB D2 (.lst [.int 1, .int 1, .int 1]) D2 = some (.lst [.int 1, .int 1, .int 1]) := upd_same
        generalize upd HB D2 (.lst [.int 1, .int 1, .int 1]) = HC at sC eB2 eC
        refine ⟨D1, D2, _, _, rfl, rfl, eB2, eC, fitS _ (by rw [List.length_map]; show es.length + 3 ≤ _; omega), fun D3 hD3 => ?_⟩
        rw [show es.map V.int ++ [.int 1, .int 1, .int 1] = (es ++ [1, 1, 1]).map V.int by rw [List.map_append]; rfl]
        have sD := sC.trans (same_laid hD3 (.lst ((es ++ [1, 1, 1]).map V.int)))
        have eD : upd HC D3 (.lst ((es ++ [1, 1, 1]).map V.int)) D3 = some (.lst ((es ++ [1, 1, 1]).map V.int)) := upd_same
        generalize upd HC D3 (.lst ((es ++ [1, 1, 1]).map V.int)) = HD at sD eD
        have szm : sz ta ≤ (cs.toL.map sz).sum := sum_mem (List.mem_of_getElem? eta)
        refine ⟨va, ta, PL, D3, m, zs, es ++ [1, 1, 1], rfl, TrV.keep (fun a xs z => sD.tup z) ta hva, by omega, by omega, sD _ _ hPL, hz6, hm, eD, by rw [List.length_append]; show 3 ≤ es.length + 3; omega, by rw [List.length_append]; show es.length + 3 + n ≤ 1000; omega, fun vb tb HE sE hvb szb dpb => ?_⟩
        have s1E := sD.trans sE
        refine ⟨_, rfl, _, rfl, _, rfl, _, rfl, p, vs, rfl, s1E.tup hp, fun pA HF sF vA => ?_⟩
        rw [cutG_take] at vA
        have s1F := s1E.trans sF
        refine ⟨_, rfl, (by show 1 ≤ sizeLine; decide), fun pB hpB => ?_⟩
        have sG := same_laid hpB (.tup [vb])
        have vB : SqT K (upd HF pB (.tup [vb])) pB [vb] := SqT.of upd_same
        generalize upd HF pB (.tup [vb]) = HG at sG vB
        refine ⟨pA, pB, _, _, rfl, rfl, sG.tup vA, vB, fitS _ (by rw [List.length_take]; simp; omega), fun pC HH sH vC => ?_⟩
        have s1H := (s1F.trans sG).trans sH
        refine ⟨_, rfl, _, rfl, _, _, rfl, rfl, _, rfl, p, vs, rfl, s1H.tup hp, fun pD HI sI vD => ?_⟩
        rw [c1, cutG_drop] at vD
        refine ⟨pC, pD, _, _, rfl, rfl, sI.tup vC, vD, fitS _ (by rw [List.length_append, List.length_take, List.length_drop]; simp; omega), fun pE HJ sJ vE => ⟨(by show 2 ≤ sizeLine; decide), fun T0 hT0 => ?_⟩⟩
        have sT := same_laid hT0 (.tup [.int k, .ref pE])
        have sEr := ((((sF.trans sG).trans sH).trans sI).trans sJ).trans sT
        have s0 := s1E.trans sEr
        refine fin k T0 pE _ ((cs.toL.take ai ++ [tb]) ++ cs.toL.drop (ai + 1)) _ s0 (SqT.of upd_same) (sT.tup vE) (Paired.app' (Paired.app' (Paired.take' ai (ka s0)) (.cons (TrV.keep (fun a xs z => sEr.tup z) tb hvb) .nil)) (Paired.drop' (ai + 1) (ka s0))) ?_ fun t h => ?_
        · rw [List.map_append, List.sum_append, List.map_append, List.sum_append]; simp only [List.map_cons, List.map_nil, List.sum_cons, List.sum_nil]; omega
        · rcases List.mem_append.mp h with h | h
          · rcases List.mem_append.mp h with h | h
            · exact mt h
            · rw [List.mem_singleton.mp h]; omega
          · exact md h
end
end K11

set_option Elab.async false
set_option linter.all false
set_option maxRecDepth 100000
set_option maxHeartbeats 4000000
namespace K11
open PySem L2 M11
theorem cut_take (ns : List Str) (k : Nat) : cutV (ns.map V.str) none (some (k : Int)) = (ns.take k).map V.str := by
  unfold cutV
  rw [HT.sIx_nat, HT.sIx_none, List.drop_zero, Nat.sub_zero, List.length_map, ← List.map_take]
  congr 1
  by_cases h : k ≤ ns.length
  · rw [Nat.min_eq_left h]
  · rw [Nat.min_eq_right (by omega), List.take_length, List.take_of_length_le (by omega)]
theorem cut_drop (ns : List Str) (k : Nat) : cutV (ns.map V.str) (some (k : Int)) none = (ns.drop k).map V.str := by
  unfold cutV
  rw [HT.sIx_nat, HT.sIx_none, List.length_map, ← List.map_drop, ← List.map_take]
  congr 1
  by_cases h : k ≤ ns.length
  · rw [Nat.min_eq_left h, List.take_of_length_le (by rw [List.length_drop]; omega)]
  · rw [Nat.min_eq_right (by omega), Nat.sub_self, List.take_zero, List.drop_eq_nil_of_le (by omega)]

theorem plain_refs (rs : List Addr) : ∀ v ∈ rs.map V.ref, PlainV v := fun v hv => by
  obtain ⟨z, _, rfl⟩ := List.mem_map.mp hv
  exact .inr ⟨z, rfl⟩
section
variable {P : Program} {w : World} {K : PySem.W.Frag} {mg : Str → Option Value} {base : Heap} {f : Addr} {fd : FuncData}
theorem kit_bb : PySem.W.kitOne K (.type "bool") (.type "bool") = some true := kit_self
def spLaw (K : PySem.W.Frag) : Sp := fun vs H Q _ => ∃ (a : Addr) (ns : List Int), vs = [.ref a] ∧ SqL K H a (ns.map V.int) ∧ ns.length ≤ 63 ∧ ∀ H', Q (.bl true) H'
abbrev NL : List Str := ["_law_script", "_law_first", "_law_pool_here", "_law_names", "_law_rules_here", "_law_cell", "_law_tree_here", "_law_digits_here", "_law_handed", "_law_k", "_law_found"]
theorem scLaw : FnScope NL ["_law_script"] (defScope sLaw) := ⟨rfl, rfl, rfl, by decide +kernel, rfl, by decide +kernel, by decide +kernel⟩
theorem ok_law (F : Fun K "law" "law" sLaw f fd) (T : Txt mg) (GC : CalleeD P w K mg base 60 "_law_cell_at" ["_law_script", "_law_k"] (spCell K)) (GP : CalleeD P w K mg base 60 "_law_pool" ["_law_cell", "_law_many"] spPool)
    (GR : CalleeD P w K mg base 60 "_law_rules" ["_law_cell", "_law_names", "_law_words", "_law_cells"] (spRules K)) (GD : CalleeD P w K mg base 60 "_law_digits" ["_law_cell", "_law_many"] spDigits) (GT : CalleeD P w K mg base 60 "_law_tree" ["_law_rules_here", "_law_names", "_law_name", "_law_digits_here"] (spTree K 60))
    (GS : CalleeD P w K mg base 60 "tree_stands" ["rules", "tree", "name"] (spStand K)) (GL : CalleeD P w K mg base 60 "_law_stands" ["_law_rules_here", "_law_names", "_law_tree_here", "_law_part"] (spStands K 60)) (GX : CalleeD P w K mg base 60 "_law_spoiled" ["_law_tree_here", "_law_pool_here", "_law_many", "_law_digits_here"] (spSpoil K 60)) : FnOk P w K mg base CX0 61 f fd ["_law_script"] (spLaw K) := by
  refine F.ok scLaw (fun vs H Q E h => ?_) (fun cdv A outer s H vs Q E hr h => ?_)
  · obtain ⟨a, ns, rfl, _⟩ := h; rfl
  · obtain ⟨a, ns, rfl, hS, hl, q⟩ := h
    have hu := Nat.lt_of_succ_lt (hu_of hr)
    refine ⟨_, pss_cons (ps_set (i := 1) scLaw.nd rfl (Or.inl rfl) (pe_fn GC hr rfl (pa_cons (pv 0) (pa_cons pe_int pa_nil))))
      (pss_cons (ps_set (i := 2) scLaw.nd rfl (Or.inl rfl) (pe_fn GP hr rfl (pa_cons (pe_op op_fdiv (pv 1) pe_int) (pa_cons pe_int pa_nil))))
      (pss_cons (ps_set (i := 3) scLaw.nd rfl (Or.inl rfl) (pe_slice sl_list (pv 2) po_none (po_some (pe_op op_add pe_int (pe_op op_mod (pv 1) pe_int)))))
      (pss_cons (ps_set (i := 4) scLaw.nd rfl (Or.inl rfl) (pe_fn GR hr rfl (pa_cons (pe_op op_fdiv (pv 1) pe_int) (pa_cons (pv 3) (pa_cons (pe_slice sl_list (pv 2) (po_some pe_int) po_none) (pa_cons (pe_slice sl_list (pv 0) (po_some pe_int) (po_some pe_int)) pa_nil))))))
      (pss_cons (ps_set (i := 5) scLaw.nd rfl (Or.inl rfl) (pe_fn GC hr rfl (pa_cons (pv 0) (pa_cons pe_int pa_nil))))
      (pss_cons (ps_set (i := 6) scLaw.nd rfl (Or.inl rfl) (pe_fn GT hr rfl (pa_cons (pv 4) (pa_cons (pv 3) (pa_cons (pe_ix ix_list (pv 3) pe_int (fun _ _ => rfl)) (pa_cons (pe_fn GD hr rfl (pa_cons (pv 5) (pa_cons (pe_op op_add pe_int (pe_op op_mod (pv 5) pe_int)) pa_nil))) pa_nil))))))
      (pss_cons (ps_set (i := 7) scLaw.nd rfl (Or.inl rfl) (pe_fn GD hr rfl (pa_cons (pe_fn GC hr rfl (pa_cons (pv 0) (pa_cons pe_int pa_nil))) (pa_cons pe_int pa_nil))))
      (pss_cons (ps_set (i := 8) scLaw.nd rfl (Or.inl rfl) (pe_callTy call_list_of rfl T.lst boot_lst (pa_cons (pv 4) pa_nil)))
      (pss_cons (ps_for PassesOwn.never rfl (pi_range1 rfl T.rng (pa_cons pe_int pa_nil)) (pg_name (i := 9) scLaw.nd rfl (Or.inl rfl))
        (pss_cons (ps_set (i := 10) scLaw.nd rfl (Or.inl rfl) (pe_fn GS hr rfl (pa_cons (pv 8) (pa_cons (pv 6) (pa_cons (pe_ix ix_list (pv 3) pe_int (fun _ _ => rfl)) pa_nil)))))
        (pss_cons (ps_if (PW.pt (pw_or (pt_not (pt_val (pe_callB call_isinst rfl T.isi PyProof.Rows.boot_isinstance (pa_cons (pv 10) (pa_cons (pe_bltn (v := .ty "bool") rfl T.boo PyProof.Rows.boot_bool rfl) pa_nil))))) (pw_or (pt_cmpR op_ne (pv 10) (pe_fn GL hr rfl (pa_cons (pv 4) (pa_cons (pv 3) (pa_cons (pv 6) (pa_cons (pe_ix ix_list (pv 3) pe_int (fun _ _ => rfl)) pa_nil))))) (nomark _)) (pw_or1 (pt_cmpR (op_ne_same hu) (pv 8) (pv 4) (nomark _)))))) (pss_one (ps_ret pe_bl)) pss_nil)
        (pss_one (ps_set (i := 6) scLaw.nd rfl (Or.inl rfl) (pe_fn GX hr rfl (pa_cons (pv 6) (pa_cons (pv 2) (pa_cons (pe_callB call_len_seq rfl T.len PySem.boot_len (pa_cons (pv 4) pa_nil)) (pa_cons (pe_op op_cat (pe_slice sl_list (pv 7) (po_some (pe_op op_mul pe_int (pv 9))) (po_some (pe_op op_add (pe_op op_mul pe_int (pv 9)) pe_int))) (pe_lst (pa_cons pe_int (pa_cons pe_int (pa_cons pe_int pa_nil))))) pa_nil))))))))))
      (pss_one (ps_ret pe_bl)))))))))), ?_⟩
    refine ⟨_, rfl, a, ns, 0, rfl, hS, by omega, fun c => ?_⟩
    refine ⟨_, rfl, _, _, rfl, rfl, ⟨by decide, by decide⟩, c / 3, 6, rfl, by decide, fun PL zs H1 fP s1 e1 l1 _ nd1 => ?_⟩
    obtain ⟨k, hk⟩ : ∃ k : Nat, 1 + c % 3 = (k : Int) := ⟨(1 + c % 3).toNat, by omega⟩
    have hk1 : 1 ≤ k ∧ k ≤ 3 := by omega
    refine ⟨_, rfl, _, rfl, _, _, rfl, rfl, (by show (0 : Int) < 3; decide), _, _, rfl, rfl, _, rfl, PL, _, rfl, SqL.of e1, fun N hN => ?_⟩
    rw [show cutV (zs.map V.str) none (some (1 + c % 3)) = (zs.take k).map V.str by rw [hk]; exact cut_take zs k]
    have s2 := s1.trans (same_laid hN (.lst ((zs.take k).map V.str)))
    have eP2 := same_laid hN (.lst ((zs.take k).map V.str)) _ _ e1
    have eN2 : upd H1 N (.lst ((zs.take k).map V.str)) N = some (.lst ((zs.take k).map V.str)) := upd_same
    generalize upd H1 N (.lst ((zs.take k).map V.str)) = H2 at s2 eP2 eN2
    refine ⟨_, rfl, _, _, rfl, rfl, ⟨by decide, by decide⟩, _, rfl, _, rfl, 3, rfl, PL, _, rfl, SqL.of eP2, fun W hW => ?_⟩
    rw [show cutV (zs.map V.str) (some 3) none = (zs.drop 3).map V.str from cut_drop zs 3]
    have s3 := s2.trans (same_laid hW (.lst ((zs.drop 3).map V.str)))
    have eP3 := same_laid hW (.lst ((zs.drop 3).map V.str)) _ _ eP2
    have eN3 := same_laid hW (.lst ((zs.drop 3).map V.str)) _ _ eN2
    have eW3 : upd H2 W (.lst ((zs.drop 3).map V.str)) W = some (.lst ((zs.drop 3).map V.str)) := upd_same
    generalize upd H2 W (.lst ((zs.drop 3).map V.str)) = H3 at s3 eP3 eN3 eW3
    obtain ⟨cs, ec, _, hcl⟩ := cut_ints ns (some 3) (some 11)
    refine ⟨_, rfl, _, rfl, _, rfl, a, _, rfl, s3.seq hS, fun Cs hCs => ?_⟩
    rw [ec]
    have s4 := s3.trans (same_laid hCs (.lst (cs.map V.int)))
    have eP4 := same_laid hCs (.lst (cs.map V.int)) _ _ eP3
    have eN4 := same_laid hCs (.lst (cs.map V.int)) _ _ eN3
    have eW4 := same_laid hCs (.lst (cs.map V.int)) _ _ eW3
    have eC4 : upd H3 Cs (.lst (cs.map V.int)) Cs = some (.lst (cs.map V.int)) := upd_same
    generalize upd H3 Cs (.lst (cs.map V.int)) = H4 at s4 eP4 eN4 eW4 eC4
    have ndt : (zs.take k).Nodup := nd1.sublist (List.take_sublist _ _)
    have dj : ∀ x ∈ zs.take k, x ∉ zs.drop 3 := by
      intro x hx hw
      have h1 : (zs.take 3 ++ zs.drop 3).Nodup := by rw [List.take_append_drop]; exact nd1
      have h2 : x ∈ zs.take 3 := by
        rw [show zs.take k = (zs.take 3).take k by rw [List.take_take, Nat.min_eq_left hk1.2]] at hx
        exact List.mem_of_mem_take hx
      exact (List.nodup_append.mp h1).2.2 x h2 x hw rfl
    have lk : (zs.take k).length = k := by rw [List.length_take]; omega
    have lw : (zs.drop 3).length = 3 := by rw [List.length_drop]; omega
    generalize zs.take k = nms at eN4 ndt dj lk
    generalize zs.drop 3 = ws at eW4 dj lw
    refine ⟨c / 3, N, W, Cs, nms, ws, cs, rfl, eN4, eW4, SqL.of eC4, lw, by omega, by omega, by omega, fun R rs rules H5 fR s5 eR rl5 M lr => ?_⟩
    have s05 := s4.trans s5
    have eP5 := s5 _ _ eP4
    have eN5 := s5 _ _ eN4
    obtain ⟨nm, enm⟩ : ∃ nm, nms[0]? = some nm := ⟨nms[0]'(by omega), List.getElem?_eq_getElem (by omega)⟩
    have ati : atI (nms.map V.str) 0 = some (.str nm) := atI_nat (j := 0) (by rw [List.getElem?_map, enm]; rfl)
    have hnh : ∀ z, z ∈ nms ↔ z ∈ hd rules := fun z => ⟨fun h => by
      obtain ⟨i, hi⟩ := List.getElem?_of_mem h
      obtain ⟨ps, e, _⟩ := M.first i z hi
      exact hd_mem.mpr ⟨_, List.mem_of_getElem? e, rfl⟩, hd_in M⟩
    have hx : nm ∈ hd rules := (hnh nm).mp (List.mem_of_getElem? enm)
    have lr0 : 0 < rules.length := by
      obtain ⟨ps, e, _⟩ := M.first 0 nm enm
      exact (List.getElem?_eq_some_iff.mp e).1
    have lrs := Paired.length rl5
    refine ⟨_, rfl, a, ns, 1, rfl, s05.seq hS, by omega, fun c1 => ?_⟩
    obtain ⟨m, hm⟩ : ∃ m : Nat, 1 + c1 % 12 = (m : Int) := ⟨(1 + c1 % 12).toNat, by omega⟩
    have hm1 : 1 ≤ m ∧ m ≤ 12 := by omega
    refine ⟨_, rfl, _, rfl, _, rfl, N, _, _, _, rfl, rfl, SqL.of eN5, ati, ?_⟩
    refine ⟨_, rfl, _, rfl, _, _, rfl, rfl, (by show (0 : Int) < 12; decide), _, _, rfl, rfl, ?_⟩
    refine ⟨c1, m, (by show [V.int c1, V.int (1 + c1 % 12)] = _; rw [hm]), by omega, fun Dg dg H8 f8 s8 e8 l8 => ?_⟩
    refine ⟨R, N, Dg, rs, rules, nms, ws, 0, nm, dg, rfl, s8 _ _ eR, rl5.same s8, lr, s8 _ _ eN5, M, ndt, by omega, dj, enm, e8, by omega, by omega, fun tv t dg2 H9 sd9 e9 le9 tv9 is9 dp9 sz9 _ => ?_⟩
    have s59 : Same H5 H9 := fun b o hb => sd9 b o (fun z => by rw [z, f8] at hb; cases hb) (s8 b o hb)
    have hdp9 : dp t ≤ 51 := by omega
    have hsz9 : sz t ≤ 97000 := by omega
    refine ⟨_, rfl, a, ns, 2, rfl, (s05.trans s59).seq hS, by omega, fun c2 => ?_⟩
    refine ⟨c2, 45, rfl, by decide, fun Dh dh HA fA sA eA lA => ?_⟩
    have s5A := s59.trans sA
    refine ⟨_, rfl, R, _, rfl, .inl (SqL.of (s5A _ _ eR)), fun L1 hL1 => ?_⟩
    have kB := same_laid hL1 (.lst (rs.map V.ref))
    have eLB : upd HA L1 (.lst (rs.map V.ref)) L1 = some (.lst (rs.map V.ref)) := upd_same
    generalize upd HA L1 (.lst (rs.map V.ref)) = HB at kB eLB
    have s5B := s5A.trans kB
    have ePB := s5B _ _ eP5
    have eNB := s5B _ _ eN5
    have eRB := s5B _ _ eR
    have rlB := rl5.same s5B
    have eDB := kB _ _ eA
    have tvB := TrV.keep (fun _ _ z => (sA.trans kB).tup z) t tv9
    refine ⟨4, rfl, by decide, by decide, for_range (n := 4) (fun i σ H7 => ∃ (tv : V) (t : Tr) (y9 y10 : Option V), σ = [some (.ref a), some (.int c), some (.ref PL), some (.ref N), some (.ref R), some (.int c1), some tv, some (.ref Dh), some (.ref L1), y9, y10] ∧ Same HB H7 ∧ TrV K H7 t tv ∧ dp t ≤ 51 + i ∧ sz t ≤ 97000 + i) ⟨tv, t, _, _, rfl, fun _ _ h => h, tvB, by omega, by omega⟩ ?_ ?_⟩
    · rintro i σ H7 hi ⟨tv, t, y9, y10, rfl, s7, ht, hdp, hsz⟩
      refine goN ?_
      refine ⟨_, rfl, _, rfl, _, rfl, N, _, _, _, rfl, rfl, SqL.of (s7 _ _ eNB), ati, L1, rs, rules, tv, t, nm, isB rules t nm, rfl, SqL.of (s7 _ _ eLB), rlB.same s7, by omega, ht, by omega, hx, isB_iff, fun HC sC => ?_⟩
      have s7C := s7.trans sC
      refine ⟨_, rfl, .bl _, "bool", "bool", true, rfl, .bl _, kit_bb, true, rfl, ?_⟩
      refine iteF ?_
      refine ⟨_, rfl, _, rfl, _, rfl, _, rfl, _, rfl, N, _, _, _, rfl, rfl, SqL.of (s7C _ _ eNB), ati, R, N, rs, rules, nms, tv, t, nm, rfl, s7C _ _ eRB, rlB.same s7C, by omega, s7C _ _ eNB, hnh, TrV.keep (fun _ _ z => sC.tup z) t ht, by omega, by omega, fun HD sD => ?_⟩
      refine ⟨rfl, false, by simp, ?_⟩
      refine iteF ?_
      have s7D := s7C.trans sD
      refine ⟨_, rfl, _, rfl, L1, R, _, rfl, rfl, SqL.of (s7D _ _ eLB), SqL.of (s7D _ _ eRB), plain_refs _, false, rfl, ?_⟩
      refine iteF ?_
      obtain ⟨es, ees, _, hel⟩ := cut_ints dh (some (15 * (0 + (i : Int)))) (some (15 * (0 + (i : Int)) + 15))
      refine ⟨_, rfl, _, rfl, _, rfl, R, _, rfl, .inl (SqL.of (s7D _ _ eRB)), _, rfl, _, rfl, _, _, rfl, rfl, .inl ⟨by decide, by decide⟩, _, rfl, _, rfl, _, _, rfl, rfl, .inl ⟨by decide, by decide⟩, _, _, rfl, rfl, _, rfl, Dh, _, rfl, SqL.of (s7D _ _ eDB), fun D1 hD1 => ?_⟩
      rw [ees]
      have sE := s7D.trans (same_laid hD1 (.lst (es.map V.int)))
      have sEd := (sC.trans sD).trans (same_laid hD1 (.lst (es.map V.int)))
      have eE : upd HD D1 (.lst (es.map V.int)) D1 = some (.lst (es.map V.int)) := upd_same
      generalize upd HD D1 (.lst (es.map V.int)) = HE at sE sEd eE
      refine ⟨(by show 3 ≤ sizeLine; decide), fun D2 hD2 => ?_⟩
      have sF := sE.trans (same_laid hD2 (.lst [.int 1, .int 1, .int 1]))
      have sFd := sEd.trans (same_laid hD2 (.lst [.int 1, .int 1, .int 1]))
      have eE2 := same_laid hD2 (.lst [.int 1, .int 1, .int 1]) _ _ eE
      have eF : upd HE D2 (.lst [.int 1, .int 1, .int 1]) D2 = some (.lst [.int 1, .int 1, .int 1]) := upd_same
      generalize upd HE D2 (.lst [.int 1, .int 1, .int 1]) = HF at sF sFd eE2 eF
      refine ⟨D1, D2, _, _, rfl, rfl, eE2, eF, fits (by rw [List.length_map]; show es.length + 3 ≤ _; omega), fun D3 hD3 => ?_⟩
      rw [show es.map V.int ++ [.int 1, .int 1, .int 1] = (es ++ [1, 1, 1]).map V.int by rw [List.map_append]; rfl]
      have sG := sF.trans (same_laid hD3 (.lst ((es ++ [1, 1, 1]).map V.int)))
      have sGd := sFd.trans (same_laid hD3 (.lst ((es ++ [1, 1, 1]).map V.int)))
      have eG : upd HF D3 (.lst ((es ++ [1, 1, 1]).map V.int)) D3 = some (.lst ((es ++ [1, 1, 1]).map V.int)) := upd_same
      generalize upd HF D3 (.lst ((es ++ [1, 1, 1]).map V.int)) = HG at sG sGd eG
      refine ⟨tv, t, PL, D3, (rs.map V.ref).length, zs, es ++ [1, 1, 1], rfl, TrV.keep (fun _ _ z => sGd.tup z) t ht, by omega, by omega, sG _ _ ePB, l1, by rw [List.length_map]; omega, eG, by rw [List.length_append]; show 3 ≤ es.length + 3; omega, by rw [List.length_append]; show es.length + 3 + 60 ≤ 1000; omega, fun v' t' H' s' ht' hs' hd' => ?_⟩
      exact ⟨v', t', _, _, rfl, sG.trans s', ht', by omega, by omega⟩
    · rintro σ H7 ⟨tv, t, y9, y10, rfl, s7, _⟩
      exact q _
end
end K11

set_option Elab.async false
set_option linter.all false
set_option maxRecDepth 100000
set_option maxHeartbeats 4000000
namespace L2
open PySem
def HasD (K : PySem.W.Frag) (x : Str) (st : Stmt) : Prop := ∃ (g : Addr) (oc : Value) (od an : Option Addr) (sl : Array (Option Value)) (kV dc pm cd ct : Value), PySem.W.nsIn K mainGlobals x = some (some (.ref g)) ∧
  K.lookup g = some ⟨oc, od, .func (PySem.W.fnOf x x (defArgs st) (defBody st) (defScope st) .none kV dc pm an cd ct), sl⟩ ∧ PySem.W.codeIn K cd x = true ∧ PySem.W.keepIn K (.ref g) = true
theorem hasD_mk {K : PySem.W.Frag} {x : Str} {st : Stmt} {g : Addr} {oc : Value} {od an : Option Addr} {sl : Array (Option Value)} {kV dc pm cd ct : Value} (a : PySem.W.nsIn K mainGlobals x = some (some (.ref g)))
    (l : K.lookup g = some ⟨oc, od, .func (PySem.W.fnOf x x (defArgs st) (defBody st) (defScope st) .none kV dc pm an cd ct), sl⟩) (c : PySem.W.codeIn K cd x = true) (k : PySem.W.keepIn K (.ref g) = true) : HasD K x st := ⟨g, oc, od, an, sl, kV, dc, pm, cd, ct, a, l, c, k⟩
theorem HasD.get {K : PySem.W.Frag} {h : Heap} {mg : Str → Option Value} {x : Str} {st : Stmt} (X : K.In h) (G : h.Ns mainGlobals mg) (H : HasD K x st) : ∃ g gd, Fun K x x st g gd ∧ mg x = some (.ref g) := by
  obtain ⟨g, oc, od, an, sl, kV, dc, pm, cd, ct, a, l, c, k⟩ := H
  exact ⟨g, _, fun_mk (st := st) l c k, PySem.W.mg_of X G a⟩
end L2
namespace K11
open PySem L2 M11
structure Top (K : PySem.W.Frag) : Prop where
  h_heads_of : HasD K "heads_of" sHeads
  h_is_number_below : HasD K "is_number_below" sBelow
  h_is_rule_of : HasD K "is_rule_of" sRuleOf
  h_is_top_of : HasD K "is_top_of" sTop
  h_tree_stands : HasD K "tree_stands" sStand
  h__law_cell_at : HasD K "_law_cell_at" sCell
  h__law_stream : HasD K "_law_stream" sStream
  h__law_pool : HasD K "_law_pool" sPool
  h__law_digits : HasD K "_law_digits" sDigits
  h__law_rules : HasD K "_law_rules" sRules
  h__law_tree : HasD K "_law_tree" sTree
  h__law_stands : HasD K "_law_stands" sStands
  h__law_spoiled : HasD K "_law_spoiled" sSpoil
  hlaw : HasD K "law" sLaw
  zlen : PySem.W.nsIn K mainGlobals "len" = some none
  zrange : PySem.W.nsIn K mainGlobals "range" = some none
  zisinstance : PySem.W.nsIn K mainGlobals "isinstance" = some none
  ztuple : PySem.W.nsIn K mainGlobals "tuple" = some none
  zlist : PySem.W.nsIn K mainGlobals "list" = some none
  zdict : PySem.W.nsIn K mainGlobals "dict" = some none
  zall : PySem.W.nsIn K mainGlobals "all" = some none
  zany : PySem.W.nsIn K mainGlobals "any" = some none
  zstr : PySem.W.nsIn K mainGlobals "str" = some none
  zint : PySem.W.nsIn K mainGlobals "int" = some none
  zbool : PySem.W.nsIn K mainGlobals "bool" = some none
  zenumerate : PySem.W.nsIn K mainGlobals "enumerate" = some none
  zsum : PySem.W.nsIn K mainGlobals "sum" = some none
  zmax : PySem.W.nsIn K mainGlobals "max" = some none
  zmin : PySem.W.nsIn K mainGlobals "min" = some none
  zzip : PySem.W.nsIn K mainGlobals "zip" = some none
theorem all_mk {l : PySem.W.OpenLaw} {w : World} {K : PySem.W.Frag} {h : Heap} {mg : Str → Option Value} {fa : Addr} (X : K.In h) (G : h.Ns mainGlobals mg) (hfa : mg "law" = some (.ref fa)) (tp : Top K) :
    ∃ fd : FuncData, (∀ (s : Shared) (v : Value), BindsTo s fd ⟨[v], []⟩ [("_law_script", v)]) ∧ ∀ base : Heap, K.In base → base.Ns mainGlobals mg → FnOk l.prog w K mg base CX0 61 fa fd ["_law_script"] (spLaw K) := by
  have T : Txt mg := ⟨PySem.W.mg_none_of X G tp.zlen, PySem.W.mg_none_of X G tp.zrange, PySem.W.mg_none_of X G tp.zisinstance, PySem.W.mg_none_of X G tp.ztuple, PySem.W.mg_none_of X G tp.zlist, PySem.W.mg_none_of X G tp.zdict, PySem.W.mg_none_of X G tp.zall, PySem.W.mg_none_of X G tp.zany, PySem.W.mg_none_of X G tp.zstr, PySem.W.mg_none_of X G tp.zint, PySem.W.mg_none_of X G tp.zbool, PySem.W.mg_none_of X G tp.zenumerate, PySem.W.mg_none_of X G tp.zsum, PySem.W.mg_none_of X G tp.zmax, PySem.W.mg_none_of X G tp.zmin⟩
  have hZ : mg "zip" = none := PySem.W.mg_none_of X G tp.zzip
  obtain ⟨f_heads_of, d_heads_of, F_heads_of, m_heads_of⟩ := tp.h_heads_of.get X G
  have b_heads_of := F_heads_of.binds (ps := ["rules"]) fun _ _ _ _ _ _ us hl => match us, hl with | [_], _ => rfl
  obtain ⟨f_is_number_below, d_is_number_below, F_is_number_below, m_is_number_below⟩ := tp.h_is_number_below.get X G
  have b_is_number_below := F_is_number_below.binds (ps := ["number", "many"]) fun _ _ _ _ _ _ us hl => match us, hl with | [_, _], _ => rfl
  obtain ⟨f_is_rule_of, d_is_rule_of, F_is_rule_of, m_is_rule_of⟩ := tp.h_is_rule_of.get X G
  have b_is_rule_of := F_is_rule_of.binds (ps := ["rules", "number", "name"]) fun _ _ _ _ _ _ us hl => match us, hl with | [_, _, _], _ => rfl
  obtain ⟨f_is_top_of, d_is_top_of, F_is_top_of, m_is_top_of⟩ := tp.h_is_top_of.get X G
  have b_is_top_of := F_is_top_of.binds (ps := ["rules", "tree", "name"]) fun _ _ _ _ _ _ us hl => match us, hl with | [_, _, _], _ => rfl
  obtain ⟨f_tree_stands, d_tree_stands, F_tree_stands, m_tree_stands⟩ := tp.h_tree_stands.get X G
  have b_tree_stands := F_tree_stands.binds (ps := ["rules", "tree", "name"]) fun _ _ _ _ _ _ us hl => match us, hl with | [_, _, _], _ => rfl
  obtain ⟨f__law_cell_at, d__law_cell_at, F__law_cell_at, m__law_cell_at⟩ := tp.h__law_cell_at.get X G
  have b__law_cell_at := F__law_cell_at.binds (ps := ["_law_script", "_law_k"]) fun _ _ _ _ _ _ us hl => match us, hl with | [_, _], _ => rfl
  obtain ⟨f__law_stream, d__law_stream, F__law_stream, m__law_stream⟩ := tp.h__law_stream.get X G
  have b__law_stream := F__law_stream.binds (ps := ["_law_cell", "_law_many"]) fun _ _ _ _ _ _ us hl => match us, hl with | [_, _], _ => rfl
  obtain ⟨f__law_pool, d__law_pool, F__law_pool, m__law_pool⟩ := tp.h__law_pool.get X G
  have b__law_pool := F__law_pool.binds (ps := ["_law_cell", "_law_many"]) fun _ _ _ _ _ _ us hl => match us, hl with | [_, _], _ => rfl
  obtain ⟨f__law_digits, d__law_digits, F__law_digits, m__law_digits⟩ := tp.h__law_digits.get X G
  have b__law_digits := F__law_digits.binds (ps := ["_law_cell", "_law_many"]) fun _ _ _ _ _ _ us hl => match us, hl with | [_, _], _ => rfl
  obtain ⟨f__law_rules, d__law_rules, F__law_rules, m__law_rules⟩ := tp.h__law_rules.get X G
  have b__law_rules := F__law_rules.binds (ps := ["_law_cell", "_law_names", "_law_words", "_law_cells"]) fun _ _ _ _ _ _ us hl => match us, hl with | [_, _, _, _], _ => rfl
  obtain ⟨f__law_tree, d__law_tree, F__law_tree, m__law_tree⟩ := tp.h__law_tree.get X G
  have b__law_tree := F__law_tree.binds (ps := ["_law_rules_here", "_law_names", "_law_name", "_law_digits_here"]) fun _ _ _ _ _ _ us hl => match us, hl with | [_, _, _, _], _ => rfl
  obtain ⟨f__law_stands, d__law_stands, F__law_stands, m__law_stands⟩ := tp.h__law_stands.get X G
  have b__law_stands := F__law_stands.binds (ps := ["_law_rules_here", "_law_names", "_law_tree_here", "_law_part"]) fun _ _ _ _ _ _ us hl => match us, hl with | [_, _, _, _], _ => rfl
  obtain ⟨f__law_spoiled, d__law_spoiled, F__law_spoiled, m__law_spoiled⟩ := tp.h__law_spoiled.get X G
  have b__law_spoiled := F__law_spoiled.binds (ps := ["_law_tree_here", "_law_pool_here", "_law_many", "_law_digits_here"]) fun _ _ _ _ _ _ us hl => match us, hl with | [_, _, _, _], _ => rfl
  obtain ⟨f9, d9, F9, m9⟩ := tp.hlaw.get X G
  have e := hfa.symm.trans m9
  cases e
  obtain ⟨oc, od, kV, doc, pm, an, cdv, ct, osl, eL, lk, hcd⟩ := F9.ex
  refine ⟨d9, fun s v => ?_, fun base _ _ => ?_⟩
  · rw [eL]; exact .of_eq rfl
  have c_heads_of : CalleeD l.prog w K mg base 1 "heads_of" ["rules"] (spHeads K) := ⟨f_heads_of, d_heads_of, ok_heads F_heads_of T, b_heads_of, F_heads_of.kp, m_heads_of⟩
  have c_is_number_below : CalleeD l.prog w K mg base 1 "is_number_below" ["number", "many"] spBelow := ⟨f_is_number_below, d_is_number_below, ok_below F_is_number_below T, b_is_number_below, F_is_number_below.kp, m_is_number_below⟩
  have c_is_rule_of : CalleeD l.prog w K mg base 2 "is_rule_of" ["rules", "number", "name"] (spRuleOf K) := ⟨f_is_rule_of, d_is_rule_of, ok_ruleOf F_is_rule_of T c_is_number_below, b_is_rule_of, F_is_rule_of.kp, m_is_rule_of⟩
  have c_is_top_of : CalleeD l.prog w K mg base 3 "is_top_of" ["rules", "tree", "name"] (spTop K) := ⟨f_is_top_of, d_is_top_of, ok_top F_is_top_of T c_is_rule_of, b_is_top_of, F_is_top_of.kp, m_is_top_of⟩
  have c_tree_stands : CalleeD l.prog w K mg base 4 "tree_stands" ["rules", "tree", "name"] (spStand K) := ⟨f_tree_stands, d_tree_stands, ok_stand F_tree_stands T hZ (c_heads_of.mono (by decide)) c_is_top_of, b_tree_stands, F_tree_stands.kp, m_tree_stands⟩
  have c__law_cell_at : CalleeD l.prog w K mg base 1 "_law_cell_at" ["_law_script", "_law_k"] (spCell K) := ⟨f__law_cell_at, d__law_cell_at, ok_cell F__law_cell_at T, b__law_cell_at, F__law_cell_at.kp, m__law_cell_at⟩
  have c__law_stream : CalleeD l.prog w K mg base 1 "_law_stream" ["_law_cell", "_law_many"] spStream := ⟨f__law_stream, d__law_stream, ok_stream F__law_stream T, b__law_stream, F__law_stream.kp, m__law_stream⟩
  have c__law_pool : CalleeD l.prog w K mg base 2 "_law_pool" ["_law_cell", "_law_many"] spPool := ⟨f__law_pool, d__law_pool, ok_pool F__law_pool T c__law_stream, b__law_pool, F__law_pool.kp, m__law_pool⟩
  have c__law_digits : CalleeD l.prog w K mg base 2 "_law_digits" ["_law_cell", "_law_many"] spDigits := ⟨f__law_digits, d__law_digits, ok_digits F__law_digits T c__law_stream, b__law_digits, F__law_digits.kp, m__law_digits⟩
  have c__law_rules : CalleeD l.prog w K mg base 3 "_law_rules" ["_law_cell", "_law_names", "_law_words", "_law_cells"] (spRules K) := ⟨f__law_rules, d__law_rules, ok_rules F__law_rules T (c__law_stream.mono (by decide)) c__law_digits, b__law_rules, F__law_rules.kp, m__law_rules⟩
  have c__law_tree : CalleeD l.prog w K mg base 60 "_law_tree" ["_law_rules_here", "_law_names", "_law_name", "_law_digits_here"] (spTree K 60) := ⟨f__law_tree, d__law_tree, ok_tree F__law_tree T b__law_tree m__law_tree 60, b__law_tree, F__law_tree.kp, m__law_tree⟩
  have c__law_stands : CalleeD l.prog w K mg base 60 "_law_stands" ["_law_rules_here", "_law_names", "_law_tree_here", "_law_part"] (spStands K 60) := ⟨f__law_stands, d__law_stands, ok_stands F__law_stands T hZ b__law_stands m__law_stands 60, b__law_stands, F__law_stands.kp, m__law_stands⟩
  have c__law_spoiled : CalleeD l.prog w K mg base 60 "_law_spoiled" ["_law_tree_here", "_law_pool_here", "_law_many", "_law_digits_here"] (spSpoil K 60) := ⟨f__law_spoiled, d__law_spoiled, ok_spoil F__law_spoiled T b__law_spoiled m__law_spoiled 60, b__law_spoiled, F__law_spoiled.kp, m__law_spoiled⟩
  exact ok_law F9 T (c__law_cell_at.mono (by decide)) (c__law_pool.mono (by decide)) (c__law_rules.mono (by decide)) (c__law_digits.mono (by decide)) c__law_tree (c_tree_stands.mono (by decide)) c__law_stands c__law_spoiled
theorem walk {l : PySem.W.OpenLaw} {q : Program} {loose : List Str} {XP : (Str → Option Value) → Heap → Prop} {YP : World → Heap → Prop} {d : DefRec} {K : Params → PySem.W.Frag} (hn : l.most = some 63) (hdf : d.params.defaults = [])
    (hY : ∀ (w : World) (h : Heap), YP w h → (K w.params).In h)
    (F : ∀ (w : World) (mg : Str → Option Value) (fa : Addr) (h : Heap), (K w.params).In h → h.Ns mainGlobals mg → mg d.name = some (.ref fa) →
      ∃ fd : FuncData, (∀ (s : Shared) (u : Value), BindsTo s fd ⟨[u], []⟩ [("_law_script", u)]) ∧ ∀ base : Heap, (K w.params).In base → base.Ns mainGlobals mg → FnOk l.prog w (K w.params) mg base CX0 61 fa fd ["_law_script"] (spLaw (K w.params))) :
    PySem.W.WalkO q loose XP YP l.row.toRowW d [] (fun f vs => PySem.call f vs) :=
  L2.walk_of (n := 63) (k := 61) (x := "_law_script") (CX := fun _ => CX0) (sp := fun w => spLaw (K w.params)) hn (by decide) hdf ⟨rfl, by decide, by decide⟩ hY F (fun _ _ a ns hl _ hS => ⟨a, ns, rfl, hS, hl, fun _ => rfl⟩) fun _ _ _ _ _ z => z
end K11

set_option Elab.async false
set_option linter.all false
set_option maxRecDepth 100000
set_option maxHeartbeats 4000000
open PySem PySem.W PyProof.Rows
set_option maxRecDepth 100000 in
set_option maxHeartbeats 0 in
theorem PySem.Challenge.cw_wright_k29_trees_by_anybody_holds : PySem.Challenge.rw_wright_k29_trees_by_anybody.Holds := by
  w_on; o_law; k_head; (case hw => w_witness2)
  k_fill
  refine K11.walk (l := PySem.Challenge.rw_wright_k29_trees_by_anybody) rfl rfl (fun w h Y => PySem.W.kIn_of Y) ?F
  case F =>
    intro w mg fa h KX G hmg
    refine' K11.all_mk KX G hmg ?tp
    constructor
    all_goals first | (refine' L2.hasD_mk ?a ?l ?c ?k; (case a => k_is); (case l => k_is); (case c => k_is); (case k => k_is)) | k_is
