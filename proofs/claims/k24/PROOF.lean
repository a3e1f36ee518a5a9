import PyProof.Rows.All
import Wide.All
import OpenK.AllK
import Wide.FinOn
import Lean
import PyProof.EqAt
import PyProof.EqKinds
import PyProof.TupleCall
import PyProof.IsiH_list
import PyProof.RaisesAny
import KE.KDictOf
import PyProof.CollectWalk
import PyProof.CompFree
import KE.KDictList
import PyProof.NeKinds
import PyProof.ConsumeWalk
import PyProof.StrBlockI
import PyProof.EnumFor
import PyProof.TupleIter
import PyProof.EnumMake
import PyProof.DictUpdate
import PyProof.SeqI3
import PyProof.DictWalks
import PyProof.ConsumeS
import PyProof.Rows.CallKwBuiltin
import PyProof.AutoListH
import PyProof.ZipIter
import PyProof.ListNew
import KE.KRevSl
import PyProof.StrOps
import PyProof.StrOps2
import PyProof.Rows.SetFrom
import KE.KLam
import KE.KNestM
import KE.KSortKey
import KE.KDictLaws
import PyProof.MinMaxWalk
import PySem.Challenge.RW_wright_k24_whole_begins_let_by
set_option Elab.async false
set_option linter.all false
set_option maxRecDepth 100000
namespace L2
open PySem PySem.Spec PyProof.Rows
abbrev Key := Sum Int Str
def keyIs : Key → Value → Bool
  | .inl k, v => Value.isInt k v
  | .inr x, v => Value.isStrOf x v
def keyH (w : World) : Key → Int
  | .inl k => hashInt k
  | .inr x => hashStr w x
theorem keyIs_shape : ∀ {k : Key} {v : Value}, keyIs k v = true → (∃ i t, k = Sum.inl i ∧ v = Value.int i t) ∨ (∃ x t, k = Sum.inr x ∧ v = Value.str x t)
  | .inl i, v, h => by
    obtain ⟨t, e⟩ := Value.isInt_shape (k := i) (v := v) h
    exact .inl ⟨i, t, rfl, e⟩
  | .inr x, v, h => by
    obtain ⟨t, e⟩ := Value.isStrOf_shape (x := x) (v := v) h
    exact .inr ⟨x, t, rfl, e⟩
theorem keyIs_int (i : Int) (t : Tok) : keyIs (.inl i) (.int i t) = true := by simp [keyIs, Value.isInt]
theorem keyIs_str (x : Str) (t : Tok) : keyIs (.inr x) (.str x t) = true := by simp [keyIs, Value.isStrOf]
theorem key_ll (a b : Int) : decide ((Sum.inl a : Key) = Sum.inl b) = (a == b) := by
  by_cases e : a = b
  · subst e; simp
  · have h : ¬ (Sum.inl a : Key) = Sum.inl b := fun q => e (Sum.inl.inj q)
    rw [decide_eq_false h]
    exact (beq_eq_false_iff_ne.mpr e).symm
theorem key_rr (a b : Str) : decide ((Sum.inr a : Key) = Sum.inr b) = decide (a = b) := by
  by_cases e : a = b
  · subst e; simp
  · have h : ¬ (Sum.inr a : Key) = Sum.inr b := fun q => e (Sum.inr.inj q)
    rw [decide_eq_false h, decide_eq_false e]
theorem key_lr (a : Int) (b : Str) : decide ((Sum.inl a : Key) = Sum.inr b) = false := decide_eq_false (fun q => nomatch q)
theorem key_rl (a : Str) (b : Int) : decide ((Sum.inr a : Key) = Sum.inl b) = false := decide_eq_false (fun q => nomatch q)
def mixKind (prog : Program) (w : World) : PySem.KeyKind prog w Key where
  is := keyIs
  hash := keyH w
  inj := fun v a b ha hb => by
    rcases keyIs_shape ha with ⟨i, t, rfl, rfl⟩ | ⟨x, t, rfl, rfl⟩
    · rcases keyIs_shape hb with ⟨j, u, rfl, e⟩ | ⟨y, u, rfl, e⟩
      · injection e with e1 _; rw [e1]
      · exact nomatch e
    · rcases keyIs_shape hb with ⟨j, u, rfl, e⟩ | ⟨y, u, rfl, e⟩
      · exact nomatch e
      · injection e with e1 _; rw [e1]
  byValue := fun k v h => by
    rcases keyIs_shape h with ⟨i, t, rfl, rfl⟩ | ⟨x, t, rfl, rfl⟩ <;> rfl
  pyHash := fun hv h => by
    rcases keyIs_shape hv with ⟨i, t, rfl, rfl⟩ | ⟨x, t, rfl, rfl⟩
    · exact wpAny_pyHash_int h
    · exact wpAny_pyHash_str h
  eqBool := fun hu hv h => by
    rcases keyIs_shape hu with ⟨i, t, rfl, rfl⟩ | ⟨x, t, rfl, rfl⟩
    · rcases keyIs_shape hv with ⟨j, u, rfl, rfl⟩ | ⟨y, u, rfl, rfl⟩
      · rw [key_ll] at h; exact wpAny_eqBool_int h
      · rw [key_lr] at h; exact SeqAt.EqAt.int_str i t y u _ _ _ _ h
    · rcases keyIs_shape hv with ⟨j, u, rfl, rfl⟩ | ⟨y, u, rfl, rfl⟩
      · rw [key_rl] at h; exact SeqAt.EqAt.str_int x t j u _ _ _ _ h
      · rw [key_rr] at h; exact wpAny_eqBool_str h
  «strs» := fun k x t v h => by
    rcases keyIs_shape h with ⟨i, u, rfl, e⟩ | ⟨y, u, rfl, e⟩
    · exact nomatch e
    · injection e with e1 _
      subst e1
      cases v <;> rfl
theorem mixKind_int (prog : Program) (w : World) (i : Int) (t : Tok) : (mixKind prog w).is (.inl i) (.int i t) = true := keyIs_int i t
theorem mixKind_str (prog : Program) (w : World) (x : Str) (t : Tok) : (mixKind prog w).is (.inr x) (.str x t) = true := keyIs_str x t
end L2
namespace L2
open PySem PySem.Spec PyProof.Rows
inductive V where
  | non | bl (b : Bool) | int (i : Int) | str (x : Str) | byt (b : Array UInt8) | flt (b : UInt64) | ref (a : Addr) | ty (n : String)
  deriving DecidableEq
def RelV : V → Value → Prop
  | .non, u => u = Value.none
  | .bl b, u => u = Value.bool b
  | .int i, u => ∃ t, u = Value.int i t
  | .str x, u => ∃ t, u = Value.str x t
  | .byt b, u => ∃ t, u = Value.bytes b t
  | .flt b, u => ∃ t, u = Value.float b t
  | .ref a, u => u = Value.ref a
  | .ty n, u => u = Value.type n
abbrev Vals : List V → List Value → Prop := Paired RelV
theorem Vals.length {xs : List V} {us : List Value} (r : Vals xs us) : xs.length = us.length := Paired.length r
theorem Vals.get : ∀ {xs : List V} {us : List Value} {i : Nat} {x : V}, Vals xs us → xs[i]? = some x → ∃ u, us[i]? = some u ∧ RelV x u
  | _, _, _, _, .nil, e => by simp at e
  | _, _, 0, _, .cons r _, e => by simp at e; subst e; exact ⟨_, rfl, r⟩
  | _, _, i + 1, x, .cons _ t, e => by
    obtain ⟨u, h1, h2⟩ := Vals.get (i := i) (x := x) t (by simpa using e)
    exact ⟨u, by simpa using h1, h2⟩
theorem Vals.set {x : V} {u : Value} (r : RelV x u) : ∀ {xs : List V} {us : List Value} (i : Nat), Vals xs us → Vals (xs.set i x) (us.set i u)
  | _, _, _, .nil => .nil
  | _, _, 0, .cons _ t => .cons r t
  | _, _, i + 1, .cons q t => .cons q (Vals.set r i t)
theorem Vals.append : ∀ {xs ys : List V} {us ws : List Value}, Vals xs us → Vals ys ws → Vals (xs ++ ys) (us ++ ws)
  | _, _, _, _, .nil, s => s
  | _, _, _, _, .cons r t, s => .cons r (Vals.append t s)
theorem Vals.take : ∀ {xs : List V} {us : List Value} (n : Nat), Vals xs us → Vals (xs.take n) (us.take n)
  | _, _, 0, _ => .nil
  | _, _, _ + 1, .nil => .nil
  | _, _, n + 1, .cons r t => .cons r (Vals.take n t)
theorem Vals.drop : ∀ {xs : List V} {us : List Value} (n : Nat), Vals xs us → Vals (xs.drop n) (us.drop n)
  | _, _, 0, r => r
  | _, _, _ + 1, .nil => .nil
  | _, _, n + 1, .cons _ t => Vals.drop n t
def RelO : Option V → Option Value → Prop
  | some v, some u => RelV v u
  | none, none => True
  | _, _ => False
def KV {κ : Type} : List (κ × V) → List (κ × Value) → Prop := Paired fun (p : κ × V) (q : κ × Value) => p.1 = q.1 ∧ RelV p.2 q.2
def kV : Key → V
  | .inl i => .int i
  | .inr x => .str x
inductive HO where
  /-- a list -/
  | lst (xs : List V)
  /-- a tuple (never changes) -/
  | tup (xs : List V)
  /-- a dict whose keys are ints and texts; one whose keys are tuples of ints and texts (the empty one is both) -/
  | dK (kvs : List (Key × V)) | dT (kvs : List (List Key × V))
  /-- a set of ints: its members, its size -/
  | set (S : Int → Bool) (n : Nat)
  /-- an instance of the class at C, its dict at dx, its attributes -/
  | ins (C dx : Addr) (fs : List (Str × V))
  /-- the dict of the instance at x -/
  | own (x : Addr)
  /-- the dict of an exception -/
  | xd (fs : List (Str × V))
  /-- a bound method, f of x -/
  | met (f x : Addr)
  /-- a range object lo, lo + 1, .. below hi -/
  | rng (lo hi : Int)
  /-- a thing that is known to the object (the script; a dict while a loop walks it): read, never written while it is so -/
  | frz (o : Obj) (u : HO)
  /-- a code object's table -/
  | tbl (ps : Array Value)
  /-- any other thing, by what is true of its one object (a def of one's own: SetO a S n := HO.ext fun h => ..) -/
  | ext (φ : Heap → Prop)
abbrev Hp := Addr → Option HO
def upd (H : Hp) (a : Addr) (o : HO) : Hp := fun b => if b = a then some o else H b
theorem upd_same {H : Hp} {a : Addr} {o : HO} : upd H a o a = some o := by unfold upd; rw [if_pos rfl]
theorem upd_ne {H : Hp} {a b : Addr} {o : HO} (h : b ≠ a) : upd H a o b = H b := by unfold upd; rw [if_neg h]
theorem upd_upd {H : Hp} {a : Addr} {o u : HO} : upd (upd H a o) a u = upd H a u := by
  funext b; unfold upd; split <;> rfl
theorem ne_of {H : Hp} {a b : Addr} {o u : HO} (h : H a = some o) (h' : H b = some u) (d : o ≠ u) : a ≠ b := by
  intro e; subst e; rw [h] at h'; exact d (Option.some.inj h')
theorem ne_of_none {H : Hp} {a b : Addr} {o : HO} (h : H a = some o) (h' : H b = none) : a ≠ b := by
  intro e; subst e; rw [h] at h'; cases h'
section
variable (P : Program) (w : World)
def ObjOk (H : Hp) (h : Heap) (a : Addr) : HO → Prop
  | .lst xs => xs.length ≤ sizeLine ∧ ∃ (its : List Value) (n : Nat), Vals xs its ∧ h.get? a = some { cls := .type "list", data := .seq its.toArray n }
  | .tup xs => xs.length ≤ sizeLine ∧ ∃ its : List Value, Vals xs its ∧ IsTup h a its.toArray
  | .dK kvs => kvs.length ≤ sizeLine ∧ (a == sysModules) = false ∧ ∃ vs, KV kvs vs ∧ h.DictOf (mixKind P w) a vs
  | .dT kvs => kvs.length ≤ sizeLine ∧ (a == sysModules) = false ∧ ∃ xs : List (List Key × Addr × Value),
      Paired (fun (p : List Key × V) (q : List Key × Addr × Value) => p.1 = q.1 ∧ H q.2.1 = some (.tup (p.1.map kV)) ∧ RelV p.2 q.2.2) kvs xs ∧
      ∃ o es ep, h.get? a = some o ∧ o.ExactDict ∧ o.data = .dict es ep ∧ es.toList = xs.map (entryOfKey (tupleKind (mixKind P w))) ∧ (xs.map (·.1)).Nodup
  | .set S n => h.SetOf (intKind P w) a S n
  | .ins C dx fs => H dx = some (.own a) ∧ fs.length ≤ 1000 ∧ dx ≠ a ∧ h.get? a = some (PySem.W.instObj C dx) ∧
      ∃ mA, h.Ns1 dx mA ∧ (∀ f, RelO (fs.lookup f) (mA f)) ∧ PySem.Within mA (fs.map (·.1))
  | .own _ => ∃ o, h.get? a = some o
  | .xd fs => ∃ mA, h.Ns1 a mA ∧ ∀ f, RelO (fs.lookup f) (mA f)
  | .rng lo hi => ∃ t u v, h.get? a = some { cls := .type "range", data := .fields #[.int lo t, .int hi u, .int 1 v] }
  | .frz o u => h.get? a = some o ∧ ObjOk H h a u
  | .tbl ps => h.get? a = some { cls := .none, data := .fields ps }
  | .met f x => h.get? a = some (PySem.W.methodObj (.ref f) (.ref x))
  | .ext φ => φ h ∧ (∃ o, h.get? a = some o) ∧ ∀ h1 h2 : Heap, φ h1 → (∀ o, h1.get? a = some o → h2.get? a = some o) → φ h2
def HOk (H : Hp) (h : Heap) : Prop := ∀ a o, H a = some o → ObjOk P w H h a o
end
section
variable {P : Program} {w : World} {H H' : Hp} {h h' : Heap} {a : Addr} {o : HO}
theorem ObjOk.lt (x : ObjOk P w H h a o) : a < h.objs.size := by
  cases o with
  | lst xs => obtain ⟨_, _, _, _, e⟩ := x; exact Heap.lt_size e
  | tup xs => obtain ⟨_, _, _, p⟩ := x; exact p.lt
  | dK kvs => obtain ⟨_, _, _, _, o, _, _, e, _⟩ := x; exact Heap.lt_size e
  | dT kvs => obtain ⟨_, _, _, _, o, _, _, e, _⟩ := x; exact Heap.lt_size e
  | set S n => obtain ⟨o, _, _, _, e, _⟩ := x; exact Heap.lt_size e
  | ins C dx fs => obtain ⟨_, _, _, e, _⟩ := x; exact Heap.lt_size e
  | own y => obtain ⟨_, e⟩ := x; exact Heap.lt_size e
  | xd fs => obtain ⟨_, ⟨_, _, _, e, _⟩, _⟩ := x; exact Heap.lt_size e
  | rng lo hi => obtain ⟨_, _, _, e⟩ := x; exact Heap.lt_size e
  | frz ob u => obtain ⟨e, _⟩ := x; exact Heap.lt_size e
  | tbl ps => exact Heap.lt_size (show h.get? a = some _ from x)
  | met f y => exact Heap.lt_size (show h.get? a = some _ from x)
  | ext φ => obtain ⟨_, ⟨_, e⟩, _⟩ := x; exact Heap.lt_size e
theorem Paired.mapP {α β : Type} {F G : α → β → Prop} : ∀ {l₁ : List α} {l₂ : List β}, Paired F l₁ l₂ → (∀ a b, F a b → G a b) → Paired G l₁ l₂
  | _, _, .nil, _ => .nil
  | _, _, .cons r t, f => .cons (f _ _ r) (Paired.mapP t f)
theorem ObjOk.stay (x : ObjOk P w H h a o) (k : ∀ b u, (b = a ∨ H b = some (.own a)) → h.get? b = some u → h'.get? b = some u)
    (ho : ∀ b, H b = some (.own a) → H' b = some (.own a)) (ht : ∀ b xs, H b = some (.tup xs) → H' b = some (.tup xs)) : ObjOk P w H' h' a o := by
  induction o with
  | lst xs => obtain ⟨z, its, n, r, e⟩ := x; exact ⟨z, its, n, r, k _ _ (.inl rfl) e⟩
  | tup xs => obtain ⟨z, its, r, ob, e, c⟩ := x; exact ⟨z, its, r, ob, k _ _ (.inl rfl) e, c⟩
  | dK kvs => obtain ⟨z, y, vs, r, ob, es, ep, e, c⟩ := x; exact ⟨z, y, vs, r, ob, es, ep, k _ _ (.inl rfl) e, c⟩
  | dT kvs =>
    obtain ⟨z, y, xs, r, ob, es, ep, e, c⟩ := x
    exact ⟨z, y, xs, Paired.mapP r fun p q z => ⟨z.1, ht _ _ z.2.1, z.2.2⟩, ob, es, ep, k _ _ (.inl rfl) e, c⟩
  | set S n => obtain ⟨ob, es, ep, t, e, c⟩ := x; exact ⟨ob, es, ep, t, k _ _ (.inl rfl) e, c⟩
  | ins C dx fs =>
    obtain ⟨d, z, ne, e, mA, ⟨od, es, ep, e2, c⟩, r⟩ := x
    exact ⟨ho _ d, z, ne, k _ _ (.inl rfl) e, mA, ⟨od, es, ep, k _ _ (.inr d) e2, c⟩, r⟩
  | own y => obtain ⟨ob, e⟩ := x; exact ⟨ob, k _ _ (.inl rfl) e⟩
  | xd fs => obtain ⟨mA, ⟨od, es, ep, e, c⟩, r⟩ := x; exact ⟨mA, ⟨od, es, ep, k _ _ (.inl rfl) e, c⟩, r⟩
  | rng lo hi => obtain ⟨t, u, v, e⟩ := x; exact ⟨t, u, v, k _ _ (.inl rfl) e⟩
  | frz ob u ih => obtain ⟨e, q⟩ := x; exact ⟨k _ _ (.inl rfl) e, ih q⟩
  | tbl ps =>
    have e : h.get? a = some { cls := .none, data := .fields ps } := x
    show h'.get? a = some { cls := .none, data := .fields ps }
    exact k a _ (.inl rfl) e
  | met f y =>
    have e : h.get? a = some (PySem.W.methodObj (.ref f) (.ref y)) := x
    show h'.get? a = some (PySem.W.methodObj (.ref f) (.ref y))
    exact k a _ (.inl rfl) e
  | ext φ => obtain ⟨p, ⟨o, e⟩, st⟩ := x; exact ⟨st _ _ p fun o q => k _ _ (.inl rfl) q, ⟨o, k _ _ (.inl rfl) e⟩, st⟩
theorem HOk.lt (x : HOk P w H h) (e : H a = some o) : a < h.objs.size := (x a o e).lt
theorem HOk.fresh (x : HOk P w H h) (e : h.objs.size ≤ a) : H a = none := by
  cases q : H a with
  | none => rfl
  | some u => exact absurd (Nat.lt_of_lt_of_le (x.lt q) e) (Nat.lt_irrefl _)
theorem HOk.kept (x : HOk P w H h) (k : ∀ b u, h.get? b = some u → h'.get? b = some u) : HOk P w H h' := fun a o e =>
  (x a o e).stay (fun b u _ q => k b u q) (fun _ q => q) fun _ _ q => q
theorem HOk.laid (x : HOk P w H h) (k : ∀ b u, h.get? b = some u → h'.get? b = some u) (hp : h.objs.size ≤ a) (new : ObjOk P w (upd H a o) h' a o) : HOk P w (upd H a o) h' := fun b u e => by
  have hn := x.fresh hp
  by_cases hb : b = a
  · subst hb; rw [upd_same] at e; cases e; exact new
  · rw [upd_ne hb] at e
    exact (x b u e).stay (fun c v _ q => k c v q) (fun c q => by rw [upd_ne (ne_of_none q hn)]; exact q) fun c xs q => by rw [upd_ne (ne_of_none q hn)]; exact q
end
def Rd (H : Hp) (a : Addr) (u : HO) : Prop := H a = some u ∨ ∃ o, H a = some (.frz o u)
theorem Rd.of {H : Hp} {a : Addr} {u : HO} (h : H a = some u) : Rd H a u := .inl h
theorem Rd.ok {P : Program} {w : World} {H : Hp} {h : Heap} {a : Addr} {u : HO} (r : Rd H a u) (x : HOk P w H h) : ObjOk P w H h a u := by
  rcases r with r | ⟨o, r⟩
  · exact x a u r
  · obtain ⟨_, q⟩ := x a _ r
    exact q
def Mut : Option HO → Prop
  | some (.lst _) => True
  | some (.dK _) => True
  | some (.dT _) => True
  | some (.set _ _) => True
  | some (.ins _ _ _) => True
  | some (.ext _) => True
  | _ => False
section
variable {P : Program} {w : World} {H : Hp} {h h' : Heap} {x e : Addr} {o' : HO}
theorem HOk.write (ok : HOk P w H h) (mu : Mut (H x)) (he : e = x ∨ H e = some (.own x)) (k : ∀ b u, b ≠ e → h.get? b = some u → h'.get? b = some u) (heo : ∃ u, h'.get? e = some u)
    (new : ObjOk P w (upd H x o') h' x o') : HOk P w (upd H x o') h' := fun b u q => by
  have nown : ∀ c y, H c = some (.own y) → c ≠ x := fun c y r z => by subst z; rw [r] at mu; exact mu
  have ntup : ∀ c xs, H c = some (.tup xs) → c ≠ x := fun c xs r z => by subst z; rw [r] at mu; exact mu
  by_cases hb : b = x
  · subst hb; rw [upd_same] at q; cases q; exact new
  · rw [upd_ne hb] at q
    by_cases hbe : b = e
    · have q' : H b = some (.own x) := by
        rcases he with z | z
        · exact absurd (hbe.trans z) hb
        · rw [hbe]; exact z
      rw [q] at q'; cases q'
      obtain ⟨v, hv⟩ := heo
      exact ⟨v, by rw [hbe]; exact hv⟩
    · refine (ok b u q).stay (fun c v hc r => k c v ?_ r) (fun c r => by rw [upd_ne (nown c b r)]; exact r) fun c xs r => by rw [upd_ne (ntup c xs r)]; exact r
      rcases hc with rfl | hc
      · exact hbe
      · rintro rfl
        rcases he with z | z
        · exact nown c b hc z
        · rw [hc] at z; cases z; exact hb rfl
end
structure Un (fs ex : List Addr) (H H' : Hp) (h h' : Heap) : Prop where
  keep : ∀ b o, h.get? b = some o → H b = none → b ∉ fs → b ∉ ex → h'.get? b = some o
  slot : ∀ b o, h.get? b = some o → H b = none → b ∈ fs → b ∉ ex → ∃ sl, h'.get? b = some { o with slots := sl }
  free : ∀ b o, h.get? b = some o → H b = none → b ∉ ex → H' b = none
  there : ∀ b o, h.get? b = some o → b ∉ ex → ∃ o', h'.get? b = some o'
  tups : ∀ b xs, H b = some (.tup xs) → H' b = some (.tup xs)
  frzs : ∀ b o u, H b = some (.frz o u) → H' b = some (.frz o u)
  tbls : ∀ b ps, H b = some (.tbl ps) → ∃ more, H' b = some (.tbl (ps ++ more))
section
variable {fs fs' ex ex' : List Addr} {H H1 H2 : Hp} {h h1 h2 h' : Heap} {a x e : Addr} {o : HO}
theorem Un.any (u : Un fs ex H H1 h h1) {b : Addr} {ob : Obj} (q : h.get? b = some ob) (n : H b = none) (hx : b ∉ ex) : ∃ sl, h1.get? b = some { ob with slots := sl } := by
  by_cases hb : b ∈ fs
  · exact u.slot b ob q n hb hx
  · exact ⟨ob.slots, u.keep b ob q n hb hx⟩
theorem Un.trans (a : Un fs ex H H1 h h1) (b : Un fs ex H1 H2 h1 h2) : Un fs ex H H2 h h2 where
  keep := fun c ob q n hc hx => b.keep c ob (a.keep c ob q n hc hx) (a.free c ob q n hx) hc hx
  slot := fun c ob q n hc hx => by
    obtain ⟨sl, e1⟩ := a.slot c ob q n hc hx
    obtain ⟨sl', e2⟩ := b.slot c _ e1 (a.free c ob q n hx) hc hx
    exact ⟨sl', e2⟩
  free := fun c ob q n hx => by
    obtain ⟨o', e1⟩ := a.there c ob q hx
    exact b.free c o' e1 (a.free c ob q n hx) hx
  there := fun c ob q hx => by
    obtain ⟨o', e1⟩ := a.there c ob q hx
    exact b.there c o' e1 hx
  tups := fun c xs q => b.tups c xs (a.tups c xs q)
  frzs := fun c ob xs q => b.frzs c ob xs (a.frzs c ob xs q)
  tbls := fun c ps q => by
    obtain ⟨m1, e1⟩ := a.tbls c ps q
    obtain ⟨m2, e2⟩ := b.tbls c _ e1
    exact ⟨m1 ++ m2, by rw [e2, Array.append_assoc]⟩
theorem Un.kept (k : ∀ b u, h.get? b = some u → h'.get? b = some u) : Un fs ex H H h h' :=
  ⟨fun b ob q _ _ _ => k b ob q, fun b ob q _ _ _ => ⟨ob.slots, k b ob q⟩, fun _ _ _ n _ => n, fun b ob q _ => ⟨ob, k b ob q⟩, fun _ _ q => q, fun _ _ _ q => q, fun _ ps q => ⟨#[], by rw [q]; simp⟩⟩
theorem Un.refl : Un fs ex H H h h := Un.kept fun _ _ q => q
theorem Un.laid (k : ∀ b u, h.get? b = some u → h'.get? b = some u) (hp : h.objs.size ≤ a) (hn : H a = none) : Un fs ex H (upd H a o) h h' where
  keep := fun b u q _ _ _ => k b u q
  slot := fun b u q _ _ _ => ⟨u.slots, k b u q⟩
  free := fun b u q n _ => by rw [upd_ne (Nat.ne_of_lt (Nat.lt_of_lt_of_le (Heap.lt_size q) hp))]; exact n
  there := fun b u q _ => ⟨u, k b u q⟩
  tups := fun b xs q => by rw [upd_ne (ne_of_none q hn)]; exact q
  frzs := fun b u xs q => by rw [upd_ne (ne_of_none q hn)]; exact q
  tbls := fun b ps q => ⟨#[], by rw [upd_ne (ne_of_none q hn), q]; simp⟩
theorem Un.write (mu : Mut (H x)) (he : e = x ∨ H e = some (.own x)) (k : ∀ b u, b ≠ e → h.get? b = some u → h'.get? b = some u) (heo : ∃ u, h'.get? e = some u) : Un fs ex H (upd H x o) h h' := by
  have hx : ∀ b, H b = none → b ≠ x := fun b n z => by subst z; rw [n] at mu; exact mu
  have hb : ∀ b, H b = none → b ≠ e := fun b n z => by
    subst z
    rcases he with r | r
    · exact hx b n r
    · rw [n] at r; cases r
  have hm : ∀ b u, H b = some u → ¬ Mut (some u) → b ≠ x := fun b u q nm z => by subst z; rw [q] at mu; exact nm mu
  refine ⟨fun b u q n _ _ => k b u (hb b n) q, fun b u q n _ _ => ⟨u.slots, k b u (hb b n) q⟩, fun b u q n _ => by rw [upd_ne (hx b n)]; exact n, fun b u q _ => ?_,
    fun b xs q => by rw [upd_ne (hm b _ q fun z => z)]; exact q, fun b u xs q => by rw [upd_ne (hm b _ q fun z => z)]; exact q, fun b ps q => ⟨#[], by rw [upd_ne (hm b _ q fun z => z), q]; simp⟩⟩
  by_cases hbe : b = e
  · subst hbe; exact heo
  · exact ⟨u, k b u hbe q⟩
theorem Un.mono (u : Un fs ex H H1 h h1) (hs : ∀ b ∈ fs, b ∈ fs') (hx : ∀ b ∈ ex, b ∈ ex') : Un fs' ex' H H1 h h1 :=
  ⟨fun b ob q n hb he => u.keep b ob q n (fun z => hb (hs b z)) fun z => he (hx b z), fun _ _ q n _ he => u.any q n fun z => he (hx _ z), fun b ob q n he => u.free b ob q n fun z => he (hx b z), fun b ob q he => u.there b ob q fun z => he (hx b z), u.tups, u.frzs, u.tbls⟩
end
def trk (h : Heap) (H : Hp) : List Addr := (List.range h.objs.size).filter fun a => (H a).isSome
def hidT (h : Heap) (H : Hp) : Heap := PySem.W.hideAll h (trk h H)
theorem hidT_size (h : Heap) (H : Hp) : (hidT h H).objs.size = h.objs.size := PySem.W.hideAll_size _ _
theorem hidT_get {h : Heap} {H : Hp} {b : Addr} {o : Obj} (e : h.get? b = some o) (n : H b = none) : (hidT h H).get? b = some o :=
  PySem.W.hideAll_get _ e fun hm => by
    have q : (H b).isSome = true := (List.mem_filter.mp hm).2
    rw [n] at q; simp at q
theorem of_hidT {h : Heap} {H : Hp} {b : Addr} {o : Obj} (e : (hidT h H).get? b = some o) : h.get? b = some o ∧ H b = none := by
  have e' : h.get? b = some o := PySem.W.of_hideAll (trk h H) e
  refine ⟨e', ?_⟩
  cases q : H b with
  | none => rfl
  | some x =>
    have hm : b ∈ trk h H := List.mem_filter.mpr ⟨List.mem_range.mpr (Heap.lt_size e'), by simp [q]⟩
    have z : (hidT h H).get? b = none := PySem.W.hideAll_none (trk h H) hm
    rw [z] at e; cases e
def allNews (g h : Heap) (L : Addr) : List (Addr × Obj) := (List.range h.objs.size).filterMap fun a => if a = L ∨ (g.get? a).isSome = true then none else (h.get? a).map fun o => (a, o)
def rest (g h : Heap) (L d : Addr) : List (Addr × Obj) := (allNews g h L).filter fun p => decide (p.1 ≠ d)
end L2
namespace L2
open PySem PySem.Spec PyProof.Rows
structure Mod (K : PySem.W.Frag) (mg : Str → Option Value) (base : Heap) : Prop where
  kin : K.In base
  glob : base.Ns mainGlobals mg
  blt : ∃ mb, base.Ns builtinsNs mb ∧ ∀ x : Str, x ≠ "__name__" → mb x = bootBuiltins x
  nolimit : base.NoLimit
structure Cx where
  prog : Program
  w : World
  K : PySem.W.Frag
  mg : Str → Option Value
  base : Heap
  A : Around
  N : List Str
  s₀ : Shared
  H₀ : Hp
  env : Env
  outer : List Env
  stack : List Env
  ex : List Addr
  fn : Str → Bool
  calm : Bool
  pn : List (Addr × Obj)
  xe : Value → Shared → Prop
def frs (l : List Env) : List Addr := l.filterMap (·.frame)
abbrev Cx.fs (X : Cx) : List Addr := frs X.outer
def Vis (sc : Scope) (x : Str) : Prop := sc.names.lookup x = some .local ∨ sc.names.lookup x = some .cell ∨ sc.names.lookup x = some .free
def Loc (sc : Scope) (x : Str) : Prop := sc.names.lookup x = some .local ∨ sc.names.lookup x = some .cell
def Look (env : Env) (h : Heap) (m : Str → Option Value) (x : Str) (u : Value) : Prop :=
  (env.kindOf x = some .local ∧ m x = some u) ∨ ((env.kindOf x = some .cell ∨ env.kindOf x = some .free) ∧ ∃ c, env.cells.lookup x = some c ∧ h.IsCell c (some u))
structure Cx.Ok (X : Cx) : Prop where
  mod : Mod X.K X.mg X.base
  kind : X.env.scope.kind = .function
  glob : X.env.globals = mainGlobals
  blt : X.env.builtins = builtinsNs
  above : X.s₀.heap.objs.size ≤ X.env.locals
  inj : ∀ x y c, X.env.cells.lookup x = some c → X.env.cells.lookup y = some c → x = y
  has : ∀ x, (X.env.kindOf x = some .cell ∨ X.env.kindOf x = some .free) → ∃ c, X.env.cells.lookup x = some c
  cab : ∀ x c, X.fn x = true → X.env.cells.lookup x = some c → X.s₀.heap.objs.size ≤ c
  hd : X.calm = true → X.A.handled = none
  frames : X.A.frames = some X.stack
  stk : X.stack = X.outer ∨ (X.stack = X.env :: X.outer ∧ X.env.frame = some X.env.locals)
  exf : ∀ b ∈ X.ex, b ≠ X.env.locals ∧ ∀ x c, X.env.cells.lookup x = some c → c ≠ b
  bs : ∀ b o, X.base.get? b = some o → X.s₀.heap.get? b = some o ∧ X.H₀ b = none
  bsz : X.base.objs.size ≤ X.s₀.heap.objs.size
  noex : ∀ b o, X.base.get? b = some o → b ∉ X.ex
  exfs : ∀ b ∈ X.ex, b ∉ X.fs
  funs : X.s₀.heap.FunFrames X.base X.outer
  frf : ∀ b ∈ X.fs, X.H₀ b = none
structure Inv (X : Cx) (pins : List (Addr × Obj)) (σ : List (Option V)) (H : Hp) (s : Shared) : Prop where
  ok : X.Ok
  os : s.os = X.s₀.os
  bare : AllBare s.gens
  base : Un X.fs X.ex X.H₀ H X.s₀.heap s.heap
  loc : ∃ m, s.heap.Ns X.env.locals m ∧ ∀ (i : Nat) (x : Str) (v : V), X.N[i]? = some x → σ[i]? = some (some v) → Vis X.env.scope x → ∃ u, RelV v u ∧ Look X.env s.heap m x u
  cell : ∀ x c, X.env.cells.lookup x = some c → ∃ v, s.heap.IsCell c v
  free : H X.env.locals = none
  freeC : ∀ x c, X.env.cells.lookup x = some c → H c = none
  pin : ∀ p ∈ X.pn ++ pins, s.heap.get? p.1 = some p.2 ∧ H p.1 = none ∧ p.1 ≠ X.env.locals ∧ p.1 ∉ X.fs ∧ ∀ v, p.2.data ≠ .cell v
  hok : HOk X.prog X.w H s.heap
  len : σ.length = X.N.length
section
variable {X : Cx} {pins : List (Addr × Obj)} {σ : List (Option V)} {H H' : Hp} {s : Shared} {h' : Heap}
theorem Cx.Ok.nofr (ok : X.Ok) {b : Addr} {o : Obj} (e : X.base.get? b = some o) : b ∉ X.fs := fun hb => by
  have := (ok.funs.mem hb).1
  rw [e] at this; cases this
theorem Inv.bs (I : Inv X pins σ H s) : ∀ b o, X.base.get? b = some o → s.heap.get? b = some o ∧ H b = none := fun b o e =>
  ⟨I.base.keep b o (I.ok.bs b o e).1 (I.ok.bs b o e).2 (I.ok.nofr e) (I.ok.noex b o e), I.base.free b o (I.ok.bs b o e).1 (I.ok.bs b o e).2 (I.ok.noex b o e)⟩
theorem Inv.bk (I : Inv X pins σ H s) : ∀ b o, X.base.get? b = some o → s.heap.get? b = some o := fun b o e => (I.bs b o e).1
theorem Inv.mod (I : Inv X pins σ H s) : Mod X.K X.mg X.base := I.ok.mod
theorem Inv.kIn (I : Inv X pins σ H s) : X.K.In s.heap := I.ok.mod.kin.keeps I.bk
theorem Inv.nolimit (I : Inv X pins σ H s) : s.heap.NoLimit := I.ok.mod.nolimit.keeps I.bk
theorem Inv.fr (I : Inv X pins σ H s) : ∃ m, Fr X.base X.env.locals s.heap m :=
  let ⟨m, hn, _⟩ := I.loc
  ⟨m, hn, I.bk, Nat.le_trans I.ok.bsz I.ok.above⟩
theorem Inv.lt (I : Inv X pins σ H s) : X.env.locals < s.heap.objs.size := let ⟨_, hn, _⟩ := I.loc; hn.lt
theorem Inv.sz (I : Inv X pins σ H s) : X.s₀.heap.objs.size ≤ s.heap.objs.size := Nat.le_trans I.ok.above (Nat.le_of_lt I.lt)
theorem Inv.nofs (I : Inv X pins σ H s) {a : Addr} (h : s.heap.objs.size ≤ a) : a ∉ X.fs := fun hb => by
  obtain ⟨_, o, ho, _⟩ := I.ok.funs.mem hb
  exact absurd (Nat.lt_of_lt_of_le (Heap.lt_size ho) (Nat.le_trans I.sz h)) (Nat.lt_irrefl _)
theorem Inv.cne (I : Inv X pins σ H s) : ∀ x c, X.env.cells.lookup x = some c → c ≠ X.env.locals := fun x c e z => by
  obtain ⟨v, o, ho, hd⟩ := I.cell x c e
  obtain ⟨m, ⟨o', es, ep, ho', hd', _⟩, _⟩ := I.loc
  rw [z, ho'] at ho; cases ho; rw [hd'] at hd; cases hd
theorem Inv.funs (I : Inv X pins σ H s) : s.heap.FunFrames X.base X.outer := by
  have all : ∀ (l : List Env), (∀ b ∈ frs l, b ∈ X.fs) → X.s₀.heap.FunFrames X.base l → s.heap.FunFrames X.base l := by
    intro l
    induction l with
    | nil => intro _ _; trivial
    | cons env r ih =>
      intro hs hl
      obtain ⟨hk, ⟨L, o, hf, hn, ho, hd⟩, hr⟩ := hl
      have hL : L ∈ X.fs := hs L (by unfold frs; rw [List.filterMap_cons, hf]; exact List.mem_cons_self)
      obtain ⟨sl, e⟩ := I.base.slot L o ho (I.ok.frf L hL) hL fun z => I.ok.exfs L z hL
      exact ⟨hk, ⟨L, _, hf, hn, e, hd⟩, ih (fun b hb => hs b (by unfold frs; rw [List.filterMap_cons, hf]; exact List.mem_cons_of_mem _ hb)) hr⟩
  exact all X.outer (fun _ hb => hb) I.ok.funs
theorem Inv.stack (I : Inv X pins σ H s) : s.heap.FunFrames X.base X.stack := by
  rcases I.ok.stk with e | ⟨e, hf⟩
  · rw [e]; exact I.funs
  · rw [e]
    obtain ⟨m, hn, _⟩ := I.loc
    refine .cons (by rw [I.ok.kind]; decide) hf hn ?_ I.funs
    exact Heap.get?_none_of_le (Nat.le_trans I.ok.bsz I.ok.above)
theorem Inv.stkSub (I : Inv X pins σ H s) : ∀ b ∈ frs X.stack, b ∈ X.env.locals :: X.fs := fun b hb => by
  rcases I.ok.stk with e | ⟨e, hf⟩
  · rw [e] at hb; exact List.mem_cons_of_mem _ hb
  · rw [e] at hb
    unfold frs at hb
    rw [List.filterMap_cons, hf] at hb
    exact hb
theorem Inv.stkFree (I : Inv X pins σ H s) : ∀ b ∈ frs X.stack, H b = none := fun b hb => by
  rcases List.mem_cons.mp (I.stkSub b hb) with e | hb
  · rw [e]; exact I.free
  · obtain ⟨_, o, ho, _⟩ := I.ok.funs.mem hb
    exact I.base.free b o ho (I.ok.frf b hb) fun z => I.ok.exfs b z hb
theorem Inv.step {g' : Array GenState} {t' : Nat} {d' : Drawn} {ch : List Addr} (I : Inv X pins σ H s)
    (hch : ∀ b ∈ ch, (b ∈ X.ex ∨ X.s₀.heap.objs.size ≤ b) ∧ b ≠ X.env.locals ∧ (∀ x c, X.env.cells.lookup x = some c → c ≠ b) ∧ ∀ p ∈ X.pn ++ pins, p.1 ≠ b)
    (keep : ∀ b o, b ≠ X.env.locals → b ∉ X.fs → b ∉ ch → s.heap.get? b = some o → H b = none → h'.get? b = some o)
    (slot : ∀ b o, b ≠ X.env.locals → b ∈ X.fs → b ∉ ch → s.heap.get? b = some o → H b = none → ∃ sl, h'.get? b = some { o with slots := sl }) (free : ∀ b o, b ∉ ch → s.heap.get? b = some o → H b = none → H' b = none)
    (there : ∀ b o, b ∉ ch → s.heap.get? b = some o → ∃ o', h'.get? b = some o')
    (tups : ∀ b xs, H b = some (.tup xs) → H' b = some (.tup xs)) (frzs : ∀ b o u, H b = some (.frz o u) → H' b = some (.frz o u)) (tbls : ∀ b ps, H b = some (.tbl ps) → ∃ more, H' b = some (.tbl (ps ++ more)))
    (ns : ∀ m, s.heap.Ns X.env.locals m → h'.Ns X.env.locals m) (hok : HOk X.prog X.w H' h') (hg : AllBare g') :
    Inv X pins σ H' { s with heap := h', gens := g', drawn := d', toks := t' } := by
  have neL : ∀ b o, X.s₀.heap.get? b = some o → b ≠ X.env.locals := fun b o e => Nat.ne_of_lt (Nat.lt_of_lt_of_le (Heap.lt_size e) I.ok.above)
  have neC : ∀ b o, X.s₀.heap.get? b = some o → b ∉ X.ex → b ∉ ch := fun b o e hx hb => by
    rcases (hch b hb).1 with z | z
    · exact hx z
    · exact absurd (Nat.lt_of_lt_of_le (Heap.lt_size e) z) (Nat.lt_irrefl _)
  have cellK : ∀ x c, X.env.cells.lookup x = some c → ∀ v, s.heap.IsCell c v → h'.IsCell c v := fun x c e v ⟨o, ho, hd⟩ => by
    have nch : c ∉ ch := fun z => (hch c z).2.2.1 x c e rfl
    by_cases hc : c ∈ X.fs
    · obtain ⟨sl, q⟩ := slot c o (I.cne x c e) hc nch ho (I.freeC x c e)
      exact ⟨_, q, hd⟩
    · exact ⟨o, keep c o (I.cne x c e) hc nch ho (I.freeC x c e), hd⟩
  refine ⟨I.ok, I.os, hg, ⟨fun b o e n hb hx => ?_, fun b o e n hb hx => ?_, fun b o e n hx => ?_, fun b o e hx => ?_, fun b xs e => tups b xs (I.base.tups b xs e), fun b o xs e => frzs b o xs (I.base.frzs b o xs e), fun b ps e => ?_⟩, ?_, fun x c e => ?_, ?_, fun x c e => ?_, fun p hp => ?_, hok, I.len⟩
  · exact keep b o (neL b o e) hb (neC b o e hx) (I.base.keep b o e n hb hx) (I.base.free b o e n hx)
  · obtain ⟨sl, e1⟩ := I.base.slot b o e n hb hx
    obtain ⟨sl', e2⟩ := slot b _ (neL b o e) hb (neC b o e hx) e1 (I.base.free b o e n hx)
    exact ⟨sl', e2⟩
  · obtain ⟨o', e1⟩ := I.base.there b o e hx
    exact free b o' (neC b o e hx) e1 (I.base.free b o e n hx)
  · obtain ⟨o', e1⟩ := I.base.there b o e hx
    exact there b o' (neC b o e hx) e1
  · obtain ⟨m1, e1⟩ := I.base.tbls b ps e
    obtain ⟨m2, e2⟩ := tbls b _ e1
    exact ⟨m1 ++ m2, by rw [e2, Array.append_assoc]⟩
  · obtain ⟨m, hn, hl⟩ := I.loc
    refine ⟨m, ns m hn, fun i x v e1 e2 e3 => ?_⟩
    obtain ⟨u, r, l⟩ := hl i x v e1 e2 e3
    refine ⟨u, r, ?_⟩
    rcases l with l | ⟨k, c, e, z⟩
    · exact .inl l
    · exact .inr ⟨k, c, e, cellK x c e _ z⟩
  · obtain ⟨v, z⟩ := I.cell x c e
    exact ⟨v, cellK x c e v z⟩
  · obtain ⟨m, ⟨o, _, _, ho, _⟩, _⟩ := I.loc
    exact free _ o (fun z => (hch _ z).2.1 rfl) ho I.free
  · obtain ⟨v, o, ho, hd⟩ := I.cell x c e
    exact free c o (fun z => (hch c z).2.2.1 x c e rfl) ho (I.freeC x c e)
  · obtain ⟨e, n, ne, nf, d⟩ := I.pin p hp
    have nch : p.1 ∉ ch := fun z => (hch p.1 z).2.2.2 p hp rfl
    exact ⟨keep p.1 p.2 ne nf nch e n, free p.1 p.2 nch e n, ne, nf, d⟩
theorem Inv.un {t' : Nat} (I : Inv X pins σ H s) (u : Un X.fs [] H H' s.heap h') (hok : HOk X.prog X.w H' h') : Inv X pins σ H' { s with heap := h', toks := t' } := by
  obtain ⟨m, ⟨o, es, ep, ho, r⟩, _⟩ := id I.loc
  obtain ⟨sl, hL⟩ := u.any ho I.free (by simp)
  exact I.step (g' := s.gens) (d' := s.drawn) (ch := []) (fun _ z => nomatch z) (fun b o _ hb _ e n => u.keep b o e n hb (by simp)) (fun b o _ hb _ e n => u.slot b o e n hb (by simp)) (fun b o _ e n => u.free b o e n (by simp)) (fun b o _ e => u.there b o e (by simp)) u.tups u.frzs u.tbls (fun m' hm => by
    obtain ⟨o', es', ep', ho', r'⟩ := hm
    rw [ho] at ho'; cases ho'
    exact ⟨_, es', ep', hL, r'⟩) hok I.bare
theorem Inv.call {g' : Array GenState} {t' : Nat} {d' : Drawn} {ch : List Addr} (I : Inv X pins σ H s) (u : Un (frs X.stack) ch H H' s.heap h') (hok : HOk X.prog X.w H' h') (hg : AllBare g')
    (hch : ∀ b ∈ ch, (b ∈ X.ex ∨ X.s₀.heap.objs.size ≤ b) ∧ b ≠ X.env.locals ∧ (∀ x c, X.env.cells.lookup x = some c → c ≠ b) ∧ ∀ p ∈ X.pn ++ pins, p.1 ≠ b) :
    Inv X pins σ H' { s with heap := h', gens := g', drawn := d', toks := t' } := by
  obtain ⟨m, ⟨o, es, ep, ho, r⟩, _⟩ := id I.loc
  obtain ⟨sl, hL⟩ := u.any ho I.free fun z => (hch _ z).2.1 rfl
  exact I.step (ch := ch) hch (fun b o hL hb hc e n => u.keep b o e n (fun z => (List.mem_cons.mp (I.stkSub b z)).elim hL hb) hc) (fun b o _ _ hc e n => u.any e n hc) (fun b o hc e n => u.free b o e n hc) (fun b o hc e => u.there b o e hc) u.tups u.frzs u.tbls (fun m' hm => by
    obtain ⟨o', es', ep', ho', r'⟩ := hm
    rw [ho] at ho'; cases ho'
    exact ⟨_, es', ep', hL, r'⟩) hok hg
theorem Inv.turned {t' : Nat} {it : Addr} (I : Inv X pins σ H s) (k : ∀ b o, b ≠ it → s.heap.get? b = some o → h'.get? b = some o) (hn : H it = none) (hL : it ≠ X.env.locals)
    (h1 : it ∈ X.ex ∨ X.s₀.heap.objs.size ≤ it) (h2 : ∀ x c, X.env.cells.lookup x = some c → c ≠ it) (h3 : ∀ p ∈ X.pn ++ pins, p.1 ≠ it) : Inv X pins σ H { s with heap := h', toks := t' } := by
  have nit : ∀ b u, H b = some u → b ≠ it := fun b u e z => by rw [z, hn] at e; cases e
  refine I.step (g' := s.gens) (d' := s.drawn) (ch := [it]) (fun b hb => ?_) (fun b o _ _ hc e _ => k b o (fun z => hc (by simp [z])) e) (fun b o _ _ hc e _ => ⟨o.slots, k b o (fun z => hc (by simp [z])) e⟩) (fun _ _ _ _ n => n)
    (fun b o hc e => ⟨o, k b o (fun z => hc (by simp [z])) e⟩) (fun _ _ e => e) (fun _ _ _ e => e) (fun b ps e => ⟨#[], by rw [e]; simp⟩) (fun m hm => ?_) (fun b u e => ?_) I.bare
  · have e : b = it := by simpa using hb
    subst e
    exact ⟨h1, hL, h2, h3⟩
  · obtain ⟨o, es, ep, ho, r⟩ := hm
    exact ⟨o, es, ep, k _ o (Ne.symm hL) ho, r⟩
  · refine (I.hok b u e).stay (fun c v hc q => k c v ?_ q) (fun _ q => q) fun _ _ q => q
    rcases hc with z | z
    · rw [z]; exact nit b u e
    · exact nit c _ z
theorem Inv.tok (I : Inv X pins σ H s) (t : Nat) : Inv X pins σ H { s with toks := t } := I.un (h' := s.heap) (t' := t) Un.refl I.hok
theorem Inv.kept {t' : Nat} (I : Inv X pins σ H s) (k : ∀ b u, s.heap.get? b = some u → h'.get? b = some u) : Inv X pins σ H { s with heap := h', toks := t' } := I.un (Un.kept k) (I.hok.kept k)
theorem Inv.laid {a : Addr} {o : HO} {t' : Nat} (I : Inv X pins σ H s) (k : ∀ b u, s.heap.get? b = some u → h'.get? b = some u) (hp : s.heap.objs.size ≤ a) (new : ObjOk X.prog X.w (upd H a o) h' a o) :
    Inv X pins σ (upd H a o) { s with heap := h', toks := t' } := I.un (Un.laid k hp (I.hok.fresh hp)) (I.hok.laid k hp new)
theorem Inv.write {x e : Addr} {o : HO} {t' : Nat} (I : Inv X pins σ H s) (mu : Mut (H x)) (he : e = x ∨ H e = some (.own x)) (k : ∀ b u, b ≠ e → s.heap.get? b = some u → h'.get? b = some u) (heo : ∃ u, h'.get? e = some u)
    (new : ObjOk X.prog X.w (upd H x o) h' x o) : Inv X pins σ (upd H x o) { s with heap := h', toks := t' } := I.un (Un.write mu he k heo) (I.hok.write mu he k heo new)
theorem Inv.pins_of {pins' : List (Addr × Obj)} (I : Inv X pins σ H s) (h : ∀ p ∈ pins', s.heap.get? p.1 = some p.2 ∧ H p.1 = none ∧ p.1 ≠ X.env.locals ∧ p.1 ∉ X.fs ∧ ∀ v, p.2.data ≠ .cell v) : Inv X pins' σ H s :=
  ⟨I.ok, I.os, I.bare, I.base, I.loc, I.cell, I.free, I.freeC, fun p hp => (List.mem_append.mp hp).elim (fun z => I.pin p (List.mem_append_left _ z)) (h p), I.hok, I.len⟩
theorem nodup_ix {N : List Str} (hN : N.Nodup) {i j : Nat} {x : Str} (a : N[i]? = some x) (b : N[j]? = some x) : i = j := by
  obtain ⟨h1, e1⟩ := List.getElem?_eq_some_iff.mp a
  obtain ⟨h2, e2⟩ := List.getElem?_eq_some_iff.mp b
  exact (List.getElem_inj hN).mp (e1.trans e2.symm)
theorem store_ok2 {M : Model} {A : Around} {E : Value → Shared → Prop} {i : Nat} {x : Str} {v : V} {u : Value} {Q : Unit → Shared → Prop} (I : Inv X pins σ H s) (hN : X.N.Nodup) (hi : X.N[i]? = some x) (hx : Loc X.env.scope x) (r : RelV v u)
    (h : ∀ s', Inv X pins (σ.set i (some v)) H s' → (∃ a, Heap.SameBut a s.heap s'.heap ∧ (a = X.env.locals ∨ X.env.cells.lookup x = some a)) → Q () s') (hf : X.fn x = true ∨ X.env.scope.names.lookup x = some .local := by first | exact .inl rfl | exact .inr rfl | assumption) : wpAny M A (storeName X.env x u) Q E s := by
  obtain ⟨m, hn, hl⟩ := id I.loc
  have hcls : (X.env.scope.kind == .class || (X.env.scope.kind == .module && X.env.locals != X.env.globals)) = false := by rw [I.ok.kind]; rfl
  have hiσ : i < σ.length := by rw [I.len]; exact (List.getElem?_eq_some_iff.mp hi).1
  have cne := I.cne
  have tracked : ∀ {a : Addr} {h' : Heap}, (∃ o, s.heap.get? a = some o ∧ H a = none) → Heap.SameBut a s.heap h' → HOk X.prog X.w H h' := fun {a h'} ha hs b ob e => by
    obtain ⟨_, _, hfree⟩ := ha
    refine (I.hok b ob e).stay (fun c w' hc q => (hs.2 c ?_).trans q) (fun _ q => q) fun _ _ q => q
    rintro rfl
    rcases hc with rfl | hc
    · rw [hfree] at e; cases e
    · rw [hfree] at hc; cases hc
  rcases hx with hk | hk
  · refine wpAny_storeName_local hk hn (fun h' hn' hs => ?_) hcls
    obtain ⟨oL, _, _, hoL, _⟩ := id hn
    refine h _ ⟨I.ok, I.os, I.bare, ⟨fun b o e n hb hx => ?_, fun b o e n hb hx => ?_, I.base.free, fun b o e hx => ?_, I.base.tups, I.base.frzs, I.base.tbls⟩, ⟨_, hn', fun j y v' e1 e2 e3 => ?_⟩, fun y c e => ?_, I.free, I.freeC, fun p hp => ?_, tracked ⟨oL, hoL, I.free⟩ hs, by simpa using I.len⟩ ⟨_, hs, .inl rfl⟩
    · exact (hs.2 b (Nat.ne_of_lt (Nat.lt_of_lt_of_le (Heap.lt_size e) I.ok.above))).trans (I.base.keep b o e n hb hx)
    · obtain ⟨sl, e1⟩ := I.base.slot b o e n hb hx
      exact ⟨sl, (hs.2 b (Nat.ne_of_lt (Nat.lt_of_lt_of_le (Heap.lt_size e) I.ok.above))).trans e1⟩
    · obtain ⟨o', e1⟩ := I.base.there b o e hx
      exact ⟨o', (hs.2 b (Nat.ne_of_lt (Nat.lt_of_lt_of_le (Heap.lt_size e) I.ok.above))).trans e1⟩
    · by_cases hj : j = i
      · subst hj
        rw [hi] at e1; cases e1
        rw [List.getElem?_set_self hiσ] at e2
        cases e2
        exact ⟨u, r, .inl ⟨hk, by simp⟩⟩
      · rw [List.getElem?_set_ne (Ne.symm hj)] at e2
        obtain ⟨u', r', q⟩ := hl j y v' e1 e2 e3
        refine ⟨u', r', ?_⟩
        rcases q with ⟨k, e⟩ | ⟨k, c, e, z⟩
        · refine .inl ⟨k, ?_⟩
          have : y ≠ x := fun e => hj (nodup_ix hN e1 (e ▸ hi))
          simp [this, e]
        · exact .inr ⟨k, c, e, z.sameBut hs (cne y c e)⟩
    · obtain ⟨w', z⟩ := I.cell y c e
      exact ⟨w', z.sameBut hs (cne y c e)⟩
    · obtain ⟨e, n, ne, nf, d⟩ := I.pin p hp
      exact ⟨(hs.2 p.1 ne).trans e, n, ne, nf, d⟩
  · have hfn : X.fn x = true := by
      rcases hf with z | z
      · exact z
      · rw [z] at hk; cases hk
    obtain ⟨c, hc⟩ := I.ok.has x (.inl hk)
    obtain ⟨w', z⟩ := I.cell x c hc
    refine wpAny_storeName_cell I.ok.kind hk hc z (fun h' hc' hs => ?_)
    obtain ⟨oc, hoc, hocd⟩ := id z
    refine h { s with heap := h' } ⟨I.ok, I.os, I.bare, ⟨fun b o e n hb hx => ?_, fun b o e n hb hx => ?_, I.base.free, fun b o e hx => ?_, I.base.tups, I.base.frzs, I.base.tbls⟩, ⟨m, hn.sameBut hs (Ne.symm (cne x c hc)), fun j y v' e1 e2 e3 => ?_⟩, fun y c' e => ?_, I.free, I.freeC, fun p hp => ?_, tracked ⟨oc, hoc, I.freeC x c hc⟩ hs, by simpa using I.len⟩ ⟨c, hs, .inr hc⟩
    · exact (hs.2 b (Nat.ne_of_lt (Nat.lt_of_lt_of_le (Heap.lt_size e) (I.ok.cab x c hfn hc)))).trans (I.base.keep b o e n hb hx)
    · obtain ⟨sl, e1⟩ := I.base.slot b o e n hb hx
      exact ⟨sl, (hs.2 b (Nat.ne_of_lt (Nat.lt_of_lt_of_le (Heap.lt_size e) (I.ok.cab x c hfn hc)))).trans e1⟩
    · obtain ⟨o', e1⟩ := I.base.there b o e hx
      exact ⟨o', (hs.2 b (Nat.ne_of_lt (Nat.lt_of_lt_of_le (Heap.lt_size e) (I.ok.cab x c hfn hc)))).trans e1⟩
    · by_cases hj : j = i
      · subst hj
        rw [hi] at e1; cases e1
        rw [List.getElem?_set_self hiσ] at e2
        cases e2
        exact ⟨u, r, .inr ⟨.inl hk, c, hc, hc'⟩⟩
      · rw [List.getElem?_set_ne (Ne.symm hj)] at e2
        obtain ⟨u', r', q⟩ := hl j y v' e1 e2 e3
        refine ⟨u', r', ?_⟩
        rcases q with q | ⟨k, c', e, z'⟩
        · exact .inl q
        · refine .inr ⟨k, c', e, z'.sameBut hs ?_⟩
          rintro rfl
          exact hj (nodup_ix hN e1 (I.ok.inj _ _ _ e hc ▸ hi))
    · by_cases hcc : c' = c
      · subst hcc; exact ⟨_, hc'⟩
      · obtain ⟨w2, z2⟩ := I.cell y c' e
        exact ⟨w2, z2.sameBut hs hcc⟩
    · obtain ⟨e, n, ne, nf, d⟩ := I.pin p hp
      refine ⟨(hs.2 p.1 ?_).trans e, n, ne, nf, d⟩
      intro q
      rw [q, hoc] at e
      have q' : oc = p.2 := Option.some.inj e
      exact d w' (by rw [← q']; exact hocd)
theorem store_ok {M : Model} {A : Around} {E : Value → Shared → Prop} {i : Nat} {x : Str} {v : V} {u : Value} {Q : Unit → Shared → Prop} (I : Inv X pins σ H s) (hN : X.N.Nodup) (hi : X.N[i]? = some x) (hx : Loc X.env.scope x) (r : RelV v u)
    (h : ∀ s', Inv X pins (σ.set i (some v)) H s' → Q () s') (hf : X.fn x = true ∨ X.env.scope.names.lookup x = some .local := by first | exact .inl rfl | exact .inr rfl | assumption) : wpAny M A (storeName X.env x u) Q E s :=
  store_ok2 I hN hi hx r (fun s' I' _ => h s' I') hf
theorem Inv.call' {s' : Shared} {ch : List Addr} (I : Inv X pins σ H s) (ho : s'.os = s.os) (u : Un (frs X.stack) ch H H' s.heap s'.heap) (hok : HOk X.prog X.w H' s'.heap) (hg : AllBare s'.gens)
    (hch : ∀ b ∈ ch, (b ∈ X.ex ∨ X.s₀.heap.objs.size ≤ b) ∧ b ≠ X.env.locals ∧ (∀ x c, X.env.cells.lookup x = some c → c ≠ b) ∧ ∀ p ∈ X.pn ++ pins, p.1 ≠ b) : Inv X pins σ H' s' := by
  obtain ⟨h', g', d', t', o'⟩ := s'
  have e : o' = s.os := ho
  subst e
  exact I.call (g' := g') (t' := t') (d' := d') u hok hg hch
end
abbrev XK := Value → Option Addr → Hp → Prop
abbrev St := List (Option V)
abbrev VK := V → Hp → Prop
abbrev TE := St → Hp → VK → Prop
abbrev TT := St → Hp → (Bool → Hp → Prop) → Prop
abbrev TA := St → Hp → (List V → Hp → Prop) → Prop
structure Ends where
  nx : St → Hp → Prop
  rt : VK
  bk : St → Hp → Prop := fun _ _ => False
  ct : St → Hp → Prop := fun _ _ => False
abbrev TS := Ends → St → Hp → Prop
def EP (X : Cx) (pins : List (Addr × Obj)) (σ : St) (Q : VK) (u : Value) (s' : Shared) : Prop := ∃ v H', Inv X pins σ H' s' ∧ RelV v u ∧ Q v H'
def TP (X : Cx) (pins : List (Addr × Obj)) (σ : St) (Q : Bool → Hp → Prop) (b : Bool) (s' : Shared) : Prop := ∃ H', Inv X pins σ H' s' ∧ Q b H'
def AP (X : Cx) (pins : List (Addr × Obj)) (σ : St) (Q : List V → Hp → Prop) (us : List Value) (s' : Shared) : Prop := ∃ vs H', Inv X pins σ H' s' ∧ Vals vs us ∧ Q vs H'
def SP (X : Cx) (pins : List (Addr × Obj)) (D : Ends) (f : Flow) (s' : Shared) : Prop :=
  match f with
  | .next => ∃ σ' H', Inv X pins σ' H' s' ∧ D.nx σ' H'
  | .brk => ∃ σ' H', Inv X pins σ' H' s' ∧ D.bk σ' H'
  | .cont => ∃ σ' H', Inv X pins σ' H' s' ∧ D.ct σ' H'
  | .ret u => ∃ v σ' H', Inv X pins σ' H' s' ∧ RelV v u ∧ D.rt v H'
def PE (X : Cx) (e : Expr) (t : TE) : Prop :=
  ∀ (pins : List (Addr × Obj)) (s : Shared) (σ : St) (H : Hp) (Q : VK), Inv X pins σ H s → t σ H Q → wpAny (model X.prog X.w) X.A (eval e X.env) (EP X pins σ Q) X.xe s
def PT (X : Cx) (e : Expr) (t : TT) : Prop :=
  ∀ (pins : List (Addr × Obj)) (s : Shared) (σ : St) (H : Hp) (Q : Bool → Hp → Prop), Inv X pins σ H s → t σ H Q → wpAny (model X.prog X.w) X.A (isTrue e X.env (eval e X.env)) (TP X pins σ Q) X.xe s
def PW (X : Cx) (e : Expr) (t : TT) : Prop :=
  ∀ (whole : Sem Value) (pins : List (Addr × Obj)) (s : Shared) (σ : St) (H : Hp) (Q : Bool → Hp → Prop), Inv X pins σ H s → t σ H Q → wpAny (model X.prog X.w) X.A (isTrue e X.env whole) (TP X pins σ Q) X.xe s
theorem PW.pt {X : Cx} {e : Expr} {t : TT} (h : PW X e t) : PT X e t := h _
def PA (X : Cx) (es : List Expr) (t : TA) : Prop :=
  ∀ (pos : Pos) (pins : List (Addr × Obj)) (s : Shared) (σ : St) (H : Hp) (Q : List V → Hp → Prop), Inv X pins σ H s → t σ H Q → wpAny (model X.prog X.w) X.A (spliced (backTo pos (starEach es X.env))) (AP X pins σ Q) X.xe s
def PS (X : Cx) (st : Stmt) (t : TS) : Prop :=
  ∀ (pins : List (Addr × Obj)) (s : Shared) (σ : St) (H : Hp) (D : Ends), Inv X pins σ H s → t D σ H → wpAny (model X.prog X.w) X.A (exec st X.env) (SP X pins D) X.xe s
def PSs (X : Cx) (st : List Stmt) (t : TS) : Prop :=
  ∀ (pins : List (Addr × Obj)) (s : Shared) (σ : St) (H : Hp) (D : Ends), Inv X pins σ H s → t D σ H → wpAny (model X.prog X.w) X.A (execs st X.env) (SP X pins D) X.xe s
theorem thn {α : Type} {t : Sem α} {Q Q' : α → Shared → Prop} {M : Model} {A : Around} {E : Value → Shared → Prop} {s : Shared} (h : wpAny M A t Q E s) (hQ : ∀ a s, Q a s → Q' a s) : wpAny M A t Q' E s := wpAny_mono h hQ fun _ _ x => x
end L2
namespace L2
open PySem PySem.Spec PyProof.Rows
section
variable {X : Cx}
theorem bin {a b : Expr} {ta tb : TE} (ha : PE X a ta) (hb : PE X b tb) {pins : List (Addr × Obj)} {s : Shared} {σ : St} {H : Hp} {R : V → V → Hp → Prop} (I : Inv X pins σ H s) (h : ta σ H fun x H1 => tb σ H1 fun y H2 => R x y H2)
    {α : Type} {Q : α → Shared → Prop} {f : Value → Value → Sem α}
    (hf : ∀ v u s2 x y H2, Inv X pins σ H2 s2 → RelV x v → RelV y u → R x y H2 → wpAny (model X.prog X.w) X.A (f v u) Q X.xe s2) :
    wpAny (model X.prog X.w) X.A (eval a X.env) (fun v s₁ => wpAny (model X.prog X.w) X.A (eval b X.env) (fun u s₂ => wpAny (model X.prog X.w) X.A (f v u) Q X.xe s₂) X.xe s₁) X.xe s := by
  refine thn (ha pins s σ H _ I h) fun v s1 ⟨x, H1, I1, r1, q1⟩ => ?_
  refine thn (hb pins s1 σ H1 _ I1 q1) fun u s2 ⟨y, H2, I2, r2, q2⟩ => ?_
  exact hf v u s2 x y H2 I2 r1 r2 q2
inductive XVar (o : Option (Option V)) (R : V → Prop) : Prop
  | mk (v : V) (e : o = some (some v)) (q : R v) : XVar o R
inductive XB (x : V) (R : Bool → Prop) : Prop
  | mk (c : Bool) (e : x = .bl c) (q : R c) : XB x R
inductive XI1 (x : V) (R : Int → Prop) : Prop
  | mk (i : Int) (e : x = .int i) (q : R i) : XI1 x R
inductive XI0 (x y : V) (R : Int → Int → Prop) : Prop
  | mk (i j : Int) (e : x = .int i) (e2 : y = .int j) (q : R i j) : XI0 x y R
inductive XI2 (x y : V) (C : Int → Int → Prop) (R : Int → Int → Prop) : Prop
  | mk (i j : Int) (e : x = .int i) (e2 : y = .int j) (c : C i j) (q : R i j) : XI2 x y C R
inductive XCons (vs : List V) (R : V → List V → Prop) : Prop
  | mk (v : V) (r : List V) (e : vs = v :: r) (q : R v r) : XCons vs R
inductive XTup (v : V) (S : Addr → List V → Prop) (n : Nat) (R : List V → Prop) : Prop
  | mk (a : Addr) (xs : List V) (e : v = .ref a) (s : S a xs) (l : xs.length = n) (q : R xs) : XTup v S n R
inductive XIt (x : V) (S : Addr → Prop) (R : Addr → Prop) : Prop
  | mk (a : Addr) (e : x = .ref a) (s : S a) (q : R a) : XIt x S R
inductive XLen (xs : List V) (S : Addr → List V → Prop) (R : List V → Prop) : Prop
  | mk (p : Addr) (ys : List V) (e : xs = [.ref p]) (s : S p ys) (q : R ys) : XLen xs S R
def tVar (i : Nat) : TE := fun σ H Q => XVar σ[i]? fun v => Q v H
def tC (v : V) : TE := fun _ H Q => Q v H
theorem pe_var {i : Nat} {x : Str} {pos : Pos} (hN : X.N[i]? = some x) (hv : Vis X.env.scope x) (hd : (x == ("__debug__" : Str)) = false := by decide) (hcd : (x == ("__classdict__" : Str)) = false := by decide) : PE X (.Name x pos) (tVar i) := by
  intro pins s σ H Q I h
  obtain ⟨v, e, h⟩ := h
  obtain ⟨m, hn, hl⟩ := I.loc
  obtain ⟨u, r, l⟩ := hl i x v hN e hv
  have fin : EP X pins σ Q u s := ⟨v, H, I, r, h⟩
  rcases l with ⟨hk, hm⟩ | ⟨hk, c, hc, hcell⟩
  · exact wpAny_Name (wpAny_loadName_local I.ok.kind hk hn hm fin) hd
  · rcases hk with hk | hk
    · exact wpAny_Name (wpAny_loadName_cell I.ok.kind hk hc hcell fin) hd
    · exact wpAny_Name (wpAny_loadName_free I.ok.kind hk hc hcell fin hcd) hd
theorem pe_int {i j pos} : PE X (.Constant (.int i) j pos) (tC (.int i)) := fun _ _ _ H _ I h => wpAny_Constant_int ⟨.int i, H, I.tok _, ⟨_, rfl⟩, h⟩
theorem pe_bl {b j pos} : PE X (.Constant (.bool b) j pos) (tC (.bl b)) := fun _ _ _ H _ I h => Constant_bool ⟨.bl b, H, I, rfl, h⟩
theorem pe_non {j pos} : PE X (.Constant .none j pos) (tC .non) := fun _ _ _ H _ I h => Constant_none ⟨.non, H, I, rfl, h⟩
theorem pe_str {x j pos} : PE X (.Constant (.str x) j pos) (tC (.str x)) := fun _ _ _ H _ I h => Calls.Constant_str ⟨.str x, H, I.tok _, ⟨_, rfl⟩, h⟩
def Gl (X : Cx) (x : Str) : Prop := X.env.kindOf x = some .globalImplicit
theorem ld_glob {E : Value → Shared → Prop} {pins : List (Addr × Obj)} {s : Shared} {σ : St} {H : Hp} {x : Str} {u : Value} {pos : Pos} {Q : Value → Shared → Prop} (I : Inv X pins σ H s) (hg : Gl X x) (hm : X.mg x = some u) (h : Q u s)
    (hd : (x == ("__debug__" : Str)) = false := by decide) : wpAny (model X.prog X.w) X.A (eval (.Name x pos) X.env) Q E s :=
  Calls.Name_function_global I.ok.kind hg (Calls.loadGlobal_global (by rw [I.ok.glob]; exact I.mod.glob.keeps I.bk) hm h) hd
theorem ld_blt {E : Value → Shared → Prop} {pins : List (Addr × Obj)} {s : Shared} {σ : St} {H : Hp} {x : Str} {u : Value} {pos : Pos} {Q : Value → Shared → Prop} (I : Inv X pins σ H s) (hg : Gl X x) (hm : X.mg x = none) (hv : bootBuiltins x = some u) (h : Q u s)
    (hn : x ≠ "__name__" := by decide) (hd : (x == ("__debug__" : Str)) = false := by decide) : wpAny (model X.prog X.w) X.A (eval (.Name x pos) X.env) Q E s := by
  obtain ⟨mb, h1, h2⟩ := I.mod.blt
  exact Calls.Name_function_global I.ok.kind hg (Calls.loadGlobal_builtin (by rw [I.ok.glob]; exact I.mod.glob.keeps I.bk) hm (by rw [I.ok.blt]; exact h1.keeps I.bk) ((h2 x hn).trans hv) h) hd
theorem pe_bltn {x : Str} {v : V} {u : Value} {pos : Pos} (hg : Gl X x) (hm : X.mg x = none) (hv : bootBuiltins x = some u) (r : RelV v u) (hn : x ≠ "__name__" := by decide) (hd : (x == ("__debug__" : Str)) = false := by decide) : PE X (.Name x pos) (tC v) :=
  fun _ _ _ H _ I h => ld_blt I hg hm hv ⟨v, H, I, r, h⟩ hn hd
variable {a b : Expr} {ta tb : TE} {pos : Pos}
def PC (X : Cx) (op : CmpOp) (a b : Expr) (t : TE) : Prop :=
  ∀ (pins : List (Addr × Obj)) (s : Shared) (σ : St) (H : Hp) (Q : VK), Inv X pins σ H s → t σ H Q →
    wpAny (model X.prog X.w) X.A (eval a X.env) (fun v s₁ => wpAny (model X.prog X.w) X.A (eval b X.env) (fun u s₂ => wpAny (model X.prog X.w) X.A (compareOp op v u) (EP X pins σ Q) X.xe s₂) X.xe s₁) X.xe s
theorem nobehind (b : Expr) {op : CmpOp} (h : op ≠ .In) (h2 : op ≠ .NotIn) : behindInMarks op b = false := by
  have e1 : (op == CmpOp.In) = false := by cases op <;> first | rfl | exact absurd rfl h
  have e2 : (op == CmpOp.NotIn) = false := by cases op <;> first | rfl | exact absurd rfl h2
  cases b <;> simp [behindInMarks, e1, e2]
def tIsN (ta : TE) : TE := fun σ H Q => ta σ H fun x H1 => Q (.bl (decide (x = .non))) H1
theorem RelV.none_iff {x : V} {v : Value} (r : RelV x v) : (v == Value.none) = decide (x = .non) := by
  cases x with
  | non => cases r; rfl
  | bl _ => cases r; rfl
  | int _ => obtain ⟨t, rfl⟩ := r; rfl
  | str _ => obtain ⟨t, rfl⟩ := r; rfl
  | byt _ => obtain ⟨t, rfl⟩ := r; rfl
  | flt _ => obtain ⟨t, rfl⟩ := r; rfl
  | ref _ => cases r; rfl
  | ty _ => cases r; rfl
theorem pc_isN {j pos'} (ha : PE X a ta) : PC X .Is a (.Constant .none j pos') (tIsN ta) := by
  intro pins s σ H Q I h
  refine thn (ha pins s σ H _ I h) fun v s1 ⟨x, H1, I1, r1, q1⟩ => ?_
  exact Constant_none (is_none_gen ⟨.bl _, H1, I1, by rw [r1.none_iff]; rfl, q1⟩)
def tB (t : TE) : TT := fun σ H Q => t σ H fun x H1 => XB x fun c => Q c H1
theorem pe_cmp {op : CmpOp} {t : TE} (h : PC X op a b t) (h1 : behindInMarks op b = false := by first | exact nobehind _ (by decide) (by decide) | rfl) : PE X (.Compare a [op] [b] pos) t := fun pins s σ H Q I hw => wpAny_Compare1 (h pins s σ H Q I hw) h1
theorem pt_cmp {op : CmpOp} {t : TE} (h : PC X op a b t) (h1 : behindInMarks op b = false := by first | exact nobehind _ (by decide) (by decide) | rfl) : PT X (.Compare a [op] [b] pos) (tB t) := by
  intro pins s σ H Q I hw
  refine wpAny_isTrue_Compare1 (thn (h pins s σ H _ I hw) fun v s1 h1 => thn h1 fun u s2 h2 => thn h2 fun c s3 ⟨x, H1, I1, r1, q1⟩ => ?_) h1
  obtain ⟨d, rfl, q⟩ := q1
  cases r1
  exact wpAny_truthy_bool ⟨H1, I1, q⟩
theorem pt_val {e : Expr} {t : TE} (h : PE X e t) (he : ∀ whole, isTrue e X.env whole = (do let v ← whole; standAt e.pos; holding [v] (truthy v)) := by intro _; rfl) : PT X e (tB t) := by
  intro pins s σ H Q I hw
  refine isTrue_plain (thn (h pins s σ H _ I hw) fun v s1 ⟨x, H1, I1, r1, q1⟩ => ?_) (he _)
  obtain ⟨d, rfl, q⟩ := q1
  cases r1
  exact wpAny_truthy_bool ⟨H1, I1, q⟩
variable {tA tB' : TT} {rest : List Expr}
def tAnd (t u : TT) : TT := fun σ H Q => t σ H fun c H1 => if c = true then u σ H1 Q else Q false H1
def tOr (t u : TT) : TT := fun σ H Q => t σ H fun c H1 => if c = true then Q true H1 else u σ H1 Q
def tNot (t : TT) : TT := fun σ H Q => t σ H fun c H1 => Q (!c) H1
theorem pw_and1 (ha : PT X a tA) : PW X (.BoolOp .And [a] pos) tA := by
  intro wh pins s σ H Q I h
  refine isTrue_and (thn (ha pins s σ H Q I h) fun c s1 e => ?_)
  cases c with
  | true => exact isTrue_and_nil e
  | false => exact e
theorem pw_or1 (ha : PT X a tA) : PW X (.BoolOp .Or [a] pos) tA := by
  intro wh pins s σ H Q I h
  refine isTrue_or (thn (ha pins s σ H Q I h) fun c s1 e => ?_)
  cases c with
  | false => exact isTrue_or_nil e
  | true => exact e
theorem pw_and (ha : PT X a tA) (hb : PW X (.BoolOp .And (b :: rest) pos) tB') : PW X (.BoolOp .And (a :: b :: rest) pos) (tAnd tA tB') := by
  intro wh pins s σ H Q I h
  refine isTrue_and (thn (ha pins s σ H _ I h) fun c s1 ⟨H1, I1, q1⟩ => ?_)
  cases c with
  | true => exact hb wh pins s1 σ H1 Q I1 q1
  | false => exact ⟨H1, I1, q1⟩
theorem pw_or (ha : PT X a tA) (hb : PW X (.BoolOp .Or (b :: rest) pos) tB') : PW X (.BoolOp .Or (a :: b :: rest) pos) (tOr tA tB') := by
  intro wh pins s σ H Q I h
  refine isTrue_or (thn (ha pins s σ H _ I h) fun c s1 ⟨H1, I1, q1⟩ => ?_)
  cases c with
  | true => exact ⟨H1, I1, q1⟩
  | false => exact hb wh pins s1 σ H1 Q I1 q1
theorem pt_not (ha : PT X a tA) : PT X (.UnaryOp .Not a pos) (tNot tA) := by
  intro pins s σ H Q I h
  exact isTrue_not (ha pins s σ H (fun c H1 => Q (!c) H1) I h)
def tAndV (ta tb : TE) : TE := fun σ H Q => ta σ H fun x H1 => XB x fun c => if c = true then tb σ H1 Q else Q (.bl false) H1
def tOrV (ta tb : TE) : TE := fun σ H Q => ta σ H fun x H1 => XB x fun c => if c = true then Q (.bl true) H1 else tb σ H1 Q
def tNotV (ta : TE) : TE := fun σ H Q => ta σ H fun x H1 => XB x fun c => Q (.bl (!c)) H1
theorem pe_one {op} {t : TE} (h : PE X a t) : PE X (.BoolOp op [a] pos) t := fun pins s σ H Q I hw => BoolOp_one (h pins s σ H Q I hw)
theorem pe_and (ha : PE X a ta) (hb : PE X (.BoolOp .And (b :: rest) pos) tb) : PE X (.BoolOp .And (a :: b :: rest) pos) (tAndV ta tb) := by
  intro pins s σ H Q I h
  refine BoolOp_and (thn (ha pins s σ H _ I h) fun v s1 ⟨x, H1, I1, r1, q1⟩ => ?_)
  obtain ⟨c, rfl, q1⟩ := q1
  cases r1
  refine wpAny_truthy_bool ?_
  cases c with
  | true => exact hb pins s1 σ H1 Q I1 q1
  | false => exact ⟨.bl false, H1, I1, rfl, q1⟩
theorem pe_or (ha : PE X a ta) (hb : PE X (.BoolOp .Or (b :: rest) pos) tb) : PE X (.BoolOp .Or (a :: b :: rest) pos) (tOrV ta tb) := by
  intro pins s σ H Q I h
  refine BoolOp_or (thn (ha pins s σ H _ I h) fun v s1 ⟨x, H1, I1, r1, q1⟩ => ?_)
  obtain ⟨c, rfl, q1⟩ := q1
  cases r1
  refine wpAny_truthy_bool ?_
  cases c with
  | false => exact hb pins s1 σ H1 Q I1 q1
  | true => exact ⟨.bl true, H1, I1, rfl, q1⟩
theorem pe_not (ha : PE X a ta) : PE X (.UnaryOp .Not a pos) (tNotV ta) := by
  intro pins s σ H Q I h
  refine UnaryOp_ (thn (ha pins s σ H _ I h) fun v s1 ⟨x, H1, I1, r1, q1⟩ => ?_)
  obtain ⟨c, rfl, q1⟩ := q1
  cases r1
  exact not_of (wpAny_truthy_bool ⟨.bl (!c), H1, I1, rfl, q1⟩)
def tIf (t : TT) (ta tb : TE) : TE := fun σ H Q => t σ H fun c H1 => if c = true then ta σ H1 Q else tb σ H1 Q
theorem pe_ifExp {c : Expr} (hc : PT X c tA) (ha : PE X a ta) (hb : PE X b tb) : PE X (.IfExp c a b pos) (tIf tA ta tb) := by
  intro pins s σ H Q I h
  refine wpAny_IfExp (thn (hc pins s σ H _ I h) fun d s1 ⟨H1, I1, q1⟩ => ?_)
  cases d with
  | true => exact ha pins s1 σ H1 Q I1 q1
  | false => exact hb pins s1 σ H1 Q I1 q1
end
end L2
namespace L2
open PySem PySem.Spec PyProof.Rows
def SqL (K : PySem.W.Frag) (H : Hp) (a : Addr) (xs : List V) : Prop :=
  Rd H a (.lst xs) ∨
    ∃ (o : Obj) (its : Array Value) (n : Nat), K.lookup a = some o ∧ o.cls = .type "list" ∧ o.dict = none ∧ o.data = .seq its n ∧ its.size ≤ sizeLine ∧ Vals xs its.toList
def SqT (K : PySem.W.Frag) (H : Hp) (a : Addr) (xs : List V) : Prop :=
  Rd H a (.tup xs) ∨
    ∃ (o : Obj) (its : Array Value) (n : Nat), K.lookup a = some o ∧ o.cls = .type "tuple" ∧ o.data = .seq its n ∧ its.size ≤ sizeLine ∧ Vals xs its.toList
def absV : Value → Option V
  | .none => some .non
  | .bool b => some (.bl b)
  | .int i _ => some (.int i)
  | .str x _ => some (.str x)
  | .bytes b _ => some (.byt b)
  | .float b _ => some (.flt b)
  | .ref a => some (.ref a)
  | .type n => some (.ty n)
  | _ => none
theorem RelV.abs {x : V} {u : Value} (r : RelV x u) : absV u = some x := by
  cases x with
  | non => cases r; rfl
  | bl _ => cases r; rfl
  | int _ => obtain ⟨t, rfl⟩ := r; rfl
  | str _ => obtain ⟨t, rfl⟩ := r; rfl
  | byt _ => obtain ⟨t, rfl⟩ := r; rfl
  | flt _ => obtain ⟨t, rfl⟩ := r; rfl
  | ref _ => cases r; rfl
  | ty _ => cases r; rfl
theorem RelV.inj {x y : V} {u : Value} (r : RelV x u) (q : RelV y u) : x = y := Option.some.inj (r.abs.symm.trans q.abs)
theorem Vals.inj : ∀ {xs ys : List V} {us : List Value}, Vals xs us → Vals ys us → xs = ys
  | _, _, _, .nil, .nil => rfl
  | _, _, _, .cons r t, .cons r' t' => by rw [r.inj r', Vals.inj t t']
section
variable {X : Cx} {pins : List (Addr × Obj)} {σ : St} {H : Hp} {s : Shared} {a : Addr} {xs ys : List V}
theorem SqL.of {K : PySem.W.Frag} (h : H a = some (.lst xs)) : SqL K H a xs := .inl (.inl h)
theorem SqT.of {K : PySem.W.Frag} (h : H a = some (.tup xs)) : SqT K H a xs := .inl (.inl h)
theorem Inv.list (I : Inv X pins σ H s) (h : SqL X.K H a xs) : ∃ its : List Value, Vals xs its ∧ PlainL s.heap a its.toArray ∧ xs.length ≤ sizeLine := by
  rcases h with h | ⟨o, its, n, hk, hc, hd, hs, hz, r⟩
  · obtain ⟨z, its, n, r, e⟩ := h.ok I.hok
    exact ⟨its, r, ⟨_, n, e, rfl, rfl, rfl⟩, z⟩
  · refine ⟨its.toList, r, ⟨o, n, I.kIn a o hk, hc, hd, by simpa using hs⟩, ?_⟩
    have e := r.length
    simp only [Array.length_toList] at e
    omega
theorem Inv.tuple (I : Inv X pins σ H s) (h : SqT X.K H a xs) : ∃ its : List Value, Vals xs its ∧ IsTup s.heap a its.toArray ∧ xs.length ≤ sizeLine := by
  rcases h with h | ⟨o, its, n, hk, hc, hs, hz, r⟩
  · obtain ⟨z, its, r, p⟩ := h.ok I.hok
    exact ⟨its, r, p, z⟩
  · refine ⟨its.toList, r, ⟨o, I.kIn a o hk, hc, n, by simpa using hs⟩, ?_⟩
    have e := r.length
    simp only [Array.length_toList] at e
    omega
theorem Inv.list_inj (I : Inv X pins σ H s) (h : SqL X.K H a xs) (h' : SqL X.K H a ys) : xs = ys := by
  obtain ⟨its, r, ⟨o, n, e, _, _, d⟩, _⟩ := I.list h
  obtain ⟨its', r', ⟨o', n', e', _, _, d'⟩, _⟩ := I.list h'
  rw [e] at e'; cases e'
  rw [d] at d'
  injection d' with d1 _
  have : its = its' := by simpa using congrArg Array.toList d1
  subst this
  exact r.inj r'
theorem Inv.tuple_inj (I : Inv X pins σ H s) (h : SqT X.K H a xs) (h' : SqT X.K H a ys) : xs = ys := by
  obtain ⟨its, r, ⟨o, e, _, n, d⟩, _⟩ := I.tuple h
  obtain ⟨its', r', ⟨o', e', _, n', d'⟩, _⟩ := I.tuple h'
  rw [e] at e'; cases e'
  rw [d] at d'
  injection d' with d1 _
  have : its = its' := by simpa using congrArg Array.toList d1
  subst this
  exact r.inj r'
end
abbrev Cx.wish (X : Cx) (E : Value → Shared → Prop) : Cx := { X with xe := E }
abbrev Cx.nox (X : Cx) : Cx := X.wish fun _ _ => False
theorem Cx.Ok.wish {X : Cx} (ok : X.Ok) (E : Value → Shared → Prop) : (X.wish E).Ok :=
  ⟨ok.mod, ok.kind, ok.glob, ok.blt, ok.above, ok.inj, ok.has, ok.cab, ok.hd, ok.frames, ok.stk, ok.exf, ok.bs, ok.bsz, ok.noex, ok.exfs, ok.funs, ok.frf⟩
theorem Cx.Ok.unwish {X : Cx} {E : Value → Shared → Prop} (ok : (X.wish E).Ok) : X.Ok :=
  ⟨ok.mod, ok.kind, ok.glob, ok.blt, ok.above, ok.inj, ok.has, ok.cab, ok.hd, ok.frames, ok.stk, ok.exf, ok.bs, ok.bsz, ok.noex, ok.exfs, ok.funs, ok.frf⟩
section
variable {X : Cx} {pins : List (Addr × Obj)} {σ : St} {H : Hp} {s : Shared} {E : Value → Shared → Prop}
theorem Inv.wish (I : Inv X pins σ H s) (E : Value → Shared → Prop) : Inv (X.wish E) pins σ H s := ⟨I.ok.wish E, I.os, I.bare, I.base, I.loc, I.cell, I.free, I.freeC, I.pin, I.hok, I.len⟩
theorem Inv.unwish (I : Inv (X.wish E) pins σ H s) : Inv X pins σ H s := ⟨I.ok.unwish, I.os, I.bare, I.base, I.loc, I.cell, I.free, I.freeC, I.pin, I.hok, I.len⟩
theorem SP.unwish {D : Ends} {f : Flow} {s' : Shared} (h : SP (X.wish E) pins D f s') : SP X pins D f s' := by
  cases f with
  | next => obtain ⟨σ', H', I, q⟩ := h; exact ⟨σ', H', I.unwish, q⟩
  | brk => obtain ⟨σ', H', I, q⟩ := h; exact ⟨σ', H', I.unwish, q⟩
  | cont => obtain ⟨σ', H', I, q⟩ := h; exact ⟨σ', H', I.unwish, q⟩
  | ret u => obtain ⟨v, σ', H', I, r, q⟩ := h; exact ⟨v, σ', H', I.unwish, r, q⟩
theorem PE.nox {e : Expr} {t : TE} (h : PE X.nox e t) : PE X e t := fun pins s σ H Q I hw =>
  wpAny_mono (h pins s σ H Q (I.wish _) hw) (fun _ _ ⟨v, H', I', r, q⟩ => ⟨v, H', I'.unwish, r, q⟩) fun _ _ z => False.elim z
theorem PT.nox {e : Expr} {t : TT} (h : PT X.nox e t) : PT X e t := fun pins s σ H Q I hw =>
  wpAny_mono (h pins s σ H Q (I.wish _) hw) (fun _ _ ⟨H', I', q⟩ => ⟨H', I'.unwish, q⟩) fun _ _ z => False.elim z
theorem PSs.nox {st : List Stmt} {t : TS} (h : PSs X.nox st t) : PSs X st t := fun pins s σ H D I hw =>
  wpAny_mono (h pins s σ H D (I.wish _) hw) (fun _ _ q => q.unwish) fun _ _ z => False.elim z
end
section
variable {X : Cx} {st : Stmt} {rest : List Stmt} {t u : TS} {e : Expr} {te : TE} {pos : Pos}
def tNext : TS := fun D σ H => D.nx σ H
def tSeq (t u : TS) : TS := fun D σ H => t { D with nx := u D } σ H
theorem pss_nil : PSs X [] tNext := fun _ _ σ H _ I h => wpAny_execs_nil ⟨σ, H, I, h⟩
theorem pss_cons (h1 : PS X st t) (h2 : PSs X rest u) : PSs X (st :: rest) (tSeq t u) := by
  intro pins s σ H D I h
  refine wpAny_execs_cons (thn (h1 pins s σ H { D with nx := u D } I h) fun f s1 q => ?_)
  cases f with
  | next =>
    obtain ⟨σ', H', I', q⟩ := q
    exact h2 pins s1 σ' H' D I' q
  | ret v => exact q
  | brk => exact q
  | cont => exact q
theorem pss_one (h1 : PS X st t) : PSs X [st] t := by
  intro pins s σ H D I h
  refine wpAny_execs_cons (thn (h1 pins s σ H D I h) fun f s1 q => ?_)
  cases f with
  | next => exact wpAny_execs_nil q
  | ret v => exact q
  | brk => exact q
  | cont => exact q
def tBreak : TS := fun D σ H => D.bk σ H
theorem ps_break : PS X (.Break pos) tBreak := fun _ _ σ H _ I h => wpAny_Break ⟨σ, H, I, h⟩
theorem Inv.quiet {pins : List (Addr × Obj)} {σ : St} {H : Hp} {s : Shared} (I : Inv X pins σ H s) : interactive X.env = false := by simp [interactive, I.ok.kind]
def tDrop (te : TE) : TS := fun D σ H => te σ H fun _ H1 => D.nx σ H1
theorem ps_expr (he : PE X e te) (hs : swapsWith e none pos.line X.env = pure false := by rfl) : PS X (.Expr e pos) (tDrop te) := by
  intro pins s σ H D I h
  exact wpAny_Expr_any (thn (he pins s σ H _ I h) fun v s1 ⟨x, H1, I1, r1, q1⟩ => ⟨σ, H1, I1, q1⟩) I.quiet hs
def tRet (te : TE) : TS := fun D σ H => te σ H D.rt
theorem ps_ret (he : PE X e te) : PS X (.Return (some e) pos) (tRet te) := by
  intro pins s σ H D I h
  exact wpAny_Return_some (thn (he pins s σ H _ I h) fun v s1 ⟨x, H1, I1, r1, q1⟩ => ⟨x, σ, H1, I1, r1, q1⟩)
def tIfS (c : TT) (t u : TS) : TS := fun D σ H => c σ H fun b H1 => if b = true then t D σ H1 else u D σ H1
theorem ps_if {c : Expr} {a b : List Stmt} {tc : TT} (hc : PT X c tc) (ha : PSs X a t) (hb : PSs X b u) : PS X (.If c a b pos) (tIfS tc t u) := by
  intro pins s σ H D I h
  refine wpAny_If (thn (hc pins s σ H _ I h) fun d s1 ⟨H1, I1, q1⟩ => ?_)
  cases d with
  | true => exact ha pins s1 σ H1 D I1 q1
  | false => exact hb pins s1 σ H1 D I1 q1
end
abbrev TG := V → St → Hp → (St → Hp → Prop) → Prop
abbrev TGs := List V → St → Hp → (St → Hp → Prop) → Prop
def PG (X : Cx) (target : Expr) (t : TG) : Prop :=
  ∀ (pins : List (Addr × Obj)) (s : Shared) (σ : St) (H : Hp) (v : V) (u : Value) (Q : St → Hp → Prop), Inv X pins σ H s → RelV v u → t v σ H Q →
    wpAny (model X.prog X.w) X.A (assign target X.env u) (fun _ s' => ∃ σ' H', Inv X pins σ' H' s' ∧ Q σ' H') X.xe s
def PGs (X : Cx) (ts : List Expr) (t : TGs) : Prop :=
  ∀ (pins : List (Addr × Obj)) (s : Shared) (σ : St) (H : Hp) (vs : List V) (us : List Value) (Q : St → Hp → Prop), Inv X pins σ H s → Vals vs us → t vs σ H Q →
    wpAny (model X.prog X.w) X.A (assignInOrder ((assignEach ts X.env).map (·.2)) us) (fun _ s' => ∃ σ' H', Inv X pins σ' H' s' ∧ Q σ' H') X.xe s
section
variable {X : Cx} {pos : Pos}
def gName (i : Nat) : TG := fun v σ H Q => Q (σ.set i (some v)) H
theorem pg_name {i : Nat} {x : Str} (hN : X.N.Nodup) (hi : X.N[i]? = some x) (hx : Loc X.env.scope x) (hf : X.fn x = true ∨ X.env.scope.names.lookup x = some .local := by first | exact .inl rfl | exact .inr rfl | assumption) : PG X (.Name x pos) (gName i) := by
  intro pins s σ H v u Q I r h
  exact wpAny_assign_Name (store_ok I hN hi hx r (fun s' I' => ⟨_, H, I', h⟩) hf)
def gNil : TGs := fun vs σ H Q => vs = [] ∧ Q σ H
def gCons (t : TG) (u : TGs) : TGs := fun vs σ H Q => XCons vs fun v r => t v σ H fun σ' H' => u r σ' H' Q
theorem pgs_nil : PGs X [] gNil := by
  intro pins s σ H vs us Q I r h
  obtain ⟨e, h⟩ := h
  subst e
  cases r
  exact assignInOrder_nil ⟨σ, H, I, h⟩
theorem pgs_cons {e : Expr} {es : List Expr} {t : TG} {u : TGs} (h1 : PG X e t) (h2 : PGs X es u)
    (hs : (assignEach (e :: es) X.env).map (·.2) = assign e X.env :: (assignEach es X.env).map (·.2) := by rfl) : PGs X (e :: es) (gCons t u) := by
  intro pins s σ H vs us Q I r h
  obtain ⟨v, vr, e1, h⟩ := h
  subst e1
  cases r with
  | cons r rr =>
    rw [hs]
    refine assignInOrder_cons (thn (h1 pins s σ H _ _ _ I r h) fun _ s1 ⟨σ1, H1, I1, q1⟩ => ?_)
    exact h2 pins s1 σ1 H1 _ _ Q I1 rr q1
def gTup (K : PySem.W.Frag) (n : Nat) (t : TGs) : TG := fun v σ H Q => XTup v (SqT K H) n fun xs => t xs σ H Q
theorem pg_tup {es : List Expr} {k : Nat} {t : TGs} {n : Nat} (hc : X.calm = true) (h : PGs X es t)
    (hn : (assignEach es X.env).length = n := by rfl) (hst : (assignEach es X.env).findIdx? (·.1) = none := by rfl) : PG X (.Tuple es k pos) (gTup X.K n t) := by
  intro pins s σ H v u Q I r hw
  obtain ⟨a, xs, e1, hq, hl, hw⟩ := hw
  subst e1
  cases r
  obtain ⟨its, rv, ht, hz⟩ := I.tuple hq
  refine assign_Tuple_tuple (I.ok.hd hc) ht (by simp [hn, ← hl, rv.length]) hst fun h' hx => ?_
  have I1 : Inv X pins σ H { s with heap := h' } := I.kept (t' := s.toks) fun b o e => hx b o (Nat.ne_of_lt (Heap.lt_size e)) e
  exact h pins _ σ H xs _ Q I1 (by simpa using rv) hw
def tAsg (te : TE) (g : TG) : TS := fun D σ H => te σ H fun x H1 => g x σ H1 D.nx
theorem ps_asg {tg e : Expr} {te : TE} {g : TG} (he : PE X e te) (hg : PG X tg g) (hs : swapsWithSole [tg] e pos.line X.env = pure false := by rfl) (hw : swappedStores [tg] e X.env = pure none := by rfl)
    (h1 : (assignEach [tg] X.env).map (·.2) = [assign tg X.env] := by rfl) : PS X (.Assign [tg] e pos) (tAsg te g) := by
  intro pins s σ H D I h
  refine wpAny_Assign_stores (thn (he pins s σ H _ I h) fun v s1 ⟨x, H1, I1, r1, q1⟩ => ?_) hs hw
  rw [h1]
  exact thn (hg pins s1 σ H1 x v _ I1 r1 q1) fun _ s2 q => q
theorem ps_set {i : Nat} {x : Str} {e : Expr} {te : TE} {pos' : Pos} (hN : X.N.Nodup) (hi : X.N[i]? = some x) (hx : Loc X.env.scope x) (he : PE X e te) (hs : swapsWith e (some (.Name x pos')) pos.line X.env = pure false := by rfl) (hf : X.fn x = true ∨ X.env.scope.names.lookup x = some .local := by first | exact .inl rfl | exact .inr rfl | assumption) :
    PS X (.Assign [.Name x pos'] e pos) (tAsg te (gName i)) := by
  intro pins s σ H D I h
  refine wpAny_Assign_Name (thn (he pins s σ H _ I h) fun v s1 ⟨y, H1, I1, r1, q1⟩ => ?_) hs
  exact store_ok I1 hN hi hx r1 (fun s2 I2 => ⟨_, H1, I2, q1⟩) hf
end
section
variable {X : Cx} {pos : Pos}
def tWhile (c : TT) (tb : TS) : TS := fun D σ H => ∃ W : Nat → St → Hp → Prop, (∃ m, W m σ H) ∧ ∀ m σ H, W m σ H →
  c σ H fun b H1 => if b = true then ∃ N : St → Hp → Prop, (∀ σ' H', N σ' H' → ∃ m', m' < m ∧ W m' σ' H') ∧ tb { D with nx := N, ct := N, bk := D.nx } σ H1 else D.nx σ H1
theorem ps_while {c : Expr} {body : List Stmt} {tc : TT} {tb : TS} (hp : PassesOwn (model X.prog X.w) X.A X.env X.xe) (hc : PT X c tc) (hb : PSs X body tb) : PS X (.While c body [] pos) (tWhile tc tb) := by
  intro pins s σ H D I h
  obtain ⟨W, ⟨m0, w0⟩, turn⟩ := h
  refine wpAny_While (codeAny_whileLoop (fun n s' => ∃ σ' H', Inv X pins σ' H' s' ∧ W n σ' H') ?_ m0 ⟨σ, H, I, w0⟩)
  rintro n s1 ⟨σ1, H1, I1, w1⟩
  refine wpAny_passesOwn hp (thn (hc pins s1 σ1 H1 _ I1 (turn n σ1 H1 w1)) fun b s2 ⟨H2, I2, q2⟩ => ?_)
  cases b with
  | true =>
    obtain ⟨N, hN, q2⟩ := q2
    rw [if_pos rfl]
    refine wpAny_passesOwn hp (thn (hb pins s2 σ1 H2 _ I2 q2) fun f s3 q3 => ?_)
    cases f with
    | next =>
      obtain ⟨σ3, H3, I3, n3⟩ := q3
      obtain ⟨m', hm, w3⟩ := hN σ3 H3 n3
      exact ⟨m', hm, σ3, H3, I3, w3⟩
    | cont =>
      obtain ⟨σ3, H3, I3, n3⟩ := q3
      obtain ⟨m', hm, w3⟩ := hN σ3 H3 n3
      exact ⟨m', hm, σ3, H3, I3, w3⟩
    | brk => exact q3
    | ret v => exact q3
  | false =>
    rw [if_neg Bool.false_ne_true]
    exact wpAny_execs_nil ⟨σ1, H2, I2, q2⟩
end
structure It where
  go : Nat → Hp → Prop
  yld : Nat → Hp → V → Hp → Prop
  stop : Nat → Hp → Prop
def FpOk (X : Cx) (pins : List (Addr × Obj)) (H : Hp) (b : Addr) : Prop :=
  H b = none ∧ b ≠ X.env.locals ∧ b ∉ X.fs ∧ (b ∈ X.ex ∨ X.s₀.heap.objs.size ≤ b) ∧ (∀ x c, X.env.cells.lookup x = some c → c ≠ b) ∧ ∀ p ∈ X.pn ++ pins, p.1 ≠ b
theorem Inv.fpOk {X : Cx} {pins : List (Addr × Obj)} {σ : St} {H H' : Hp} {s : Shared} {b : Addr} (I : Inv X pins σ H s) (hb : s.heap.objs.size ≤ b) (hn : H' b = none) : FpOk X pins H' b := by
  refine ⟨hn, Nat.ne_of_gt (Nat.lt_of_lt_of_le I.lt hb), I.nofs hb, .inr (Nat.le_trans I.sz hb), fun x c e z => ?_, fun p hp z => ?_⟩
  · obtain ⟨v, q⟩ := I.cell x c e
    exact absurd (Nat.lt_of_lt_of_le q.lt (by rw [z]; exact hb)) (Nat.lt_irrefl _)
  · exact absurd (Nat.lt_of_lt_of_le (Heap.lt_size (I.pin p hp).1) (by rw [z]; exact hb)) (Nat.lt_irrefl _)
structure Turn (P : Program) (w : World) (K : PySem.W.Frag) (tg : Expr) (J : It) (fp : List Addr) (it : Addr) (tn : Nat → Heap → Prop) : Prop where
  mem : it ∈ fp
  obj : ∀ i h, tn i h → ∀ b ∈ fp, ∃ o, h.get? b = some o ∧ ∀ v, o.data ≠ .cell v
  keep : ∀ i h h', tn i h → (∀ b ∈ fp, ∀ o, h.get? b = some o → h'.get? b = some o) → tn i h'
  item : ∀ (X : Cx), X.prog = P → X.w = w → X.K = K → X.calm = true → ∀ (i : Nat) (pins : List (Addr × Obj)) (s : Shared) (σ : St) (H : Hp) (E : Value → Shared → Prop), Inv X pins σ H s → (∀ b ∈ fp, FpOk X pins H b) → tn i s.heap → J.go i H →
    wpAny (model P w) X.A (pyNext (.ref it)) (fun r s1 => ∃ u, r = some u ∧
      wpAny (model P w) X.A (letOwnedTupleGo tg (.ref it) u) (fun _ s2 => ∃ x H', Inv X pins σ H' s2 ∧ RelV x u ∧ J.yld i H x H' ∧ tn (i + 1) s2.heap ∧ ∀ b ∈ fp, H' b = none) E s1) E s
  done : ∀ (X : Cx), X.prog = P → X.w = w → X.K = K → X.calm = true → ∀ (i : Nat) (pins : List (Addr × Obj)) (s : Shared) (σ : St) (H : Hp) (E : Value → Shared → Prop), Inv X pins σ H s → (∀ b ∈ fp, FpOk X pins H b) → tn i s.heap → J.stop i H →
    wpAny (model P w) X.A (pyNext (.ref it)) (fun r s1 => r = none ∧ Inv X pins σ H s1) E s
  self : ∀ (A : Around) (i : Nat) (s : Shared) (Q : Value → Shared → Prop) (E : Value → Shared → Prop), tn i s.heap → Q (.ref it) s → wpAny (model P w) A (pyIter (.ref it)) Q E s
abbrev TI := St → Hp → (It → Hp → Prop) → Prop
def PIE (X : Cx) (pins : List (Addr × Obj)) (σ : St) (tg : Expr) (R : It → Hp → Prop) (itv : Value) (s2 : Shared) : Prop :=
  ∃ (it : Addr) (fp : List Addr) (tn : Nat → Heap → Prop) (J : It) (H' : Hp), itv = .ref it ∧ Inv X pins σ H' s2 ∧ Turn X.prog X.w X.K tg J fp it tn ∧ tn 0 s2.heap ∧ (∀ b ∈ fp, FpOk X pins H' b) ∧ R J H'
def PI (X : Cx) (tg iter : Expr) (wi : TI) : Prop :=
  ∀ (pins : List (Addr × Obj)) (s : Shared) (σ : St) (H : Hp) (R : It → Hp → Prop), Inv X pins σ H s → wi σ H R →
    wpAny (model X.prog X.w) X.A (eval iter X.env) (fun v s1 => wpAny (model X.prog X.w) X.A (pyIter v) (PIE X pins σ tg R) X.xe s1) X.xe s
theorem go_of {M : Model} {A : Around} {E : Value → Shared → Prop} {s : Shared} {tg : Expr} {it : Addr} {u : Value} {o : Obj} {n : String} {vs : Array Value} {Q : Unit → Shared → Prop} (ho : s.heap.get? it = some o) (hc : o.cls = .type n) (hd : o.data = .fields vs)
    (hn : ["enumerate", "zip", "dict_itemiterator", "dict_reverseitemiterator", "odict_iterator", "itertools.zip_longest", "itertools.pairwise"].contains n = false) (hQ : Q () s) : wpAny M A (letOwnedTupleGo tg (.ref it) u) Q E s := by
  unfold letOwnedTupleGo
  cases tg <;> first
    | exact wpAny_pure hQ
    | (cases u <;> first
        | exact wpAny_pure hQ
        | (refine wpAny_bind (wpAny_load ho ?_)
           rw [hc, hd]
           show wpAny M A (if (["enumerate", "zip", "dict_itemiterator", "dict_reverseitemiterator", "odict_iterator", "itertools.zip_longest", "itertools.pairwise"].contains n && vs[0]? == some (rawInt _)) = true then _ else _) Q E s
           rw [if_neg (by intro h; rw [hn, Bool.false_and] at h; cases h)]
           exact wpAny_pure hQ))
def Itl (K : PySem.W.Frag) (a : Addr) : It :=
  ⟨fun i H => ∃ xs x, SqL K H a xs ∧ xs[i]? = some x, fun i H x H' => H' = H ∧ ∀ xs, SqL K H a xs → xs[i]? = some x, fun i H => ∃ xs, SqL K H a xs ∧ xs.length ≤ i⟩
def Itt (K : PySem.W.Frag) (a : Addr) : It :=
  ⟨fun i H => ∃ xs x, SqT K H a xs ∧ xs[i]? = some x, fun i H x H' => H' = H ∧ ∀ xs, SqT K H a xs → xs[i]? = some x, fun i H => ∃ xs, SqT K H a xs ∧ xs.length ≤ i⟩
def Itr (lo : Int) (n : Nat) : It := ⟨fun i _ => i < n, fun i H x H' => H' = H ∧ x = .int (lo + i), fun i _ => n ≤ i⟩
theorem turn_list {P : Program} {w : World} {K : PySem.W.Frag} {tg : Expr} (a it : Addr) : Turn P w K tg (Itl K a) [it] it (fun i h => h.IsListIter it a i) where
  mem := by simp
  obj := fun i h st b hb => by
    have e : b = it := by simpa using hb
    subst e
    obtain ⟨o, e, c, d⟩ := st
    exact ⟨o, e, fun v z => by rw [d] at z; cases z⟩
  keep := fun i h h' st k => st.at fun o e => k it (by simp) o e
  item := by
    intro X hP hw hK hc i pins s σ H E I hf st hg
    subst hP hw hK
    obtain ⟨xs, x, hq, hx⟩ := hg
    obtain ⟨its, rv, p, hz⟩ := I.list hq
    obtain ⟨u, hu, ru⟩ := rv.get hx
    obtain ⟨f0, f1, f2, f3, f4, f5⟩ := hf it (by simp)
    refine wpAny_pyNext_list_item st p.isList (x := u) (by simpa using hu) fun h' st' sb => ?_
    have I1 : Inv X pins σ H { s with heap := h' } := I.turned (t' := s.toks) (fun b o hb e => (sb.2 b hb).trans e) f0 f1 f3 f4 f5
    obtain ⟨o, e, c, d⟩ := id st'
    exact ⟨u, rfl, go_of (s := { s with heap := h' }) e c d (by decide) ⟨x, H, I1, ru, ⟨rfl, fun ys hy => by rw [I.list_inj hy hq]; exact hx⟩, st', fun b hb => (hf b hb).1⟩⟩
  done := by
    intro X hP hw hK hc i pins s σ H E I hf st hg
    subst hP hw hK
    obtain ⟨xs, hq, hx⟩ := hg
    obtain ⟨its, rv, p, hz⟩ := I.list hq
    obtain ⟨f0, f1, f2, f3, f4, f5⟩ := hf it (by simp)
    have hl := rv.length
    exact wpAny_pyNext_list_end (I.ok.hd hc) st p.isList (by simp; omega) fun h' eb => ⟨rfl, I.turned (t' := s.toks) (fun b o hb e => eb b o hb e) f0 f1 f3 f4 f5⟩
  self := fun _ _ _ _ _ st h => wpAny_pyIter_listiter st h
theorem turn_tuple {P : Program} {w : World} {K : PySem.W.Frag} {tg : Expr} (a it : Addr) : Turn P w K tg (Itt K a) [it] it (fun i h => h.IsTupleIter it a i) where
  mem := by simp
  obj := fun i h st b hb => by
    have e : b = it := by simpa using hb
    subst e
    obtain ⟨o, e, c, d⟩ := st
    exact ⟨o, e, fun v z => by rw [d] at z; cases z⟩
  keep := fun i h h' st k => st.at fun o e => k it (by simp) o e
  item := by
    intro X hP hw hK hc i pins s σ H E I hf st hg
    subst hP hw hK
    obtain ⟨xs, x, hq, hx⟩ := hg
    obtain ⟨its, rv, p, hz⟩ := I.tuple hq
    obtain ⟨u, hu, ru⟩ := rv.get hx
    obtain ⟨f0, f1, f2, f3, f4, f5⟩ := hf it (by simp)
    refine wpAny_pyNext_tuple_item st (show s.heap.IsTuple a its.toArray from p) (x := u) (by simpa using hu) fun h' st' sb => ?_
    have I1 : Inv X pins σ H { s with heap := h' } := I.turned (t' := s.toks) (fun b o hb e => (sb.2 b hb).trans e) f0 f1 f3 f4 f5
    obtain ⟨o, e, c, d⟩ := id st'
    exact ⟨u, rfl, go_of (s := { s with heap := h' }) e c d (by decide) ⟨x, H, I1, ru, ⟨rfl, fun ys hy => by rw [I.tuple_inj hy hq]; exact hx⟩, st', fun b hb => (hf b hb).1⟩⟩
  done := by
    intro X hP hw hK hc i pins s σ H E I hf st hg
    subst hP hw hK
    obtain ⟨xs, hq, hx⟩ := hg
    obtain ⟨its, rv, p, hz⟩ := I.tuple hq
    obtain ⟨f0, f1, f2, f3, f4, f5⟩ := hf it (by simp)
    have hl := rv.length
    exact wpAny_pyNext_tuple_end (I.ok.hd hc) st (show s.heap.IsTuple a its.toArray from p) (by simp; omega) fun h' eb => ⟨rfl, I.turned (t' := s.toks) (fun b o hb e => eb b o hb e) f0 f1 f3 f4 f5⟩
  self := fun _ _ _ _ _ st h => wpAny_pyIter_tupleiter st h
theorem turn_range {P : Program} {w : World} {K : PySem.W.Frag} {tg : Expr} (it : Addr) (lo : Int) (n : Nat) : Turn P w K tg (Itr lo n) [it] it (fun i h => IsRangeIter h it (lo + (i : Nat) * 1) ((n : Int) - (i : Nat)) 1) where
  mem := by simp
  obj := fun i h st b hb => by
    have e : b = it := by simpa using hb
    subst e
    exact ⟨_, st, fun v z => by
      have z' : Data.fields _ = Data.cell v := z
      cases z'⟩
  keep := fun i h h' st k => k it (by simp) _ st
  item := by
    intro X hP hw hK hc i pins s σ H E I hf st hg
    subst hP hw hK
    obtain ⟨f0, f1, f2, f3, f4, f5⟩ := hf it (by simp)
    have W := Walks.range (prog := X.prog) (w := X.w) (I.ok.hd hc) it lo 1 n
    refine W.item i s _ _ hg st fun v h' tk hv st' kk => ?_
    obtain ⟨t, rfl⟩ := hv
    have I1 : Inv X pins σ H { s with heap := h', toks := tk } := I.turned (fun b o hb e => kk b o (by simpa using hb) e) f0 f1 f3 f4 f5
    refine ⟨_, rfl, go_of (s := { s with heap := h', toks := tk }) (n := "range_iterator") st' rfl rfl (by decide) ⟨.int (lo + i), H, I1, ⟨t, ?_⟩, ⟨rfl, rfl⟩, st', fun b hb => (hf b hb).1⟩⟩
    rw [Int.mul_one]
  done := by
    intro X hP hw hK hc i pins s σ H E I hf st hg
    subst hP hw hK
    obtain ⟨f0, f1, f2, f3, f4, f5⟩ := hf it (by simp)
    exact wpAny_pyNext_range_end (I.ok.hd hc) st (by have : n ≤ i := hg; omega) fun h' eb => ⟨rfl, I.turned (t' := s.toks) (fun b o hb e => eb b o hb e) f0 f1 f3 f4 f5⟩
  self := fun _ _ _ _ _ st h => wpAny_pyIter_rangeiter st h
end L2
namespace L2
open PySem PySem.Spec PyProof.Rows
section
variable {X : Cx} {tg : Expr}
def iList (K : PySem.W.Frag) (tl : TE) : TI := fun σ H R => tl σ H fun x H1 => XIt x (fun a => ∃ xs, SqL K H1 a xs) fun a => R (Itl K a) H1
def iTup (K : PySem.W.Frag) (tl : TE) : TI := fun σ H R => tl σ H fun x H1 => XIt x (fun a => ∃ xs, SqT K H1 a xs) fun a => R (Itt K a) H1
theorem pi_list {l : Expr} {tl : TE} (hl : PE X l tl) : PI X tg l (iList X.K tl) := by
  intro pins s σ H R I h
  refine thn (hl pins s σ H _ I h) fun v s1 ⟨x, H1, I1, r1, q1⟩ => ?_
  obtain ⟨a, e, ⟨xs, hq⟩, q⟩ := q1
  subst e
  cases r1
  obtain ⟨its, rv, p, hz⟩ := I1.list hq
  refine wpAny_pyIter_list p.isList ?_
  refine ⟨s1.heap.objs.size, [s1.heap.objs.size], _, _, H1, rfl, I1.kept (t' := s1.toks) fun b o e => Heap.get?_push_of_some _ e, turn_list a _, ⟨_, Heap.get?_push_size _ rfl, rfl, rfl⟩, fun b hb => ?_, q⟩
  have e : b = s1.heap.objs.size := by simpa using hb
  subst e
  exact I1.fpOk (Nat.le_refl _) (I1.hok.fresh (Nat.le_refl _))
theorem pi_tup {l : Expr} {tl : TE} (hl : PE X l tl) : PI X tg l (iTup X.K tl) := by
  intro pins s σ H R I h
  refine thn (hl pins s σ H _ I h) fun v s1 ⟨x, H1, I1, r1, q1⟩ => ?_
  obtain ⟨a, e, ⟨xs, hq⟩, q⟩ := q1
  subst e
  cases r1
  obtain ⟨its, rv, p, hz⟩ := I1.tuple hq
  refine wpAny_pyIter_tuple (show s1.heap.IsTuple a its.toArray from p) ?_
  refine ⟨s1.heap.objs.size, [s1.heap.objs.size], _, _, H1, rfl, I1.kept (t' := s1.toks) fun b o e => Heap.get?_push_of_some _ e, turn_tuple a _, ⟨_, Heap.get?_push_size _ rfl, rfl, rfl⟩, fun b hb => ?_, q⟩
  have e : b = s1.heap.objs.size := by simpa using hb
  subst e
  exact I1.fpOk (Nat.le_refl _) (I1.hok.fresh (Nat.le_refl _))
theorem range_it {pins : List (Addr × Obj)} {σ : St} {H : Hp} {s : Shared} {R : It → Hp → Prop} {E : Value → Shared → Prop} {lo hi : Int} {t u v : Tok} {tk : Nat} (I : Inv X pins σ H s) (h1 : -(2 ^ 62) ≤ lo) (h2 : lo < 2 ^ 62) (h3 : -(2 ^ 62) ≤ hi) (h4 : hi < 2 ^ 62)
    (q : R (Itr lo (hi - lo).toNat) H) : wpAny (model X.prog X.w) X.A (pyIter (.ref s.heap.objs.size)) (PIE X pins σ tg R) E { s with heap := s.heap.push { cls := .type "range", data := .fields #[.int lo t, .int hi u, .int 1 v] }, toks := tk } := by
  refine wpAny_pyIter_range (IsRange.new ..) (small_one h1 h2 h3 h4) ?_
  have I1 : Inv X pins σ H { s with heap := s.heap.push { cls := .type "range", data := .fields #[.int lo t, .int hi u, .int 1 v] }, toks := tk } := I.kept fun b o e => Heap.get?_push_of_some _ e
  refine ⟨(s.heap.push { cls := .type "range", data := .fields #[.int lo t, .int hi u, .int 1 v] }).objs.size, [(s.heap.push { cls := .type "range", data := .fields #[.int lo t, .int hi u, .int 1 v] }).objs.size], _, _, H, rfl,
    I1.kept (t' := tk) fun b o e => Heap.get?_push_of_some _ e, turn_range _ lo (hi - lo).toNat, ?_, fun b hb => ?_, q⟩
  · have e1 : lo + ((0 : Nat) : Int) * 1 = lo := by simp
    have e2 : (((hi - lo).toNat : Nat) : Int) - ((0 : Nat) : Int) = Builtin.Range.rangeSize lo hi 1 := by rw [rangeSize_one]; split <;> omega
    show IsRangeIter _ _ (lo + ((0 : Nat) : Int) * 1) ((((hi - lo).toNat : Nat) : Int) - ((0 : Nat) : Int)) 1
    rw [e1, e2]
    exact Heap.get?_push_size _ rfl
  · have e : b = (s.heap.push { cls := .type "range", data := .fields #[.int lo t, .int hi u, .int 1 v] }).objs.size := by simpa using hb
    subst e
    exact I1.fpOk (Nat.le_refl _) (I1.hok.fresh (Nat.le_refl _))
def iRng1 (ta : TA) : TI := fun σ H R => ta σ H fun vs H1 => ∃ j : Int, vs = [.int j] ∧ -(2 ^ 62) ≤ j ∧ j < 2 ^ 62 ∧ R (Itr 0 j.toNat) H1
theorem pi_range1 {a : Expr} {ta : TA} {p pos : Pos} (hg : Gl X "range") (hm : X.mg "range" = none) (ha : PA X [a] ta) (hs : starEach [a] X.env = [(false, eval a X.env)] := by rfl) : PI X tg (.Call (.Name "range" p) [a] [] pos) (iRng1 ta) := by
  intro pins s σ H R I h
  refine Call_ (ld_blt I hg hm boot_range (PyProof.Rows.callWith_type1 (thn (ha pos pins s σ H _ I h) fun us s1 ⟨vs, H1, I1, r1, q1⟩ => ?_) hs rfl))
  obtain ⟨j, e, q1, q2, q⟩ := q1
  subst e
  cases r1 with
  | cons r rr =>
    cases rr
    obtain ⟨t, rfl⟩ := r
    exact call_range_1 (range_it I1 (by omega) (by omega) q1 q2 (by simpa using q))
def tFor (wi : TI) (g : TG) (tb : TS) : TS := fun D σ H => wi σ H fun J H1 => ∃ W : Nat → Nat → St → Hp → Prop, (∃ m, W 0 m σ H1) ∧ ∀ i m σ H, W i m σ H →
  (J.stop i H ∧ D.nx σ H) ∨ (J.go i H ∧ ∃ N : St → Hp → Prop, (∀ σ' H', N σ' H' → ∃ m', m' < m ∧ W (i + 1) m' σ' H') ∧ ∀ x H', J.yld i H x H' → g x σ H' fun σ2 H2 => tb { D with nx := N, ct := N, bk := D.nx } σ2 H2)
def pinsAt (fp : List Addr) (h : Heap) : List (Addr × Obj) := fp.filterMap fun b => (h.get? b).map fun o => (b, o)
theorem mem_pinsAt {fp : List Addr} {h : Heap} {b : Addr} {o : Obj} (hb : b ∈ fp) (e : h.get? b = some o) : (b, o) ∈ pinsAt fp h := List.mem_filterMap.mpr ⟨b, hb, by rw [e]; rfl⟩
theorem of_pinsAt {fp : List Addr} {h : Heap} {p : Addr × Obj} (hp : p ∈ pinsAt fp h) : p.1 ∈ fp ∧ h.get? p.1 = some p.2 := by
  obtain ⟨b, hb, e⟩ := List.mem_filterMap.mp hp
  cases q : h.get? b with
  | none => rw [q] at e; cases e
  | some o =>
    rw [q] at e
    have e' : (b, o) = p := Option.some.inj e
    subst e'
    exact ⟨hb, q⟩
theorem Inv.pinned {pins : List (Addr × Obj)} {σ : St} {H : Hp} {s : Shared} {fp : List Addr} (I : Inv X pins σ H s) (hf : ∀ b ∈ fp, FpOk X pins H b) (ho : ∀ b ∈ fp, ∃ o, s.heap.get? b = some o ∧ ∀ v, o.data ≠ .cell v) : Inv X (pins ++ pinsAt fp s.heap) σ H s :=
  I.pins_of fun p hp => (List.mem_append.mp hp).elim (fun z => I.pin p (List.mem_append_right _ z)) fun z => by
    obtain ⟨hb, e⟩ := of_pinsAt z
    obtain ⟨f0, f1, f2, _⟩ := hf p.1 hb
    obtain ⟨o, e', d⟩ := ho p.1 hb
    rw [e] at e'; cases e'
    exact ⟨e, f0, f1, f2, d⟩
theorem Inv.unpinned {pins pl : List (Addr × Obj)} {σ : St} {H : Hp} {s : Shared} (I : Inv X (pins ++ pl) σ H s) : Inv X pins σ H s := I.pins_of fun p hp => I.pin p (List.mem_append_right _ (List.mem_append_left _ hp))
theorem ps_for {iter : Expr} {body : List Stmt} {wi : TI} {g : TG} {tb : TS} {pos : Pos} (hp : PassesOwn (model X.prog X.w) X.A X.env X.xe) (hc : X.calm = true) (hi : PI X tg iter wi) (hg : PG X tg g) (hb : PSs X body tb)
    (hs : ∀ x, foldedSetIterable iter X.env x = pure x := by intro _; rfl) : PS X (.For tg iter body [] pos) (tFor wi g tb) := by
  intro pins s σ H D I h
  refine wpAny_For (thn (hi pins s σ H _ I h) fun v s1 h1 => thn h1 fun itv s2 h2 => ?_) hs
  obtain ⟨it, fp, tn, J, H2, e, I2, T, st2, f2, W, ⟨m0, w0⟩, turn⟩ := h2
  subst e
  have stat : ∀ {H' : Hp}, (∀ b ∈ fp, H' b = none) → ∀ b ∈ fp, FpOk X pins H' b := fun hn b hb => ⟨hn b hb, (f2 b hb).2⟩
  refine codeAny_forLoop_any (fun n s' => ∃ i σ' H', Inv X pins σ' H' s' ∧ tn i s'.heap ∧ (∀ b ∈ fp, H' b = none) ∧ W i n σ' H') ?_ m0 ⟨0, σ, H2, I2, st2, fun b hb => (f2 b hb).1, w0⟩
  rintro n s3 ⟨i, σ3, H3, I3, st3, fr3, w3⟩
  rcases turn i n σ3 H3 w3 with ⟨stop, qn⟩ | ⟨go, N, hN, step⟩
  · refine wpAny_passesOwn hp (thn (T.done X rfl rfl rfl hc i pins s3 σ3 H3 X.xe I3 (stat fr3) st3 stop) fun r s4 ⟨hr, I4⟩ => ?_)
    subst hr
    exact wpAny_execs_nil ⟨σ3, H3, I4, qn⟩
  · refine wpAny_passesOwn hp (thn (T.item X rfl rfl rfl hc i pins s3 σ3 H3 X.xe I3 (stat fr3) st3 go) fun r s4 ⟨u, hr, h4⟩ => ?_)
    subst hr
    refine wpAny_passesOwn hp (thn h4 fun _ s5 ⟨x, H5, I5, r5, y5, st5, fr5⟩ => ?_)
    have I5' := I5.pinned (stat fr5) (T.obj _ _ st5)
    refine wpAny_passesOwn hp (thn (hg _ s5 σ3 H5 x u _ I5' r5 (step x H5 y5)) fun _ s6 ⟨σ6, H6, I6, q6⟩ => ?_)
    refine wpAny_passesOwn hp (thn (hb _ s6 σ6 H6 _ I6 q6) fun f s7 q7 => ?_)
    have again : ∀ {σ7 : St} {H7 : Hp}, Inv X (pins ++ pinsAt fp s5.heap) σ7 H7 s7 → N σ7 H7 → ∃ m, m < n ∧ ∃ i σ' H', Inv X pins σ' H' s7 ∧ tn i s7.heap ∧ (∀ b ∈ fp, H' b = none) ∧ W i m σ' H' := fun {σ7 H7} I7 n7 => by
      obtain ⟨m', hm, w7⟩ := hN σ7 H7 n7
      refine ⟨m', hm, i + 1, σ7, H7, I7.unpinned, T.keep _ _ _ st5 fun b hb o e => (I7.pin (b, o) (List.mem_append_right _ (List.mem_append_right _ (mem_pinsAt hb e)))).1, fun b hb => ?_, w7⟩
      obtain ⟨o, e, d⟩ := T.obj _ _ st5 b hb
      exact (I7.pin (b, o) (List.mem_append_right _ (List.mem_append_right _ (mem_pinsAt hb e)))).2.1
    cases f with
    | next => obtain ⟨σ7, H7, I7, n7⟩ := q7; exact again I7 n7
    | cont => obtain ⟨σ7, H7, I7, n7⟩ := q7; exact again I7 n7
    | brk => obtain ⟨σ7, H7, I7, q7⟩ := q7; exact ⟨σ7, H7, I7.unpinned, q7⟩
    | ret v => obtain ⟨x7, σ7, H7, I7, r7, q7⟩ := q7; exact ⟨x7, σ7, H7, I7.unpinned, r7, q7⟩
end
theorem for_list {K : PySem.W.Frag} {a : Addr} {xs : List V} {g : TG} {tb : TS} {D : Ends} {σ : St} {H : Hp} (Pv : Nat → St → Hp → Prop) (h0 : Pv 0 σ H) (hl : ∀ i σ H, i ≤ xs.length → Pv i σ H → SqL K H a xs)
    (hs : ∀ i x σ H, xs[i]? = some x → Pv i σ H → g x σ H fun σ2 H2 => tb { D with nx := Pv (i + 1), ct := Pv (i + 1), bk := D.nx } σ2 H2) (hd : ∀ σ H, Pv xs.length σ H → D.nx σ H) :
    ∃ W : Nat → Nat → St → Hp → Prop, (∃ m, W 0 m σ H) ∧ ∀ i m σ H, W i m σ H →
      ((Itl K a).stop i H ∧ D.nx σ H) ∨ ((Itl K a).go i H ∧ ∃ N : St → Hp → Prop, (∀ σ' H', N σ' H' → ∃ m', m' < m ∧ W (i + 1) m' σ' H') ∧ ∀ x H', (Itl K a).yld i H x H' → g x σ H' fun σ2 H2 => tb { D with nx := N, ct := N, bk := D.nx } σ2 H2) := by
  refine ⟨fun i m σ H => m = xs.length - i ∧ i ≤ xs.length ∧ Pv i σ H, ⟨xs.length, by simp, Nat.zero_le _, h0⟩, ?_⟩
  rintro i m σ H ⟨rfl, hi, p⟩
  have q := hl i σ H hi p
  by_cases hlt : i < xs.length
  · refine .inr ⟨⟨xs, xs[i], q, by simp [hlt]⟩, Pv (i + 1), fun σ' H' p' => ⟨xs.length - (i + 1), by omega, rfl, hlt, p'⟩, fun x H' y => ?_⟩
    obtain ⟨e, y⟩ := y
    subst e
    exact hs i x σ _ (y xs q) p
  · have e : i = xs.length := by omega
    subst e
    exact .inl ⟨⟨xs, q, Nat.le_refl _⟩, hd σ H p⟩
theorem for_range {lo : Int} {n : Nat} {g : TG} {tb : TS} {D : Ends} {σ : St} {H : Hp} (Pv : Nat → St → Hp → Prop) (h0 : Pv 0 σ H)
    (hs : ∀ i σ H, i < n → Pv i σ H → g (.int (lo + i)) σ H fun σ2 H2 => tb { D with nx := Pv (i + 1), ct := Pv (i + 1), bk := D.nx } σ2 H2) (hd : ∀ σ H, Pv n σ H → D.nx σ H) :
    ∃ W : Nat → Nat → St → Hp → Prop, (∃ m, W 0 m σ H) ∧ ∀ i m σ H, W i m σ H →
      ((Itr lo n).stop i H ∧ D.nx σ H) ∨ ((Itr lo n).go i H ∧ ∃ N : St → Hp → Prop, (∀ σ' H', N σ' H' → ∃ m', m' < m ∧ W (i + 1) m' σ' H') ∧ ∀ x H', (Itr lo n).yld i H x H' → g x σ H' fun σ2 H2 => tb { D with nx := N, ct := N, bk := D.nx } σ2 H2) := by
  refine ⟨fun i m σ H => m = n - i ∧ i ≤ n ∧ Pv i σ H, ⟨n, by simp, Nat.zero_le _, h0⟩, ?_⟩
  rintro i m σ H ⟨rfl, hi, p⟩
  by_cases hlt : i < n
  · refine .inr ⟨hlt, Pv (i + 1), fun σ' H' p' => ⟨n - (i + 1), by omega, rfl, hlt, p'⟩, fun x H' y => ?_⟩
    obtain ⟨e, y⟩ := y
    subst e y
    exact hs i σ _ hlt p
  · have e : i = n := by omega
    subst e
    exact .inl ⟨Nat.le_refl _, hd σ H p⟩
end L2
namespace L2
open PySem PySem.Spec PyProof.Rows
abbrev R2 := V → V → Hp → VK → Prop
def OpR (X : Cx) (f : Value → Value → Sem Value) (r : R2) : Prop :=
  ∀ (pins : List (Addr × Obj)) (s : Shared) (σ : St) (H : Hp) (x y : V) (v u : Value) (Q : VK), Inv X pins σ H s → RelV x v → RelV y u → r x y H Q →
    wpAny (model X.prog X.w) X.A (f v u) (EP X pins σ Q) X.xe s
def UnR (X : Cx) (f : Value → Sem Value) (r : V → Hp → VK → Prop) : Prop :=
  ∀ (pins : List (Addr × Obj)) (s : Shared) (σ : St) (H : Hp) (x : V) (v : Value) (Q : VK), Inv X pins σ H s → RelV x v → r x H Q →
    wpAny (model X.prog X.w) X.A (f v) (EP X pins σ Q) X.xe s
def CallR (X : Cx) (f : Value) (r : List V → Hp → VK → Prop) : Prop :=
  ∀ (pins : List (Addr × Obj)) (s : Shared) (σ : St) (H : Hp) (xs : List V) (us : List Value) (Q : VK), Inv X pins σ H s → Vals xs us → r xs H Q →
    wpAny (model X.prog X.w) X.A (call f us) (EP X pins σ Q) X.xe s
def TruR (X : Cx) (r : V → Hp → (Bool → Hp → Prop) → Prop) : Prop :=
  ∀ (pins : List (Addr × Obj)) (s : Shared) (σ : St) (H : Hp) (x : V) (v : Value) (Q : Bool → Hp → Prop), Inv X pins σ H s → RelV x v → r x H Q →
    wpAny (model X.prog X.w) X.A (truthy v) (TP X pins σ Q) X.xe s
def tOp (r : R2) (ta tb : TE) : TE := fun σ H Q => ta σ H fun x H1 => tb σ H1 fun y H2 => r x y H2 Q
def tUn (r : V → Hp → VK → Prop) (ta : TE) : TE := fun σ H Q => ta σ H fun x H1 => r x H1 Q
def rI (C : Int → Int → Prop) (g : Int → Int → V) : R2 := fun x y H Q => XI2 x y C fun i j => Q (g i j) H
def rI0 (g : Int → Int → V) : R2 := fun x y H Q => XI0 x y fun i j => Q (g i j) H
def rU (g : Int → V) : V → Hp → VK → Prop := fun x H Q => ∃ i, x = .int i ∧ Q (g i) H
section
variable {X : Cx} {a b c : Expr} {ta tb tc : TE} {pos : Pos}
theorem binT (ha : PE X a ta) (hb : PE X b tb) {pins : List (Addr × Obj)} {s : Shared} {σ : St} {H : Hp} {R : V → V → Hp → Prop} (I : Inv X pins σ H s)
    (h : ta σ H fun x H1 => tb σ H1 fun y H2 => R x y H2) {Q : Value → Shared → Prop} {f : Value → Value → Sem Value}
    (hf : ∀ v u s2 x y H2, Inv X pins σ H2 s2 → RelV x v → RelV y u → R x y H2 → wpAny (model X.prog X.w) X.A (f v u) Q X.xe s2) :
    wpAny (model X.prog X.w) X.A (eval a X.env) (fun v s₁ => wpAny (model X.prog X.w) X.A (eval b X.env) (fun u s₂ => wpAny (model X.prog X.w) X.A (f v u) Q X.xe s₂) X.xe s₁) X.xe s := by
  refine thn (ha pins s σ H _ I h) fun v s1 ⟨x, H1, I1, r1, q1⟩ => ?_
  refine thn (hb pins s1 σ H1 _ I1 q1) fun u s2 ⟨y, H2, I2, r2, q2⟩ => ?_
  exact hf v u s2 x y H2 I2 r1 r2 q2
theorem pe_op {op : Operator} {r : R2} (ho : OpR X (binaryOp op) r) (ha : PE X a ta) (hb : PE X b tb) : PE X (.BinOp a op b pos) (tOp r ta tb) := by
  intro pins s σ H Q I h
  exact wpAny_BinOp (binT ha hb I h fun v u s2 x y H2 I2 rx ry q => ho pins s2 σ H2 x y v u Q I2 rx ry q)
theorem pe_un {op : UnaryOp} {r : V → Hp → VK → Prop} (ho : UnR X (unaryOp op) r) (ha : PE X a ta) : PE X (.UnaryOp op a pos) (tUn r ta) := by
  intro pins s σ H Q I h
  exact UnaryOp_ (thn (ha pins s σ H _ I h) fun v s1 ⟨x, H1, I1, r1, q1⟩ => ho pins s1 σ H1 x v Q I1 r1 q1)
theorem opI {f : Value → Value → Sem Value} {C : Int → Int → Prop} {g : Int → Int → Int}
    (rule : ∀ (i j : Int) (t u : Tok) (s : Shared) (Q : Value → Shared → Prop) (E : Value → Shared → Prop), C i j → Q (.int (g i j) s.toks) { s with toks := s.toks + 1 } → wpAny (model X.prog X.w) X.A (f (.int i t) (.int j u)) Q E s) :
    OpR X f (rI C fun i j => .int (g i j)) := by
  intro pins s σ H x y v u Q I rx ry h
  obtain ⟨i, j, rfl, rfl, hc, q⟩ := h
  obtain ⟨t, rfl⟩ := rx
  obtain ⟨t', rfl⟩ := ry
  exact rule i j t t' s _ _ hc ⟨.int (g i j), H, I.tok _, ⟨_, rfl⟩, q⟩
theorem opI0 {f : Value → Value → Sem Value} {g : Int → Int → Int}
    (rule : ∀ (i j : Int) (t u : Tok) (s : Shared) (Q : Value → Shared → Prop) (E : Value → Shared → Prop), Q (.int (g i j) s.toks) { s with toks := s.toks + 1 } → wpAny (model X.prog X.w) X.A (f (.int i t) (.int j u)) Q E s) :
    OpR X f (rI0 fun i j => .int (g i j)) := by
  intro pins s σ H x y v u Q I rx ry h
  obtain ⟨i, j, rfl, rfl, q⟩ := h
  obtain ⟨t, rfl⟩ := rx
  obtain ⟨t', rfl⟩ := ry
  exact rule i j t t' s _ _ ⟨.int (g i j), H, I.tok _, ⟨_, rfl⟩, q⟩
theorem opB0 {f : Value → Value → Sem Value} {g : Int → Int → Bool}
    (rule : ∀ (i j : Int) (t u : Tok) (s : Shared) (Q : Value → Shared → Prop) (E : Value → Shared → Prop), Q (.bool (g i j)) s → wpAny (model X.prog X.w) X.A (f (.int i t) (.int j u)) Q E s) :
    OpR X f (rI0 fun i j => .bl (g i j)) := by
  intro pins s σ H x y v u Q I rx ry h
  obtain ⟨i, j, rfl, rfl, q⟩ := h
  obtain ⟨t, rfl⟩ := rx
  obtain ⟨t', rfl⟩ := ry
  exact rule i j t t' s _ _ ⟨.bl (g i j), H, I, rfl, q⟩
def CDiv (i j : Int) : Prop := 0 < j ∧ j < 1073741824
def CMul (i j : Int) : Prop := (-(2 ^ 64) < i ∧ i < 2 ^ 64) ∨ (-(2 ^ 64) < j ∧ j < 2 ^ 64)
theorem CMul.ok {i j : Int} (h : CMul i j) : IntMulOk i j := by
  rcases h with ⟨h1, h2⟩ | ⟨h1, h2⟩
  · exact .of_left (intBits_le_64 h1 h2)
  · exact .of_right (intBits_le_64 h1 h2)
theorem op_add : OpR X (binaryOp .Add) (rI0 fun i j => .int (i + j)) := opI0 fun _ _ _ _ _ _ _ q => add_int q
theorem op_sub : OpR X (binaryOp .Sub) (rI0 fun i j => .int (i - j)) := opI0 fun _ _ _ _ _ _ _ q => sub_int q
theorem op_mul : OpR X (binaryOp .Mult) (rI CMul fun i j => .int (i * j)) := opI fun _ _ _ _ _ _ _ hc q => mul_int q hc.ok
theorem op_fdiv : OpR X (binaryOp .FloorDiv) (rI CDiv fun i j => .int (i / j)) := opI fun i j _ _ _ _ _ hc q => by
  have h1 : (0 : Int) < j := hc.1
  have h2 : j < 1073741824 := hc.2
  exact floordiv_int (by omega) (by rw [Int.fdiv_eq_ediv_of_nonneg i (by omega)]; exact q) (.inl (PyProof.noPylong_small (by omega)))
theorem op_mod : OpR X (binaryOp .Mod) (rI (fun _ j => 0 < j) fun i j => .int (i % j)) := opI fun i j _ _ _ _ _ hc q => by
  have h1 : (0 : Int) < j := hc
  exact mod_int' (by omega) (by rw [Int.fmod_eq_emod_of_nonneg i (by omega)]; exact q)
theorem unI {f : Value → Sem Value} {g : Int → Int}
    (rule : ∀ (i : Int) (t : Tok) (s : Shared) (Q : Value → Shared → Prop) (E : Value → Shared → Prop), Q (.int (g i) s.toks) { s with toks := s.toks + 1 } → wpAny (model X.prog X.w) X.A (f (.int i t)) Q E s) :
    UnR X f (rU fun i => .int (g i)) := by
  intro pins s σ H x v Q I rx h
  obtain ⟨i, rfl, q⟩ := h
  obtain ⟨t, rfl⟩ := rx
  exact rule i t s _ _ ⟨.int (g i), H, I.tok _, ⟨_, rfl⟩, q⟩
theorem un_neg : UnR X (unaryOp .USub) (rU fun i => .int (-i)) := unI fun _ _ _ _ _ q => neg_int q
end
def scal : V → V → Bool
  | .non, .non => true | .non, .int _ => true | .int _, .non => true | .non, .bl _ => true | .bl _, .non => true | .non, .str _ => true | .str _, .non => true
  | .int _, .int _ => true | .bl _, .bl _ => true | .str _, .str _ => true | .byt _, .byt _ => true
  | .int _, .str _ => true | .str _, .int _ => true | .bl _, .str _ => true | .str _, .bl _ => true
  | _, _ => false
def rEq : R2 := fun x y H Q => scal x y = true ∧ Q (.bl (decide (x = y))) H
theorem dec_int {i j : Int} : decide (V.int i = V.int j) = (i == j) := by
  rw [Bool.eq_iff_iff]
  simp
theorem dec_bl {i j : Bool} : decide (V.bl i = V.bl j) = (i == j) := by
  rw [Bool.eq_iff_iff]
  simp
theorem dec_str {i j : Str} : decide (V.str i = V.str j) = (i == j) := by
  rw [Bool.eq_iff_iff]
  simp
theorem dec_byt {i j : Array UInt8} : decide (V.byt i = V.byt j) = (i.toList == j.toList) := by
  rw [Bool.eq_iff_iff]
  cases i
  cases j
  simp
section
variable {X : Cx} {a b c : Expr} {ta tb tc : TE} {pos : Pos}
theorem fin_bl {pins : List (Addr × Obj)} {σ : St} {H : Hp} {s : Shared} {Q : VK} {k k' : Bool} (I : Inv X pins σ H s) (q : Q (.bl k) H) (e : k = k') : EP X pins σ Q (.bool k') s := by
  subst e
  exact ⟨.bl k, H, I, rfl, q⟩
theorem op_eq : OpR X (compareOp .Eq) rEq := by
  intro pins s σ H x y v u Q I rx ry h
  obtain ⟨hs, q⟩ := h
  cases x with
  | non =>
    cases rx
    cases y with
    | non => cases ry; exact PySem.EqNone.eq_none_none (fin_bl I q (by simp))
    | bl j => cases ry; exact PySem.EqNone.eq_none_bool (fin_bl I q (by simp))
    | int j => obtain ⟨t', rfl⟩ := ry; exact PySem.EqNone.eq_none_int (fin_bl I q (by simp))
    | str j => obtain ⟨t', rfl⟩ := ry; exact PySem.EqNone.eq_none_str (fin_bl I q (by simp))
    | _ => exact absurd (show false = true from hs) Bool.false_ne_true
  | bl i =>
    cases rx
    cases y with
    | non => cases ry; exact PySem.EqNone.eq_bool_none (fin_bl I q (by simp))
    | bl j => cases ry; exact eq_bool (fin_bl I q dec_bl)
    | str j => obtain ⟨t', rfl⟩ := ry; exact PySem.EqMixed.eq_bool_str (fin_bl I q (by simp))
    | _ => exact absurd (show false = true from hs) Bool.false_ne_true
  | int i =>
    obtain ⟨t, rfl⟩ := rx
    cases y with
    | non => cases ry; exact PySem.EqNone.eq_int_none (fin_bl I q (by simp))
    | int j => obtain ⟨t', rfl⟩ := ry; exact eq_int (fin_bl I q dec_int)
    | str j => obtain ⟨t', rfl⟩ := ry; exact PySem.EqMixed.eq_int_str (fin_bl I q (by simp))
    | _ => exact absurd (show false = true from hs) Bool.false_ne_true
  | str i =>
    obtain ⟨t, rfl⟩ := rx
    cases y with
    | non => cases ry; exact PySem.EqNone.eq_str_none (fin_bl I q (by simp))
    | bl j => cases ry; exact PySem.EqMixed.eq_str_bool (fin_bl I q (by simp))
    | int j => obtain ⟨t', rfl⟩ := ry; exact PySem.EqMixed.eq_str_int (fin_bl I q (by simp))
    | str j => obtain ⟨t', rfl⟩ := ry; exact eq_str (fin_bl I q dec_str)
    | _ => exact absurd (show false = true from hs) Bool.false_ne_true
  | byt i =>
    obtain ⟨t, rfl⟩ := rx
    cases y with
    | byt j => obtain ⟨t', rfl⟩ := ry; exact PySem.W.eq_bytes (fin_bl I q dec_byt)
    | _ => exact absurd (show false = true from hs) Bool.false_ne_true
  | _ => cases y <;> exact absurd (show false = true from hs) Bool.false_ne_true
theorem op_lt : OpR X (compareOp .Lt) (rI0 fun i j => .bl (decide (i < j))) := opB0 fun _ _ _ _ _ _ _ q => lt_int q
theorem op_le : OpR X (compareOp .LtE) (rI0 fun i j => .bl (decide (i ≤ j))) := opB0 fun _ _ _ _ _ _ _ q => le_int q
theorem op_gt : OpR X (compareOp .Gt) (rI0 fun i j => .bl (decide (j < i))) := opB0 fun _ _ _ _ _ _ _ q => gt_int q
theorem OpR.or {f : Value → Value → Sem Value} {r r' : R2} (h : OpR X f r) (h' : OpR X f r') : OpR X f (fun x y H Q => r x y H Q ∨ r' x y H Q) := by
  intro pins s σ H x y v u Q I rx ry q
  rcases q with q | q
  · exact h pins s σ H x y v u Q I rx ry q
  · exact h' pins s σ H x y v u Q I rx ry q
theorem nomark (b : Expr) {op : CmpOp} (h : op ≠ .In := by decide) (h2 : op ≠ .NotIn := by decide) : behindInMarks op b = false := by
  have e1 : (op == CmpOp.In) = false := by cases op <;> first | rfl | exact absurd rfl h
  have e2 : (op == CmpOp.NotIn) = false := by cases op <;> first | rfl | exact absurd rfl h2
  cases b <;> simp [behindInMarks, e1, e2]
theorem pe_cmpR {op : CmpOp} {r : R2} (ho : OpR X (compareOp op) r) (ha : PE X a ta) (hb : PE X b tb) (hm : behindInMarks op b = false) : PE X (.Compare a [op] [b] pos) (tOp r ta tb) := by
  intro pins s σ H Q I h
  exact wpAny_Compare1 (binT ha hb I h fun v u s2 x y H2 I2 rx ry q => ho pins s2 σ H2 x y v u Q I2 rx ry q) hm
def tTest (t : TE) : TT := fun σ H Q => t σ H fun x H' => XB x fun k => Q k H'
theorem pt_cmpR {op : CmpOp} {r : R2} (ho : OpR X (compareOp op) r) (ha : PE X a ta) (hb : PE X b tb) (hm : behindInMarks op b = false) : PT X (.Compare a [op] [b] pos) (tTest (tOp r ta tb)) := by
  intro pins s σ H Q I h
  refine wpAny_isTrue_Compare1 (thn (ha pins s σ H _ I h) fun v s1 ⟨x, H1, I1, r1, q1⟩ => thn (hb pins s1 σ H1 _ I1 q1) fun u s2 ⟨y, H2, I2, r2, q2⟩ =>
    thn (ho pins s2 σ H2 x y v u _ I2 r1 r2 q2) fun c s3 ⟨z, H3, I3, r3, k, e, q3⟩ => ?_) hm
  subst e
  cases r3
  exact wpAny_truthy_bool ⟨H3, I3, q3⟩
def tChain (r r' : R2) (ta tb tc : TE) : TE := fun σ H Q => ta σ H fun x H1 => tb σ H1 fun y H2 => r x y H2 fun z H3 => ∃ k, z = .bl k ∧
  (if k = true then tc σ H3 fun w' H4 => r' y w' H4 Q else Q (.bl false) H3)
theorem pe_chain {op op' : CmpOp} {r r' : R2} (ho : OpR X (compareOp op) r) (ho' : OpR X (compareOp op') r') (ha : PE X a ta) (hb : PE X b tb) (hc : PE X c tc)
    (hm : lastMarks [op, op'] [b, c] = false := by with_unfolding_all rfl) : PE X (.Compare a [op, op'] [b, c] pos) (tChain r r' ta tb tc) := by
  intro pins s σ H Q I h
  refine Compare_chain (thn (ha pins s σ H _ I h) fun v s1 ⟨x, H1, I1, r1, q1⟩ => chain_link (thn (hb pins s1 σ H1 _ I1 q1) fun u s2 ⟨y, H2, I2, r2, q2⟩ =>
    thn (ho pins s2 σ H2 x y v u _ I2 r1 r2 q2) fun d s3 ⟨z, H3, I3, r3, k, e, q3⟩ => ?_)) hm
  subst e
  cases r3
  refine wpAny_truthy_bool ?_
  cases k with
  | false => exact ite_ff ⟨.bl false, H3, I3, rfl, q3⟩
  | true => exact ite_tt (chain_last (thn (hc pins s3 σ H3 _ I3 q3) fun w' s4 ⟨z', H4, I4, r4, q4⟩ => ho' pins s4 σ H4 y z' u w' Q I4 r2 r4 q4))
def TruV (K : PySem.W.Frag) (x : V) (H : Hp) (k : Bool) : Prop :=
  match x with
  | .non => k = false
  | .bl b => k = b
  | .int i => k = (i != 0)
  | .str y => y.length ≤ sizeLine ∧ k = ((y.length : Int) != 0)
  | .byt y => y.size ≤ sizeLine ∧ k = ((y.size : Int) != 0)
  | .ref p => (∃ xs, SqL K H p xs ∧ k = !xs.isEmpty) ∨ (∃ xs, SqT K H p xs ∧ k = !xs.isEmpty) ∨ ∃ kvs, H p = some (.dK kvs) ∧ k = !kvs.isEmpty
  | _ => False
theorem isEmpty_kv {κ : Type} {kvs : List (κ × V)} {vs : List (κ × Value)} (r : KV kvs vs) : (!vs.isEmpty) = !kvs.isEmpty := by
  cases r <;> rfl
theorem isEmpty_of {xs : List V} {its : List Value} (r : Vals xs its) : (!its.toArray.isEmpty) = !xs.isEmpty := by
  cases r <;> simp
theorem line63 : (sizeLine : Nat) < 2 ^ 63 := by rw [sizeLine_eq]; decide
theorem tru_ok : TruR X (fun x H Q => ∃ k, TruV X.K x H k ∧ Q k H) := by
  intro pins s σ H x v Q I rx h
  obtain ⟨k, e, q⟩ := h
  have hl := line63
  have hs : sizeLine = 16777216 := sizeLine_eq
  cases x with
  | non =>
    cases rx
    have e' : k = false := e
    subst e'
    exact truthy_none ⟨H, I, q⟩
  | bl b =>
    cases rx
    have e' : k = b := e
    subst e'
    exact wpAny_truthy_bool ⟨H, I, q⟩
  | int i =>
    obtain ⟨t, rfl⟩ := rx
    have e' : k = (i != 0) := e
    subst e'
    exact PySem.P.truthy_int ⟨H, I, q⟩
  | str y =>
    obtain ⟨t, rfl⟩ := rx
    obtain ⟨hy, e'⟩ : y.length ≤ sizeLine ∧ k = ((y.length : Int) != 0) := e
    subst e'
    exact PySem.P.truthy_str (by omega) ⟨H, I.tok _, q⟩
  | byt y =>
    obtain ⟨t, rfl⟩ := rx
    obtain ⟨hy, e'⟩ : y.size ≤ sizeLine ∧ k = ((y.size : Int) != 0) := e
    subst e'
    exact PySem.W.truthy_bytes (by omega) ⟨H, I.tok _, q⟩
  | ref p =>
    cases rx
    have e' : (∃ xs, SqL X.K H p xs ∧ k = !xs.isEmpty) ∨ (∃ xs, SqT X.K H p xs ∧ k = !xs.isEmpty) ∨ ∃ kvs, H p = some (.dK kvs) ∧ k = !kvs.isEmpty := e
    rcases e' with ⟨xs, hx, e'⟩ | ⟨xs, hx, e'⟩ | ⟨kvs, hx, e'⟩
    · subst e'
      obtain ⟨its, r, pl, hz⟩ := I.list hx
      have hlen := r.length
      exact wpAny_truthy_list pl.isList (by simp only [List.size_toArray]; omega) ⟨H, I.tok _, by rw [isEmpty_of r]; exact q⟩
    · subst e'
      obtain ⟨its, r, pl, hz⟩ := I.tuple hx
      have hlen := r.length
      exact truthy_tuple pl (by simp only [List.size_toArray]; omega) ⟨H, I.tok _, by rw [isEmpty_of r]; exact q⟩
    · subst e'
      obtain ⟨hz, hS, vs, r, m⟩ : kvs.length ≤ sizeLine ∧ (p == sysModules) = false ∧ ∃ vs, KV kvs vs ∧ s.heap.DictOf (mixKind X.prog X.w) p vs := I.hok p _ hx
      have hlen : kvs.length = vs.length := Paired.length r
      exact wpAny_truthy_dict hS m (by omega) ⟨H, I.tok _, by rw [isEmpty_kv r]; exact q⟩
  | _ => exact (show False from e).elim
theorem pt_truth (ha : PE X a ta) (he : ∀ whole, isTrue a X.env whole = (do let v ← whole; standAt a.pos; holding [v] (truthy v))) :
    PT X a (fun σ H Q => ta σ H fun x H' => ∃ k, TruV X.K x H' k ∧ Q k H') := by
  intro pins s σ H Q I h
  exact isTrue_plain (thn (ha pins s σ H _ I h) fun v s1 ⟨x, H1, I1, r1, q1⟩ => tru_ok pins s1 σ H1 x v Q I1 r1 q1) (he _)
theorem op_add_str : OpR X (binaryOp .Add) (fun x y H Q => ∃ i j, x = .str i ∧ y = .str j ∧ i.length + j.length ≤ sizeLine ∧ Q (.str (i ++ j)) H) := by
  intro pins s σ H x y v u Q I rx ry h
  obtain ⟨i, j, rfl, rfl, hz, q⟩ := h
  obtain ⟨t, rfl⟩ := rx
  obtain ⟨t', rfl⟩ := ry
  exact add_str (fun t' tk => ⟨.str (i ++ j), H, I.tok _, ⟨_, rfl⟩, q⟩) hz
theorem vals1 {x : V} {us : List Value} (r : Vals [x] us) : ∃ u, us = [u] ∧ RelV x u := by
  cases r with
  | cons r1 r2 => cases r2; exact ⟨_, rfl, r1⟩
theorem vals2 {x y : V} {us : List Value} (r : Vals [x, y] us) : ∃ u w', us = [u, w'] ∧ RelV x u ∧ RelV y w' := by
  cases r with
  | cons r1 r2 =>
    cases r2 with
    | cons r3 r4 => cases r4; exact ⟨_, _, rfl, r1, r3⟩
end
end L2
namespace L2
open PySem PySem.Spec PyProof.Rows
structure ObjM (h : Heap) (x dx C : Addr) (mA : Str → Option Value) : Prop where
  obj : h.get? x = some (PySem.W.instObj C dx)
  ns : h.Ns1 dx mA
  ne : dx ≠ x
section
variable {prog : Program} {w : World} {A : Around} {E : Value → Shared → Prop} {s : Shared} {K : PySem.W.Frag} {x dx C f : Addr} {mA : Str → Option Value} {name : Str} {v : Value}
end
def putF (f : Str) (v : V) : List (Str × V) → List (Str × V)
  | [] => [(f, v)]
  | (g, x) :: r => if g = f then (g, v) :: r else (g, x) :: putF f v r
theorem RelO.some_of {v : V} {o : Option Value} (r : RelO (some v) o) : ∃ u, o = some u ∧ RelV v u := by
  cases o with
  | none => exact (show False from r).elim
  | some u => exact ⟨u, rfl, r⟩
section
variable {P : Program} {w : World} {H H' : Hp} {h h' : Heap} {a C dx : Addr} {fs fs' : List (Str × V)}
end
structure Cls (K : PySem.W.Frag) (C : Addr) : Prop where
  pg : PySem.W.plainGet K C Str.empty = true
  hd : PySem.W.hasDictIn K C = true
  po : PySem.W.plainOver K C = true
  sa : PySem.W.findIn K (.ref C) "__setattr__" = some (some (.builtin "object.__setattr__"))
theorem Cls.get {K : PySem.W.Frag} {C : Addr} (c : Cls K C) (f : Str) : PySem.W.plainGet K C f = true := c.pg
structure Con (K : PySem.W.Frag) (C : Addr) (f : Str) (v : V) (u : Value) : Prop where
  at_ : PySem.W.findIn K (.ref C) f = some (some u)
  rel : RelV v u
  get : PySem.W.specialIn K u "__get__" = some none
  cp : PySem.W.copiedNames.contains f = false
structure Meth (K : PySem.W.Frag) (C : Addr) (m : Str) (f : Addr) : Prop where
  at_ : PySem.W.findIn K (.ref C) m = some (some (.ref f))
  fn : PySem.W.isFn K (.ref f) = true
  kp : PySem.W.keepIn K (.ref f) = true
section
variable {X : Cx} {pins : List (Addr × Obj)} {σ : St} {H : Hp} {s : Shared} {a C dx : Addr} {fs : List (Str × V)} {f : Str} {v : V} {A : Around} {E : Value → Shared → Prop}
theorem Inv.made (I : Inv X pins σ H s) : Inv X pins σ (upd (upd H s.heap.objs.size (.own (s.heap.objs.size + 1))) (s.heap.objs.size + 1) (.ins C s.heap.objs.size []))
    { s with heap := (s.heap.push PySem.W.emptyDict).push (PySem.W.instObj C s.heap.objs.size) } := by
  have e1 : (s.heap.push PySem.W.emptyDict).get? s.heap.objs.size = some PySem.W.emptyDict := Heap.get?_push_size s.heap rfl
  have e2 : ((s.heap.push PySem.W.emptyDict).push (PySem.W.instObj C s.heap.objs.size)).get? (s.heap.objs.size + 1) = some (PySem.W.instObj C s.heap.objs.size) := by
    have := Heap.get?_push_size (s.heap.push PySem.W.emptyDict) (o := PySem.W.instObj C s.heap.objs.size) rfl
    rwa [Heap.size_push] at this
  have e3 : (s.heap.push PySem.W.emptyDict).Ns s.heap.objs.size (fun _ => none) := ⟨PySem.W.emptyDict, #[], _, e1, rfl, (fun e he => absurd he (by simp)), fun _ => rfl⟩
  have I1 := I.laid (a := s.heap.objs.size) (o := .own (s.heap.objs.size + 1)) (h' := s.heap.push PySem.W.emptyDict) (t' := s.toks) (fun b u q => Heap.get?_push_of_some _ q) (Nat.le_refl _) ⟨_, e1⟩
  refine I1.laid (a := s.heap.objs.size + 1) (o := .ins C s.heap.objs.size []) (t' := s.toks) (fun b u q => Heap.get?_push_of_some _ q) (Nat.le_of_eq (Heap.size_push _ _)) ?_
  have ne : s.heap.objs.size ≠ s.heap.objs.size + 1 := Nat.ne_of_lt (Nat.lt_succ_self _)
  refine ⟨by rw [upd_ne ne, upd_same], Nat.zero_le _, ne, e2, fun _ => none, (Heap.Ns1.of_empty e3).at fun o q => Heap.get?_push_of_some _ q, fun _ => True.intro, fun y hy => absurd rfl hy⟩
end
section
variable {X : Cx} {o e value : Expr} {f : Str} {pos pos' tpos : Pos} {ta tv : TE}
end
section
variable {X : Cx} {pins : List (Addr × Obj)} {σ : St} {H : Hp} {s : Shared} {A : Around} {E : Value → Shared → Prop} {Q : Value → Shared → Prop} {c : Value} {b : Bool}
inductive TyOf (K : PySem.W.Frag) (H : Hp) : V → Value → Prop where
  | non : TyOf K H .non (.type "NoneType")
  | bl (x : Bool) : TyOf K H (.bl x) (.type "bool")
  | int (i : Int) : TyOf K H (.int i) (.type "int")
  | str (x : Str) : TyOf K H (.str x) (.type "str")
  | flt (x : UInt64) : TyOf K H (.flt x) (.type "float")
  | lst {a : Addr} {xs : List V} (e : H a = some (.lst xs)) : TyOf K H (.ref a) (.type "list")
  | frz {a : Addr} {o : Obj} {xs : List V} (e : H a = some (.frz o (.lst xs))) : TyOf K H (.ref a) (.type "list")
  | tup {a : Addr} {xs : List V} (e : H a = some (.tup xs)) : TyOf K H (.ref a) (.type "tuple")
  | dK {a : Addr} {kvs : List (Key × V)} (e : H a = some (.dK kvs)) : TyOf K H (.ref a) (.type "dict")
  | dT {a : Addr} {kvs : List (List Key × V)} (e : H a = some (.dT kvs)) : TyOf K H (.ref a) (.type "dict")
  | ins {a C dx : Addr} {fs : List (Str × V)} (e : H a = some (.ins C dx fs)) (cl : Cls K C) (ha : PySem.W.findIn K (.ref C) "__class__" = some (some (.builtin "object.__class__")))
      (hn : PySem.W.specialIn K (.builtin "object.__class__") "__get__" = some (some (.builtin "getset_descriptor.__get__"))) (htk : PySem.W.takesIn K (.builtin "object.__class__") = some true)
      (hm : PySem.W.mroIn K C (.type "object") = some true) : TyOf K H (.ref a) (.ref C)
end
end L2
namespace L2
open PySem PySem.Spec PyProof.Rows
structure Room (k : Nat) (A : Around) : Prop where
  hd : A.handled = none
  dp : A.depth + 3 * k + 5 < recursionLimit
  un : A.units + 16 * k + 200 < cLine
theorem Room.mono {j k : Nat} {A : Around} (r : Room k A) (h : j ≤ k) : Room j A := ⟨r.hd, by have := r.dp; omega, by have := r.un; omega⟩
theorem Room.deeper {k : Nat} {A : Around} (r : Room (k + 1) A) (env : Env) : Room k (A.deeper env) :=
  ⟨r.hd, by have := r.dp; show A.depth + 1 + 3 * k + 5 < _; omega, by have := r.un; show A.units + 3 + 16 * k + 200 < _; omega⟩
theorem Room.in1 {k : Nat} {A : Around} (r : Room (k + 1) A) : Room k A.in1 :=
  ⟨r.hd, by have := r.dp; show A.depth + 3 * k + 5 < _; omega, by have := r.un; show A.units + 1 + 16 * k + 200 < _; omega⟩
theorem Room.depth {k : Nat} {A : Around} (r : Room k A) : A.depth < recursionLimit := by have := r.dp; omega
theorem Room.units {k : Nat} {A : Around} (r : Room k A) : A.units + 64 < cLine := by have := r.un; omega
def tNil : TA := fun _ H Q => Q [] H
def tCons (ta : TE) (tr : TA) : TA := fun σ H Q => ta σ H fun x H1 => tr σ H1 fun xs H2 => Q (x :: xs) H2
section
variable {X : Cx} {e : Expr} {es : List Expr} {te : TE} {t : TA} {pos : Pos}
theorem pa_nil : PA X [] tNil := fun _ _ _ _ H Q I h => Calls.spliced_nil ⟨[], H, I, .nil, h⟩
theorem pa_cons (ha : PE X e te) (hr : PA X es t) (hs : starEach (e :: es) X.env = (false, eval e X.env) :: starEach es X.env := by rfl) : PA X (e :: es) (tCons te t) := by
  intro pos pins s σ H Q I h
  rw [hs]
  show wpAny _ _ (spliced ((false, eval e X.env) :: backTo pos (starEach es X.env))) _ _ s
  refine Calls.spliced_cons (thn (ha pins s σ H _ I h) fun u s1 ⟨x, H1, I1, r1, q1⟩ => ?_)
  exact thn (hr pos pins s1 σ H1 _ I1 q1) fun us s2 ⟨xs, H2, I2, r2, q2⟩ => ⟨x :: xs, H2, I2, .cons r1 r2, q2⟩
def tTup (t : TA) : TE := fun σ H Q => t σ H fun xs H1 => xs.length ≤ sizeLine ∧ ∀ p, H1 p = none → Q (.ref p) (upd H1 p (.tup xs))
def tLst (t : TA) : TE := fun σ H Q => t σ H fun xs H1 => xs.length ≤ sizeLine ∧ ∀ p, H1 p = none → Q (.ref p) (upd H1 p (.lst xs))
theorem pe_tup {x1} (h : PA X es t) : PE X (.Tuple es x1 pos) (tTup t) := by
  intro pins s σ H Q I hq
  refine wpAny_Tuple_spliced (thn (h pos pins s σ H _ I hq) fun us s1 ⟨xs, H1, I1, r, z, q⟩ => ⟨by rw [← r.length]; exact z, ?_⟩)
  have hf : H1 s1.heap.objs.size = none := I1.hok.fresh (Nat.le_refl _)
  refine ⟨.ref s1.heap.objs.size, upd H1 s1.heap.objs.size (.tup xs), I1.laid (t' := s1.toks) (fun b u e => Heap.get?_push_of_some _ e) (Nat.le_refl _) ?_, rfl, q _ hf⟩
  exact ⟨z, us, r, ⟨_, Heap.get?_push_size _ rfl, rfl, _, rfl⟩⟩
theorem pe_lst (h : PA X es t) : PE X (.List es pos) (tLst t) := by
  intro pins s σ H Q I hq
  refine wpAny_List_spliced (thn (h pos pins s σ H _ I hq) fun us s1 ⟨xs, H1, I1, r, z, q⟩ => ⟨by rw [← r.length]; exact z, ?_⟩)
  have hf : H1 s1.heap.objs.size = none := I1.hok.fresh (Nat.le_refl _)
  refine ⟨.ref s1.heap.objs.size, upd H1 s1.heap.objs.size (.lst xs), I1.laid (t' := s1.toks) (fun b u e => Heap.get?_push_of_some _ e) (Nat.le_refl _) ?_, rfl, q _ hf⟩
  exact ⟨z, us, 0, r, Heap.get?_push_size _ rfl⟩
end
abbrev Sp := List V → Hp → VK → XK → Prop
abbrev CXT := List Env → Hp → Shared → XK → Value → Shared → Prop
structure Env0 (P : Program) (w : World) (K : PySem.W.Frag) (mg : Str → Option Value) (base : Heap) (A : Around) (outer : List Env) (s : Shared) (H : Hp) : Prop where
  frames : A.frames = some outer
  mod : Mod K mg base
  bs : ∀ b o, base.get? b = some o → s.heap.get? b = some o ∧ H b = none
  bsz : base.objs.size ≤ s.heap.objs.size
  funs : s.heap.FunFrames base outer
  frf : ∀ b ∈ frs outer, H b = none
  hok : HOk P w H s.heap
  bare : AllBare s.gens
def CE (outer : List Env) (P : Program) (w : World) (H : Hp) (s : Shared) (Q : VK) (u : Value) (s' : Shared) : Prop :=
  ∃ v H', s'.os = s.os ∧ AllBare s'.gens ∧ Un (frs outer) [] H H' s.heap s'.heap ∧ HOk P w H' s'.heap ∧ RelV v u ∧ Q v H'
def CR (CX : CXT) (outer : List Env) (P : Program) (w : World) (H : Hp) (s : Shared) (Q : VK) (E : XK) (r : Result) (s' : Shared) : Prop :=
  match r with
  | .ok (.ret u) => CE outer P w H s Q u s'
  | .ok _ => False
  | .error e => CX outer H s E e s'
structure FnOk (P : Program) (w : World) (K : PySem.W.Frag) (mg : Str → Option Value) (base : Heap) (CX : CXT) (k : Nat) (f : Addr) (fd : FuncData) (ps : List Str) (sp : Sp) : Prop where
  len : ∀ vs H Q E, sp vs H Q E → vs.length = ps.length
  run : ∀ (A : Around) (outer : List Env) (s : Shared) (H : Hp) (args : Args) (us : List Value) (vs : List V) (Q : VK) (E : XK), Room k A → Env0 P w K mg base A outer s H → BindsTo s fd args (ps.zip us) → Vals vs us → sp vs H Q E →
    codeAny (model P w) A (.call (.ref f) args) (CR CX outer P w H s Q E) s
theorem FnOk.mono {P : Program} {w : World} {K : PySem.W.Frag} {mg : Str → Option Value} {base : Heap} {CX : CXT} {j k : Nat} {f : Addr} {fd : FuncData} {ps : List Str} {sp : Sp} (F : FnOk P w K mg base CX j f fd ps sp) (h : j ≤ k) :
    FnOk P w K mg base CX k f fd ps sp := ⟨F.len, fun A outer s H args us vs Q E hr => F.run A outer s H args us vs Q E (hr.mono h)⟩
theorem Env0.in1 {P : Program} {w : World} {K : PySem.W.Frag} {mg : Str → Option Value} {base : Heap} {A : Around} {outer : List Env} {s : Shared} {H : Hp} (e : Env0 P w K mg base A outer s H) :
    Env0 P w K mg base A.in1 outer s H := ⟨e.frames, e.mod, e.bs, e.bsz, e.funs, e.frf, e.hok, e.bare⟩
section
variable {X : Cx} {pins : List (Addr × Obj)} {σ : St} {H : Hp} {s s' : Shared}
theorem Inv.env0 (I : Inv X pins σ H s) : Env0 X.prog X.w X.K X.mg X.base X.A X.stack s H :=
  ⟨I.ok.frames, I.ok.mod, I.bs, Nat.le_trans I.ok.bsz I.sz, I.stack, I.stkFree, I.hok, I.bare⟩
theorem Inv.after {Q : VK} {u : Value} (I : Inv X pins σ H s) (h : CE X.stack X.prog X.w H s Q u s') : EP X pins σ Q u s' := by
  obtain ⟨v, H', os, bare, un, hok, r, q⟩ := h
  obtain ⟨hh, g, d, t, os'⟩ := s'
  obtain rfl : os' = s.os := os
  exact ⟨v, H', I.call (h' := hh) (g' := g) (d' := d) (t' := t) (ch := []) un hok bare (fun b z => absurd z (by simp)), r, q⟩
end
def tCall (sp : Sp) (dvs : List V) (E : XK) (t : TA) : TE := fun σ H Q => t σ H fun vs H1 => sp (vs ++ dvs) H1 Q E
def Binds (K : PySem.W.Frag) (fd : FuncData) (ps : List Str) (ds : List Value) : Prop :=
  ∀ (s : Shared) (us : List Value), K.In s.heap → (us ++ ds).length = ps.length → BindsTo s fd ⟨us, []⟩ (ps.zip (us ++ ds))
theorem Binds.all {K : PySem.W.Frag} {fd : FuncData} {ps : List Str} (h : ∀ us : List Value, us.length = ps.length → bindArgs fd ⟨us, []⟩ = pure (ps.zip us)) : Binds K fd ps [] := fun s us _ hl => by
  rw [List.append_nil] at hl ⊢
  exact .of_eq (h us hl)
def Passes (CX : CXT) (X : Cx) (E : XK) : Prop := ∀ (pins : List (Addr × Obj)) (σ : St) (H : Hp) (s : Shared) (e : Value) (s' : Shared), Inv X pins σ H s → CX X.stack H s E e s' → X.xe e s'
section
variable {X : Cx} {CX : CXT} {k : Nat} {f C : Addr} {fd : FuncData} {ps : List Str} {sp : Sp} {dvs : List V} {ds : List Value} {E : XK} {x m : Str} {p pos apos : Pos} {e o : Expr} {es : List Expr} {ta : TE} {t : TA}
theorem run_fn {pins : List (Addr × Obj)} {σ : St} {H : Hp} {s : Shared} {Q : VK} {us : List Value} {vs : List V} (F : FnOk X.prog X.w X.K X.mg X.base CX k f fd ps sp) (hr : Room k X.A) (hb : Binds X.K fd ps ds) (hd : Vals dvs ds) (hx : Passes CX X E)
    (I : Inv X pins σ H s) (r : Vals vs us) (h : sp (vs ++ dvs) H Q E) : wpAny (model X.prog X.w) X.A (call (.ref f) us) (EP X pins σ Q) X.xe s := by
  have r2 : Vals (vs ++ dvs) (us ++ ds) := r.append hd
  have hl : (us ++ ds).length = ps.length := by rw [← r2.length]; exact F.len _ _ _ _ h
  refine wpAny_call (codeAny_mono (F.run X.A X.stack s H ⟨us, []⟩ (us ++ ds) (vs ++ dvs) Q E hr I.env0 (hb s us I.kIn hl) r2 h) fun r s' hq => ?_)
  cases r with
  | error e => exact hx pins σ H s e s' I hq
  | ok fl =>
    cases fl with
    | ret u => exact I.after hq
    | next => exact False.elim hq
    | brk => exact False.elim hq
    | cont => exact False.elim hq
theorem pe_call (F : FnOk X.prog X.w X.K X.mg X.base CX k f fd ps sp) (hr : Room k X.A) (hg : Gl X x) (hm : X.mg x = some (.ref f)) (hk : PySem.W.keepIn X.K (.ref f) = true) (hb : Binds X.K fd ps ds) (hd : Vals dvs ds) (hx : Passes CX X E)
    (ha : PA X (e :: es) t) (hdb : (x == ("__debug__" : Str)) = false := by decide) (he : starEach (e :: es) X.env = (false, eval e X.env) :: starEach es X.env := by rfl) (hpl : (backTo pos (starEach es X.env)).any (·.1) = false := by rfl) :
    PE X (.Call (.Name x p) (e :: es) [] pos) (tCall sp dvs E t) := by
  intro pins s σ H Q I h
  refine wpAny_Call_Name_kw (ld_glob I hg hm ?_ hdb)
  refine PySem.W.callWith_K (h₀ := X.base) I.ok.mod.kin hk (thn (ha pos pins s σ H _ I h) fun us s1 ⟨vs, H1, I1, r, q⟩ => ⟨I1.kIn, ?_⟩) he hpl
  exact run_fn F hr hb hd hx I1 r q
structure Mk (K : PySem.W.Frag) (C f : Addr) : Prop where
  makes : PySem.W.makesIn K C = true
  init : PySem.W.findIn K (.ref C) "__init__" = some (some (.ref f))
  fn : PySem.W.isFn K (.ref f) = true
  kp : PySem.W.keepIn K (.ref C) = true
end
section
variable {X : Cx} {CX : CXT} {k : Nat} {f C : Addr} {fd : FuncData} {ps ks : List Str} {sp : Sp} {E : XK} {x m : Str} {p pos apos kpos : Pos} {e o : Expr} {es : List Expr} {kws : List Keyword} {te ta : TE} {t tk : TA} {nm : Option Str}
structure KBinds (K : PySem.W.Frag) (fd : FuncData) (ps ks : List Str) (g : List Value → List Value → List Value) (gV : List V → List V → List V) : Prop where
  to : ∀ (s : Shared) (us ws : List Value), K.In s.heap → (g us ws).length = ps.length → BindsTo s fd ⟨us, ks.zip ws⟩ (ps.zip (g us ws))
  rel : ∀ {vs : List V} {us : List Value} {zs : List V} {ws : List Value}, Vals vs us → Vals zs ws → Vals (gV vs zs) (g us ws)
variable {g : List Value → List Value → List Value} {gV : List V → List V → List V}
end
structure FnScope (N P : List Str) (sc : Scope) : Prop where
  kind : sc.kind = .function
  co : sc.isCoroutine = false
  gen : sc.isGenerator = false
  nd : N.Nodup
  pre : N.take P.length = P
  par : ∀ x ∈ P, sc.names.lookup x = some .local ∨ sc.names.lookup x = some .cell
  nofree : ∀ y ∈ sc.names, y.2 ≠ .free
theorem bindL_out {kindOf : Str → Option NameKind} {x : Str} : ∀ {binds : List (Str × Value)} {m : Str → Option Value}, (∀ v, (x, v) ∉ binds) → bindL kindOf binds m x = m x
  | [], _, _ => rfl
  | (n, v) :: r, m, h => by
    unfold bindL
    rw [bindL_out fun w hw => h w (List.mem_cons_of_mem _ hw)]
    split
    · have : x ≠ n := by rintro rfl; exact h v List.mem_cons_self
      simp [this]
    · rfl
theorem bindC_out {kindOf : Str → Option NameKind} {x : Str} : ∀ {binds : List (Str × Value)} {m : Str → Option Value}, (∀ v, (x, v) ∉ binds) → bindC kindOf binds m x = m x
  | [], _, _ => rfl
  | (n, v) :: r, m, h => by
    unfold bindC
    rw [bindC_out fun w hw => h w (List.mem_cons_of_mem _ hw)]
    split
    · rfl
    · have : x ≠ n := by rintro rfl; exact h v List.mem_cons_self
      simp [this]
theorem bindL_get {kindOf : Str → Option NameKind} {x : Str} {v : Value} : ∀ {P : List Str} {vs : List Value} {i : Nat} {m : Str → Option Value}, P.Nodup → P[i]? = some x → vs[i]? = some v → kindOf x = some .local →
    bindL kindOf (P.zip vs) m x = some v
  | [], _, _, _, _, h, _, _ => by simp at h
  | _ :: _, [], _, _, _, _, h, _ => by simp at h
  | p :: P, w :: vs, 0, m, nd, h1, h2, hk => by
    simp at h1 h2; subst h1; subst h2
    show bindL kindOf ((p, w) :: P.zip vs) m p = _
    unfold bindL
    rw [bindL_out fun v hv => (List.nodup_cons.mp nd).1 (List.of_mem_zip hv).1, if_pos hk]
    simp
  | p :: P, w :: vs, i + 1, m, nd, h1, h2, hk => by
    show bindL kindOf ((p, w) :: P.zip vs) m x = _
    unfold bindL
    exact bindL_get (i := i) (List.nodup_cons.mp nd).2 (by simpa using h1) (by simpa using h2) hk
theorem bindC_get {kindOf : Str → Option NameKind} {x : Str} {v : Value} : ∀ {P : List Str} {vs : List Value} {i : Nat} {m : Str → Option Value}, P.Nodup → P[i]? = some x → vs[i]? = some v → kindOf x ≠ some .local →
    bindC kindOf (P.zip vs) m x = some v
  | [], _, _, _, _, h, _, _ => by simp at h
  | _ :: _, [], _, _, _, _, h, _ => by simp at h
  | p :: P, w :: vs, 0, m, nd, h1, h2, hk => by
    simp at h1 h2; subst h1; subst h2
    show bindC kindOf ((p, w) :: P.zip vs) m p = _
    unfold bindC
    rw [bindC_out fun v hv => (List.nodup_cons.mp nd).1 (List.of_mem_zip hv).1, if_neg hk]
    simp
  | p :: P, w :: vs, i + 1, m, nd, h1, h2, hk => by
    show bindC kindOf ((p, w) :: P.zip vs) m x = _
    unfold bindC
    exact bindC_get (i := i) (List.nodup_cons.mp nd).2 (by simpa using h1) (by simpa using h2) hk
def start (N : List Str) (vs : List V) : St := vs.map some ++ List.replicate (N.length - vs.length) none
def cxOf (CX : CXT) (P : Program) (w : World) (K : PySem.W.Frag) (mg : Str → Option Value) (base : Heap) (N : List Str) (qual : Str) (scope : Scope) (f : Addr) (cd : Value) (A : Around) (outer : List Env) (s : Shared) (H : Hp) (E : XK) : Cx where
  prog := P
  w := w
  K := K
  mg := mg
  base := base
  A := A.deeper (envOfC qual scope s.heap.objs.size f cd)
  N := N
  s₀ := s
  H₀ := H
  env := envOfC qual scope s.heap.objs.size f cd
  outer := outer
  stack := envOfC qual scope s.heap.objs.size f cd :: outer
  ex := []
  calm := true
  fn := fun _ => true
  pn := []
  xe := fun e s' => wpAny (model P w) (A.deeper (envOfC qual scope s.heap.objs.size f cd)) (leaving (envOfC qual scope s.heap.objs.size f cd) e) (fun _ s'' => CX outer H s E e s'') (fun e' s'' => CX outer H s E e' s'') s'
theorem cell_has {sc : Scope} {n : Nat} {x : Str} (h : sc.names.lookup x = some .cell) : ∃ c, (cellsFrom n sc.names []).lookup x = some c := by
  have q := PySem.W.cellsFrom_some sc.names n [] (.inl h)
  exact Option.isSome_iff_exists.mp q
theorem inv_start {CX : CXT} {P : Program} {w : World} {K : PySem.W.Frag} {mg : Str → Option Value} {base : Heap} {N ps : List Str} {qual : Str} {scope : Scope} {f : Addr} {cd : Value} {A : Around} {outer : List Env} {s s1 : Shared} {H : Hp} {E : XK} {us : List Value} {vs : List V}
    (S : FnScope N ps scope) (hd : A.handled = none) (e0 : Env0 P w K mg base A outer s H) (hl : vs.length = ps.length) (r : Vals vs us)
    (x : InCallC s s.heap.objs.size (bindL (envOfC qual scope s.heap.objs.size f cd).kindOf (ps.zip us) fun _ => none) (cellsFrom (s.heap.objs.size + 1) scope.names []) (bindC (envOfC qual scope s.heap.objs.size f cd).kindOf (ps.zip us) fun _ => none) s1) :
    Inv (cxOf CX P w K mg base N qual scope f cd A outer s H E) [] (start N vs) H s1 := by
  have hpl : ps.length ≤ N.length := by have := congrArg List.length S.pre; rw [List.length_take] at this; omega
  obtain ⟨h1, tk, rfl, hk⟩ := x.done
  have noA : ∀ b : Addr, b ∉ (cxOf CX P w K mg base N qual scope f cd A outer s H E).ex := fun b z => absurd (show b ∈ ([] : List Addr) from z) (by simp)
  refine ⟨⟨e0.mod, S.kind, rfl, rfl, Nat.le_refl _, fun y z c h1 h2 => ?_, fun y hy => ?_, fun y c _ h => ?_, fun _ => hd, Around.frames_deeper e0.frames, .inr ⟨rfl, rfl⟩, fun b z => absurd z (noA b), e0.bs, e0.bsz, fun b _ _ => noA b, fun b z => absurd z (noA b), e0.funs, e0.frf⟩,
    rfl, e0.bare, Un.kept hk, ⟨_, x.toInCall.ns, fun i y v h1 h2 h3 => ?_⟩, fun y c h => ⟨_, x.cell y c h⟩, e0.hok.fresh (Nat.le_refl _), fun y c h => ?_, fun p hp => absurd (show p ∈ ([] : List (Addr × Obj)) from hp) (by simp), e0.hok.kept hk, ?_⟩
  · exact name_of_addr x.apart (PySem.mem_of_lookup h1) (PySem.mem_of_lookup h2)
  · have hy : scope.names.lookup y = some .cell ∨ scope.names.lookup y = some .free := hy
    rcases hy with hy | hy
    · exact cell_has hy
    · exact absurd rfl (S.nofree _ (PySem.mem_of_lookup hy))
  · exact Nat.le_of_lt (x.above y c (PySem.mem_of_lookup h))
  · have hi : i < vs.length := by
      unfold start at h2
      by_cases hi : i < vs.length
      · exact hi
      · rw [List.getElem?_append_right (by simpa using hi)] at h2
        rw [List.getElem?_replicate] at h2
        split at h2 <;> cases h2
    have ha : vs[i]? = some v := by
      unfold start at h2
      rw [List.getElem?_append_left (by simpa using hi), List.getElem?_map] at h2
      cases e : vs[i]? with
      | none => rw [e] at h2; cases h2
      | some a => rw [e] at h2; cases h2; rfl
    obtain ⟨u, hu, rv⟩ := r.get ha
    have hp : ps[i]? = some y := by
      rw [← S.pre, List.getElem?_take_of_lt (by omega)]; exact h1
    have ndP : ps.Nodup := by rw [← S.pre]; exact S.nd.sublist (List.take_sublist _ _)
    refine ⟨u, rv, ?_⟩
    rcases S.par y (List.mem_of_getElem? hp) with k | k
    · exact .inl ⟨k, bindL_get ndP hp hu k⟩
    · obtain ⟨c, e⟩ := cell_has (n := s.heap.objs.size + 1) k
      refine .inr ⟨.inl k, c, e, ?_⟩
      have q := x.cell y c e
      rw [bindC_get ndP hp hu (by show scope.names.lookup y ≠ _; rw [k]; decide)] at q
      exact q
  · exact e0.hok.fresh (Nat.le_of_lt (x.above y c (PySem.mem_of_lookup h)))
  · unfold start
    show _ = N.length
    rw [List.length_append, List.length_map, List.length_replicate]
    omega
theorem fn_of {CX : CXT} {P : Program} {w : World} {K : PySem.W.Frag} {mg : Str → Option Value} {base : Heap} {k : Nat} {f : Addr} {name qual : Str} {params : Arguments} {body : List Stmt} {scope : Scope} {dV kV doc pm cdv ct oc : Value} {an od : Option Addr}
    {osl : Array (Option Value)} {N ps : List Str} {sp : Sp} (lk : K.lookup f = some ⟨oc, od, .func (PySem.W.fnOf name qual params body scope dV kV doc pm an cdv ct), osl⟩) (hcd : PySem.W.codeIn K cdv qual = true) (S : FnScope N ps scope)
    (len : ∀ vs H Q E, sp vs H Q E → vs.length = ps.length)
    (hbody : ∀ (A : Around) (outer : List Env) (s : Shared) (H : Hp) (vs : List V) (Q : VK) (E : XK), Room k (A.deeper (envOfC qual scope s.heap.objs.size f cdv)) → sp vs H Q E →
      ∃ t, PSs (cxOf CX P w K mg base N qual scope f cdv A outer s H E) body t ∧ t { nx := fun _ H' => Q .non H', rt := Q } (start N vs) H) :
    FnOk P w K mg base CX (k + 1) f (PySem.W.fnOf name qual params body scope dV kV doc pm an cdv ct) ps sp := by
  refine ⟨len, fun A outer s H args us vs Q E hr e0 hb r hsp => ?_⟩
  have hl := len _ _ _ _ hsp
  have KX : K.In s.heap := e0.mod.kin.keeps fun b o e => (e0.bs b o e).1
  have lim : s.heap.NoLimit := e0.mod.nolimit.keeps fun b o e => (e0.bs b o e).1
  have hkind : ∀ y ∈ ps.zip us, scope.names.lookup y.1 = some .local ∨ (scope.names.lookup y.1 = some .cell ∧ ((cellsFrom (s.heap.objs.size + 1) scope.names []).lookup y.1).isSome = true) := fun ⟨n, v⟩ hy => by
    rcases S.par n (List.of_mem_zip hy).1 with q | q
    · exact .inl q
    · exact .inr ⟨q, PySem.W.cellsFrom_some _ _ _ (.inl q)⟩
  refine codeAny_call_function hr.depth (KX _ _ lk) rfl S.co S.gen rfl (PySem.W.codeRec_of KX hcd) (hb _ _ _ _ ?_)
  refine wpAny_newFunctionEnv_cells S.kind hkind fun env he s1 x => ?_
  subst he
  refine ⟨lim.keeps x.toInCall.keep, codeAny_func ?_⟩
  obtain ⟨t, ht, hq⟩ := hbody A outer s H vs Q E (hr.deeper _) hsp
  have I : Inv (cxOf CX P w K mg base N qual scope f cdv A outer s H E) [] (start N vs) H s1 := inv_start S hr.hd e0 hl r x
  refine wpAny_mono (ht [] s1 (start N vs) H _ I hq) (fun fl s' hs => ?_) fun e s' hs => hs
  have fin : ∀ {σ' : St} {H' : Hp} {v : V} {u : Value}, Inv (cxOf CX P w K mg base N qual scope f cdv A outer s H E) [] σ' H' s' → RelV v u → Q v H' → CE outer P w H s Q u s' :=
    fun {σ' H' v u} J rv q => ⟨v, H', J.os, J.bare, J.base, J.hok, rv, q⟩
  cases fl with
  | ret u =>
    obtain ⟨v, σ', H', J, rv, q⟩ := hs
    exact fin J rv q
  | next =>
    obtain ⟨σ', H', J, q⟩ := hs
    exact fin (v := V.non) (u := Value.none) J rfl q
  | brk =>
    obtain ⟨_, _, _, q⟩ := hs
    exact False.elim q
  | cont =>
    obtain ⟨_, _, _, q⟩ := hs
    exact False.elim q
end L2
namespace L2
open PySem PySem.Spec PyProof.Rows
section
variable {X : Cx} {x : Str} {p pos : Pos} {e : Expr} {es : List Expr} {t : TA} {id T : String} {r : List V → Hp → VK → Prop}
def tCB (r : List V → Hp → VK → Prop) (t : TA) : TE := fun σ H Q => t σ H fun vs H1 => r vs H1 Q
theorem pe_callB (hc : CallR X (.builtin id) r) (hg : Gl X x) (hm : X.mg x = none) (hv : bootBuiltins x = some (.builtin id)) (ha : PA X (e :: es) t) (hn : x ≠ "__name__" := by decide) (hdb : (x == ("__debug__" : Str)) = false := by decide)
    (he : starEach (e :: es) X.env = (false, eval e X.env) :: starEach es X.env := by rfl) (hpl : (backTo pos (starEach es X.env)).any (·.1) = false := by rfl) : PE X (.Call (.Name x p) (e :: es) [] pos) (tCB r t) := by
  intro pins s σ H Q I h
  refine wpAny_Call_Name_kw (ld_blt I hg hm hv ?_ hn hdb)
  exact PyProof.Rows.callWith_builtin1 (thn (ha pos pins s σ H _ I h) fun us s1 ⟨vs, H1, I1, r1, q1⟩ => hc pins s1 σ H1 vs us Q I1 r1 q1) he hpl
theorem pe_callTy (hc : CallR X (.type T) r) (hg : Gl X x) (hm : X.mg x = none) (hv : bootBuiltins x = some (.type T)) (ha : PA X (e :: es) t) (hn : x ≠ "__name__" := by decide) (hdb : (x == ("__debug__" : Str)) = false := by decide)
    (he : starEach (e :: es) X.env = (false, eval e X.env) :: starEach es X.env := by rfl) (hpl : (backTo pos (starEach es X.env)).any (·.1) = false := by rfl) : PE X (.Call (.Name x p) (e :: es) [] pos) (tCB r t) := by
  intro pins s σ H Q I h
  refine wpAny_Call_Name_kw (ld_blt I hg hm hv ?_ hn hdb)
  exact PyProof.Rows.callWith_type1 (thn (ha pos pins s σ H _ I h) fun us s1 ⟨vs, H1, I1, r1, q1⟩ => hc pins s1 σ H1 vs us Q I1 r1 q1) he hpl
end
end L2
namespace HT
open PySem PyProof.Rows
section
open PySem.SeqAt
open PySem.AutoSeq1 (wpAny_loadPart')
open PySem.MeetsSeq PySem.MeetsSeq2 PySem.MeetsSeq3
end
section
variable {prog : Program} {w : World} {A : Around} {E : Value → Shared → Prop} {s : Shared}
def sIx (n d : Nat) : Option Int → Nat
  | none => d
  | some v => if v < 0 then (v + (n : Int)).toNat else min v.toNat n
theorem sIx_nat (n d k : Nat) : sIx n d (some (k : Int)) = min k n := by
  show (if (k : Int) < 0 then ((k : Int) + (n : Int)).toNat else min (k : Int).toNat n) = min k n
  rw [if_neg (by omega), Int.toNat_natCast]
theorem sIx_le (n d : Nat) (hd : d ≤ n) (o : Option Int) : sIx n d o ≤ n := by
  cases o with
  | none => exact hd
  | some v =>
    show (if v < 0 then (v + (n : Int)).toNat else min v.toNat n) ≤ n
    by_cases hv : v < 0
    · rw [if_pos hv]; omega
    · rw [if_neg hv]; exact Nat.min_le_right _ _
theorem clip_eq (v : Int) (n d : Nat) : (if v < 0 then max (v + (n : Int)) 0 else min v (n : Int)) = ((sIx n d (some v) : Nat) : Int) := by
  show (if v < 0 then max (v + (n : Int)) 0 else min v (n : Int)) = (((if v < 0 then (v + (n : Int)).toNat else min v.toNat n) : Nat) : Int)
  by_cases hv : v < 0
  · simp only [if_pos hv]; omega
  · simp only [if_neg hv]; omega
theorem adjust_gen (lo hi : Option Int) (n : Nat) : Builtin.Slice.sliceAdjust lo hi 1 (n : Int) = (((sIx n 0 lo : Nat) : Int), ((sIx n n hi : Nat) : Int)) := by
  have h1 : ¬ ((1 : Int) < 0) := by omega
  unfold Builtin.Slice.sliceAdjust
  simp only [h1, if_false]
  refine Prod.ext ?_ ?_
  · cases lo with
    | none => rfl
    | some v => exact clip_eq v n 0
  · cases hi with
    | none => rfl
    | some v => exact clip_eq v n n
theorem places_gen (i j : Nat) : Builtin.Slice.slicePlaces (i : Int) (j : Int) 1 = j - i := by
  unfold Builtin.Slice.slicePlaces
  have h1 : (1 : Int) > 0 := by omega
  simp only [h1, if_true, Int.ediv_one]
  split <;> omega
theorem slicePart_ {v : Value} {o : Option Int} {Q : Option Int → Shared → Prop} (p : IsPart v o) (h : Q o s) : wpAny (model prog w) A (Builtin.Slice.slicePartIndex v) Q E s := by
  cases p with
  | none => exact slicePart_none h
  | int i t => exact slicePart_int h
theorem sliceApplied_gen {sl : Addr} {vl vu : Value} {lo hi : Option Int} {n : Nat} {Q : Int × Int × Nat → Shared → Prop} (hs : s.heap.IsSliceOf sl vl vu .none) (pl : IsPart vl lo) (pu : IsPart vu hi)
    (h : Q (((sIx n 0 lo : Nat) : Int), 1, sIx n n hi - sIx n 0 lo) s) : wpAny (model prog w) A (Builtin.Slice.sliceApplied (.ref sl) (pure (n : Int))) Q E s := by
  obtain ⟨os, hos, hcs, hds⟩ := id hs
  unfold Builtin.Slice.sliceApplied Builtin.Slice.sliceFields
  refine wpAny_bind (wpAny_bind (wpAny_field hos hds (x := vl) rfl (wpAny_bind (wpAny_field hos hds (x := vu) rfl (wpAny_bind (wpAny_field hos hds (x := .none) rfl (wpAny_pure ?_)))))))
  refine wpAny_bind (slicePart_none ?_)
  show wpAny _ _ (if ((1 : Int) == 0) = true then _ else _) _ _ s
  rw [if_neg (by decide)]
  refine wpAny_bind (slicePart_ pl (wpAny_bind (slicePart_ pu (wpAny_bind (wpAny_pure ?_)))))
  show wpAny _ _ (match Builtin.Slice.sliceAdjust lo hi 1 (n : Int) with | (lo, hi) => pure (lo, (1 : Int), Builtin.Slice.slicePlaces lo hi 1)) _ _ s
  rw [adjust_gen lo hi n]
  show wpAny _ _ (pure (((sIx n 0 lo : Nat) : Int), (1 : Int), Builtin.Slice.slicePlaces ((sIx n 0 lo : Nat) : Int) ((sIx n n hi : Nat) : Int) 1)) _ _ s
  rw [places_gen]
  exact wpAny_pure h
theorem pick_gen (xs : Array Value) (i k : Nat) : ((List.range k).filterMap fun (m : Nat) => xs[((i : Int) + (m : Int) * 1).toNat]?).toArray = ((xs.toList.drop i).take k).toArray := by
  have e : (fun (m : Nat) => xs[((i : Int) + (m : Int) * 1).toNat]?) = fun m => xs[i + m]? := by
    funext m
    have : ((i : Int) + (m : Int) * 1).toNat = i + m := by omega
    rw [this]
  rw [e]
  have := pick_run xs i k
  rw [List.filterMap_map] at this
  have e2 : ((fun x => xs[x]?) ∘ fun x => i + x) = fun m => xs[i + m]? := rfl
  rw [e2] at this
  rw [this]
theorem getItem_tuple_cut {t sl : Addr} {items : Array Value} {vl vu : Value} {lo hi : Option Int} {Q : Value → Shared → Prop} (ht : IsTup s.heap t items) (hs : s.heap.IsSliceOf sl vl vu .none) (pl : IsPart vl lo) (pu : IsPart vu hi)
    (hw : ¬ (sIx items.size 0 lo = 0 ∧ sIx items.size items.size hi = items.size))
    (h : Q (.ref s.heap.objs.size) { s with heap := s.heap.push { cls := .type "tuple", data := .seq ((items.toList.drop (sIx items.size 0 lo)).take (sIx items.size items.size hi - sIx items.size 0 lo)).toArray } })
    (hsz : items.size ≤ sizeLine) : wpAny (model prog w) A (getItem (.ref t) (.ref sl)) Q E s := by
  have htake : sizeOk (.seq ((items.toList.drop (sIx items.size 0 lo)).take (sIx items.size items.size hi - sIx items.size 0 lo)).toArray) := by
    show ((items.toList.drop (sIx items.size 0 lo)).take (sIx items.size items.size hi - sIx items.size 0 lo)).toArray.size ≤ sizeLine
    rw [List.size_toArray, List.length_take, List.length_drop, Array.length_toList]
    omega
  have hj : sIx items.size items.size hi ≤ items.size := sIx_le _ _ (Nat.le_refl _) hi
  obtain ⟨os, hos, hcs, hds⟩ := id hs
  have hTs : s.TypeIs (.ref sl) "slice" := ⟨os, hos, hcs⟩
  unfold getItem
  try with_reducible refine wpAny_holding ?_
  first | refine wpAny_bind (wpAny_pure ?_) | skip
  refine wpAny_bind (wpAny_sequenceKey ht.typeIs (by decide) ?_)
  refine wpAny_bind (wpAny_callSpecial?_slot (name := Str.ofString "__getitem__") ht.typeIs PyProof.Rows.slot_tuple_getitem
    (wpAny_call_entry PyProof.Rows.slot_tuple_getitem ht.typeIs entry_tuple_getitem ?_ (args_tuple_getitem _ _)))
  show wpAny _ _ (Builtin.Tuple.tupleItemsOf (.ref t) >>= _) _ _ s
  refine wpAny_bind (tupleItemsOf_ ht ?_)
  refine wpAny_bind (wpAny_typeOf hTs ?_)
  rw [if_pos (by decide)]
  refine wpAny_bind (sliceApplied_gen hs pl pu ?_)
  have hno : ¬ ((((sIx items.size 0 lo : Nat) : Int) == 0 && (1 : Int) == 1 && (sIx items.size items.size hi - sIx items.size 0 lo) == items.size) = true) := by
    intro q
    rw [Bool.and_eq_true, Bool.and_eq_true] at q
    have q1 : ((sIx items.size 0 lo : Nat) : Int) = 0 := eq_of_beq q.1.1
    have q2 : sIx items.size items.size hi - sIx items.size 0 lo = items.size := eq_of_beq q.2
    exact hw ⟨by omega, by omega⟩
  show wpAny _ _ (if (((sIx items.size 0 lo : Nat) : Int) == 0 && (1 : Int) == 1 && (sIx items.size items.size hi - sIx items.size 0 lo) == items.size) = true then _ else _) _ _ s
  rw [if_neg hno, pick_gen]
  first
    | exact wpAny_bind (m := Builtin.Tuple.tupleExact _) (wpAny_newObj_type (wpAny_pure ⟨_, rfl, wpAny_pure h⟩) htake)
    | exact wpAny_bind (m := Builtin.Tuple.tupleExact _) (wpAny_newObj_type (wpAny_bind (wpAny_pure (wpAny_pure ⟨_, rfl, wpAny_pure h⟩))) htake)
    | exact wpAny_bind (wpAny_bind (m := Builtin.Tuple.tupleExact _) (wpAny_newObj_type (wpAny_pure (wpAny_pure ⟨_, rfl, wpAny_pure h⟩)) htake))
    | exact wpAny_bind (wpAny_bind (m := Builtin.Tuple.tupleExact _) (wpAny_newObj_type (wpAny_pure ⟨_, rfl, wpAny_pure h⟩) htake))
end
end HT
namespace L2
open PySem PySem.Spec PyProof.Rows
abbrev TO := St → Hp → (Option Int → Hp → Prop) → Prop
def PO (X : Cx) (e : Option Expr) (t : TO) : Prop :=
  ∀ (pins : List (Addr × Obj)) (s : Shared) (σ : St) (H : Hp) (Q : Option Int → Hp → Prop), Inv X pins σ H s → t σ H Q →
    wpAny (model X.prog X.w) X.A (evalPart e X.env) (fun u s' => ∃ o H', Inv X pins σ H' s' ∧ IsPart u o ∧ Q o H') X.xe s
def tNoPart : TO := fun _ H Q => Q none H
def tPart (t : TE) : TO := fun σ H Q => t σ H fun x H1 => XI1 x fun i => Q (some i) H1
section
variable {X : Cx} {e : Expr} {te : TE} {lo hi : Option Expr} {tl th : TO} {pos p2 : Pos}
theorem po_none : PO X none tNoPart := by
  intro pins s σ H Q I h
  rw [evalPart_none]
  exact wpAny_pure ⟨none, H, I, .none, h⟩
theorem po_some (h : PE X e te) : PO X (some e) (tPart te) := by
  intro pins s σ H Q I hw
  rw [evalPart_some]
  refine thn (h pins s σ H _ I hw) fun u s1 ⟨x, H1, I1, r1, q1⟩ => ?_
  obtain ⟨i, rfl, q⟩ := q1
  obtain ⟨t, rfl⟩ := r1
  exact ⟨some i, H1, I1, .int i t, q⟩
def SlR (X : Cx) (r : V → Option Int → Option Int → Hp → VK → Prop) : Prop :=
  ∀ (pins : List (Addr × Obj)) (s : Shared) (σ : St) (H : Hp) (x : V) (v vl vu : Value) (lo hi : Option Int) (sl : Addr) (Q : VK), Inv X pins σ H s → RelV x v → s.heap.IsSliceOf sl vl vu .none → IsPart vl lo → IsPart vu hi → r x lo hi H Q →
    ∃ T id, typeLookup (.type T) "__getitem__" = pure (some (.builtin id)) ∧ s.TypeIs v T ∧ wpAny (model X.prog X.w) X.A (getItem v (.ref sl)) (EP X pins σ Q) X.xe s
theorem SlR.or {r r' : V → Option Int → Option Int → Hp → VK → Prop} (h : SlR X r) (h' : SlR X r') : SlR X (fun x lo hi H Q => r x lo hi H Q ∨ r' x lo hi H Q) := by
  intro pins s σ H x v vl vu lo hi sl Q I rx hs pl pu q
  rcases q with q | q
  · exact h pins s σ H x v vl vu lo hi sl Q I rx hs pl pu q
  · exact h' pins s σ H x v vl vu lo hi sl Q I rx hs pl pu q
def tSl (r : V → Option Int → Option Int → Hp → VK → Prop) (te : TE) (tl th : TO) : TE := fun σ H Q => te σ H fun x H1 => tl σ H1 fun l H2 => th σ H2 fun u H3 => r x l u H3 Q
theorem pe_slice {r : V → Option Int → Option Int → Hp → VK → Prop} (hr : SlR X r) (he : PE X e te) (hl : PO X lo tl) (hu : PO X hi th) : PE X (.Subscript e (.Slice lo hi none p2) pos) (tSl r te tl th) := by
  intro pins s σ H Q I h
  refine Subscript_ (thn (he pins s σ H _ I h) fun v s1 ⟨x, H1, I1, r1, q1⟩ => ?_)
  refine wpAny_Slice (thn (hl pins s1 σ H1 _ I1 q1) fun vl s2 ⟨l, H2, I2, pl, q2⟩ => thn (hu pins s2 σ H2 _ I2 q2) fun vu s3 ⟨u, H3, I3, pu, q3⟩ => ?_)
  rw [evalPart_none]
  refine wpAny_pure ?_
  have I4 : Inv X pins σ H3 { s3 with heap := s3.heap.push { cls := .type "slice", data := .fields #[vl, vu, .none] } } := I3.kept (t' := s3.toks) fun b ob q => Heap.get?_push_of_some _ q
  obtain ⟨T, id, hT, ht, hg⟩ := hr pins { s3 with heap := s3.heap.push { cls := .type "slice", data := .fields #[vl, vu, .none] } } σ H3 x v vl vu l u s3.heap.objs.size Q I4 r1 (Heap.IsSliceOf.new ..) pl pu q3
  show wpAny (model X.prog X.w) X.A (subscriptTail e (.Slice lo hi none p2) v (.ref s3.heap.objs.size)) (EP X pins σ Q) X.xe { s3 with heap := s3.heap.push { cls := .type "slice", data := .fields #[vl, vu, .none] } }
  exact tail_any (ops := [.ref s3.heap.objs.size, v]) ht hT hg (by with_unfolding_all rfl)
def cutV (xs : List V) (lo hi : Option Int) : List V := (xs.drop (HT.sIx xs.length 0 lo)).take (HT.sIx xs.length xs.length hi - HT.sIx xs.length 0 lo)
theorem cutV_length (xs : List V) (lo hi : Option Int) : (cutV xs lo hi).length ≤ xs.length := by
  unfold cutV
  rw [List.length_take, List.length_drop]
  omega
def rSlT (K : PySem.W.Frag) : V → Option Int → Option Int → Hp → VK → Prop := fun x lo hi H Q => ∃ a xs, x = .ref a ∧ SqT K H a xs ∧
  ¬ (HT.sIx xs.length 0 lo = 0 ∧ HT.sIx xs.length xs.length hi = xs.length) ∧ ∀ p, H p = none → Q (.ref p) (upd H p (.tup (cutV xs lo hi)))
theorem sl_tup : SlR X (rSlT X.K) := by
  intro pins s σ H x v vl vu lo hi sl Q I rx hs pl pu h
  obtain ⟨a, xs, rfl, hx, hw, q⟩ := h
  cases rx
  obtain ⟨its, r, ht, hz⟩ := I.tuple hx
  have hlen : its.toArray.size = xs.length := by rw [List.size_toArray]; exact r.length.symm
  refine ⟨"tuple", _, PyProof.Rows.slot_tuple_getitem.lookup, ht.typeIs, ?_⟩
  refine HT.getItem_tuple_cut ht hs pl pu (by rw [hlen]; exact hw) ?_ (by rw [hlen]; exact hz)
  rw [hlen]
  refine ⟨.ref s.heap.objs.size, _, I.laid (t' := s.toks) (o := .tup (cutV xs lo hi)) (fun b ob q => Heap.get?_push_of_some _ q) (Nat.le_refl _) ?_, rfl, q _ (I.hok.fresh (Nat.le_refl _))⟩
  exact ⟨Nat.le_trans (cutV_length xs lo hi) hz, _, (r.drop (HT.sIx xs.length 0 lo)).take (HT.sIx xs.length xs.length hi - HT.sIx xs.length 0 lo), IsTup.new _ _⟩
end
end L2
namespace L2
open PySem PySem.Spec PyProof.Rows
def ixN (n : Nat) (i : Int) : Option Nat := if 0 ≤ i then (if i < n then some i.toNat else none) else if -(n : Int) ≤ i then some (i + n).toNat else none
def atI {α : Type} (xs : List α) (i : Int) : Option α := (ixN xs.length i).bind fun j => xs[j]?
theorem ixN_seq {n : Nat} {i : Int} {j : Nat} (h : ixN n i = some j) : seqIndex? i n = some j ∧ j < n ∧ -(n : Int) ≤ i ∧ i < n := by
  unfold ixN at h
  by_cases h0 : 0 ≤ i
  · rw [if_pos h0] at h
    by_cases h1 : i < n
    · rw [if_pos h1] at h
      have e : i.toNat = j := Option.some.inj h
      exact ⟨by rw [seqIndex_of h0 h1, e], by omega, by omega, h1⟩
    · rw [if_neg h1] at h; cases h
  · rw [if_neg h0] at h
    by_cases h1 : -(n : Int) ≤ i
    · rw [if_pos h1] at h
      have e : (i + n).toNat = j := Option.some.inj h
      exact ⟨by rw [seqIndex_neg (by omega) h1, e], by omega, h1, by omega⟩
    · rw [if_neg h1] at h; cases h
theorem atI_get {α : Type} {xs : List α} {i : Int} {v : α} (h : atI xs i = some v) : ∃ j, seqIndex? i xs.length = some j ∧ xs[j]? = some v ∧ j < xs.length ∧ -(xs.length : Int) ≤ i ∧ i < xs.length := by
  unfold atI at h
  cases e : ixN xs.length i with
  | none => rw [e] at h; cases h
  | some j =>
    rw [e] at h
    obtain ⟨h1, h2, h3, h4⟩ := ixN_seq e
    exact ⟨j, h1, h, h2, h3, h4⟩
theorem atI_nat {α : Type} {xs : List α} {j : Nat} {v : α} (h : xs[j]? = some v) : atI xs (j : Int) = some v := by
  have hj : j < xs.length := (List.getElem?_eq_some_iff.mp h).1
  have e : ixN xs.length (j : Int) = some j := by
    unfold ixN
    rw [if_pos (by omega), if_pos (by omega)]; simp
  unfold atI; rw [e]; exact h
def PlainIx (b : Expr) : Prop := ∀ o i, subscripted b false o i = operate [o, i] (getItem o i)
def IxR (X : Cx) (r : R2) : Prop :=
  ∀ (value slice : Expr) (pins : List (Addr × Obj)) (s : Shared) (σ : St) (H : Hp) (x y : V) (v u : Value) (Q : VK), Inv X pins σ H s → RelV x v → RelV y u → r x y H Q →
    subscripted slice false v u = operate [v, u] (getItem v u) → wpAny (model X.prog X.w) X.A (subscriptTail value slice v u) (EP X pins σ Q) X.xe s
def MtR (X : Cx) (id : String) (r : V → List V → Hp → VK → Prop) : Prop :=
  ∀ (pins : List (Addr × Obj)) (s : Shared) (σ : St) (H : Hp) (x : V) (xs : List V) (v : Value) (us : List Value) (Q : VK), Inv X pins σ H s → RelV x v → Vals xs us → r x xs H Q →
    wpAny (model X.prog X.w) X.A (call (.builtin id) (v :: us)) (EP X pins σ Q) X.xe s
section
variable {X : Cx} {a b : Expr} {ta tb : TE} {pos : Pos}
theorem IxR.or {r r' : R2} (h : IxR X r) (h' : IxR X r') : IxR X (fun x y H Q => r x y H Q ∨ r' x y H Q) := by
  intro value slice pins s σ H x y v u Q I rx ry q hs
  rcases q with q | q
  · exact h value slice pins s σ H x y v u Q I rx ry q hs
  · exact h' value slice pins s σ H x y v u Q I rx ry q hs
theorem MtR.or {id : String} {r r' : V → List V → Hp → VK → Prop} (h : MtR X id r) (h' : MtR X id r') : MtR X id (fun x xs H Q => r x xs H Q ∨ r' x xs H Q) := by
  intro pins s σ H x xs v us Q I rx rs q
  rcases q with q | q
  · exact h pins s σ H x xs v us Q I rx rs q
  · exact h' pins s σ H x xs v us Q I rx rs q
theorem pe_ix {r : R2} (hr : IxR X r) (ha : PE X a ta) (hb : PE X b tb) (hs : PlainIx b) : PE X (.Subscript a b pos) (tOp r ta tb) := by
  intro pins s σ H Q I h
  exact Subscript_ (binT ha hb I h fun v u s2 x y H2 I2 rx ry q => hr a b pins s2 σ H2 x y v u Q I2 rx ry q (hs _ _))
inductive XIx (S : Addr → List V → Prop) (x y : V) (R : V → Prop) : Prop
  | mk (p : Addr) (xs : List V) (i : Int) (v : V) (e : x = .ref p) (e2 : y = .int i) (s : S p xs) (a : atI xs i = some v) (q : R v) : XIx S x y R
def rIxL (K : PySem.W.Frag) : R2 := fun x y H Q => XIx (SqL K H) x y fun v => Q v H
def rIxT (K : PySem.W.Frag) : R2 := fun x y H Q => XIx (SqT K H) x y fun v => Q v H
theorem ix_list : IxR X (rIxL X.K) := by
  intro value slice pins s σ H x y v u Q I rx ry h hs
  obtain ⟨p, xs, i, z, rfl, rfl, hq, he, q⟩ := h
  cases rx
  obtain ⟨t, rfl⟩ := ry
  obtain ⟨its, r, pl, hz⟩ := I.list hq
  obtain ⟨j, h1, h2, h3, h4, h5⟩ := atI_get he
  obtain ⟨w, ew, rw'⟩ := r.get h2
  have hl := r.length
  have hn := line63
  have fin : EP X pins σ Q w s := ⟨z, H, I, rw', q⟩
  by_cases h0 : 0 ≤ i
  · have hj : i.toNat = j := by
      rw [seqIndex_of h0 h5] at h1
      exact Option.some.inj h1
    exact item_listR pl.isList h0 (by omega) (by rw [hj]; simpa using ew) fin hs
  · have hj : (i + (its.toArray.size : Int)).toNat = j := by
      rw [seqIndex_neg (by omega) h4] at h1
      rw [List.size_toArray, ← hl]
      exact Option.some.inj h1
    exact subscriptTail_builtinR (x := w) pl.isList.typeIs slot_list_getitem.lookup
      (wpAny_getItem_list_neg (Q := fun r s' => r = w ∧ EP X pins σ Q r s') pl.isList (by omega) (by rw [List.size_toArray] <;> omega) (by omega) (by rw [hj]; simpa using ew) ⟨rfl, fin⟩) hs
theorem ix_tup : IxR X (rIxT X.K) := by
  intro value slice pins s σ H x y v u Q I rx ry h hs
  obtain ⟨p, xs, i, z, rfl, rfl, hq, he, q⟩ := h
  cases rx
  obtain ⟨t, rfl⟩ := ry
  obtain ⟨its, r, pl, hz⟩ := I.tuple hq
  obtain ⟨j, h1, h2, h3, h4, h5⟩ := atI_get he
  obtain ⟨w, ew, rw'⟩ := r.get h2
  have hl := r.length
  have hn := line63
  have fin : EP X pins σ Q w s := ⟨z, H, I, rw', q⟩
  exact subscriptTail_builtinR (x := w) pl.typeIs slot_tuple_getitem.lookup
    (getItem_tuple (j := j) (Q := fun r s' => r = w ∧ EP X pins σ Q r s') pl (by omega) (by omega) (by rw [List.size_toArray, ← hl]; exact h1) (by simpa using ew) ⟨rfl, fin⟩) hs
theorem Inv.lst {pins : List (Addr × Obj)} {σ : St} {H : Hp} {s : Shared} {p : Addr} {xs : List V} (I : Inv X pins σ H s) (h : H p = some (.lst xs)) :
    ∃ (its : List Value) (n : Nat), Vals xs its ∧ s.heap.get? p = some { cls := .type "list", data := .seq its.toArray n } ∧ xs.length ≤ sizeLine := by
  obtain ⟨z, its, n, r, e⟩ := I.hok p _ h
  exact ⟨its, n, r, e, z⟩
theorem slice_bounds (lo hi : Option Int) (n : Nat) : (sliceBounds lo hi none n).1 = ((HT.sIx n 0 lo : Nat) : Int) ∧ (sliceBounds lo hi none n).2.1 = ((HT.sIx n n hi : Nat) : Int) ∧ (sliceBounds lo hi none n).2.2 = 1 := by
  refine ⟨?_, ?_, rfl⟩
  · cases lo with
    | none => simp [sliceBounds, HT.sIx]
    | some i =>
      simp only [sliceBounds, HT.sIx, Option.getD_none, show (1 : Int) > 0 by decide, if_true]
      by_cases h : i < 0
      · simp only [h, if_true] <;> omega
      · simp only [h, if_false] <;> omega
  · cases hi with
    | none => simp [sliceBounds, HT.sIx]
    | some i =>
      simp only [sliceBounds, HT.sIx, Option.getD_none, show (1 : Int) > 0 by decide, if_true]
      by_cases h : i < 0
      · simp only [h, if_true] <;> omega
      · simp only [h, if_false] <;> omega
theorem slicePick_cut (its : List Value) (lo hi : Option Int) : slicePick its.toArray lo hi none = ((its.drop (HT.sIx its.length 0 lo)).take (HT.sIx its.length its.length hi - HT.sIx its.length 0 lo)).toArray := by
  obtain ⟨h1, h2, h3⟩ := slice_bounds lo hi its.toArray.size
  unfold slicePick
  rw [h1, h2, h3]
  simp only [sliceRange_one, pick_run, List.size_toArray] <;> rfl
def rSlL (K : PySem.W.Frag) : V → Option Int → Option Int → Hp → VK → Prop := fun x lo hi H Q => ∃ a xs, x = .ref a ∧ SqL K H a xs ∧ ∀ p, H p = none → Q (.ref p) (upd H p (.lst (cutV xs lo hi)))
theorem sl_list : SlR X (rSlL X.K) := by
  intro pins s σ H x v vl vu lo hi sl Q I rx hs pl pu h
  obtain ⟨a, xs, rfl, hx, q⟩ := h
  cases rx
  obtain ⟨its, r, ht, hz⟩ := I.list hx
  have hlen := r.length
  refine ⟨"list", _, slot_list_getitem.lookup, ht.isList.typeIs, ?_⟩
  refine wpAny_getItem_list_slice ht.isList hs pl pu .none (by simp) ?_ (by rw [List.size_toArray] <;> omega)
  rw [slicePick_cut, ← hlen]
  refine ⟨.ref s.heap.objs.size, _, I.laid (t' := s.toks) (o := .lst (cutV xs lo hi)) (fun b ob q => Heap.get?_push_of_some _ q) (Nat.le_refl _) ?_, rfl, q _ (I.hok.fresh (Nat.le_refl _))⟩
  exact ⟨Nat.le_trans (cutV_length xs lo hi) hz, _, 0, (r.drop (HT.sIx xs.length 0 lo)).take (HT.sIx xs.length xs.length hi - HT.sIx xs.length 0 lo), Heap.get?_push_size _ rfl⟩
def flatV : V → Bool
  | .non => true
  | .bl _ => true
  | .int _ => true
  | .str _ => true
  | _ => false
def eqV : V → V → Bool
  | .non, .non => true
  | .bl a, .bl b => a == b
  | .bl a, .int b => (if a then 1 else 0) == b
  | .int a, .bl b => a == (if b then 1 else 0)
  | .int a, .int b => a == b
  | .str a, .str b => a == b
  | _, _ => false
theorem eqAt_V {A : Around} {s : Shared} {y x : V} {u v : Value} (ry : RelV y u) (rx : RelV x v) (fy : flatV y = true) (fx : flatV x = true) : SeqAt.EqAt A s u v (eqV y x) := by
  cases y with
  | non =>
    cases ry
    cases x with
    | non => cases rx; exact SeqAt.EqAt.same _
    | bl b => cases rx; exact SeqAt.EqAt.none_bool b
    | int b => obtain ⟨t, rfl⟩ := rx; exact SeqAt.EqAt.none_int b t
    | str b => obtain ⟨t, rfl⟩ := rx; exact SeqAt.EqAt.none_str b t
    | _ => exact absurd (show false = true from fx) Bool.false_ne_true
  | bl a =>
    cases ry
    cases x with
    | non => cases rx; exact SeqAt.EqAt.bool_none a
    | bl b => cases rx; exact SeqAt.EqAt.bool_bool a b
    | int b => obtain ⟨t, rfl⟩ := rx; exact SeqAt.EqAt.bool_int a b t
    | str b => obtain ⟨t, rfl⟩ := rx; exact SeqAt.EqAt.bool_str a b t
    | _ => exact absurd (show false = true from fx) Bool.false_ne_true
  | int a =>
    obtain ⟨t', rfl⟩ := ry
    cases x with
    | non => cases rx; exact SeqAt.EqAt.int_none a t'
    | bl b => cases rx; exact SeqAt.EqAt.int_bool a t' b
    | int b => obtain ⟨t, rfl⟩ := rx; exact SeqAt.EqAt.int_int a t' b t
    | str b => obtain ⟨t, rfl⟩ := rx; exact SeqAt.EqAt.int_str a t' b t
    | _ => exact absurd (show false = true from fx) Bool.false_ne_true
  | str a =>
    obtain ⟨t', rfl⟩ := ry
    cases x with
    | non => cases rx; exact SeqAt.EqAt.str_none a t'
    | bl b => cases rx; exact SeqAt.EqAt.str_bool a t' b
    | int b => obtain ⟨t, rfl⟩ := rx; exact SeqAt.EqAt.str_int a t' b t
    | str b => obtain ⟨t, rfl⟩ := rx; exact SeqAt.EqAt.str_str a t' b t
    | _ => exact absurd (show false = true from fx) Bool.false_ne_true
  | _ => exact absurd (show false = true from fy) Bool.false_ne_true
def eqU (x : V) (u : Value) : Bool := match u with
  | .none => eqV .non x
  | .bool b => eqV (.bl b) x
  | .int i _ => eqV (.int i) x
  | .str z _ => eqV (.str z) x
  | _ => false
theorem eqU_of {x y : V} {u : Value} (r : RelV y u) (f : flatV y = true) : eqU x u = eqV y x := by
  cases y with
  | non => cases r; rfl
  | bl b => cases r; rfl
  | int i => obtain ⟨t, rfl⟩ := r; rfl
  | str z => obtain ⟨t, rfl⟩ := r; rfl
  | _ => exact absurd (show false = true from f) Bool.false_ne_true
theorem any_eqU {x : V} : ∀ {xs : List V} {us : List Value}, Vals xs us → xs.all flatV = true → us.any (eqU x) = xs.any fun y => eqV y x
  | _, _, .nil, _ => rfl
  | y :: xs, u :: us, .cons r t, f => by
    rw [List.all_cons, Bool.and_eq_true] at f
    rw [List.any_cons, List.any_cons, eqU_of r f.1, any_eqU t f.2]
theorem mem_eqAt {A : Around} {s : Shared} {x : V} {v : Value} (rx : RelV x v) (fx : flatV x = true) : ∀ {xs : List V} {us : List Value}, Vals xs us → xs.all flatV = true → ∀ u ∈ us, SeqAt.EqAt A s u v (eqU x u)
  | _, _, .nil, _ => fun u hu => by cases hu
  | y :: xs, u :: us, .cons r t, f => fun u' hu => by
    rw [List.all_cons, Bool.and_eq_true] at f
    rcases List.mem_cons.mp hu with rfl | hu
    · rw [eqU_of r f.1]; exact eqAt_V r rx f.1 fx
    · exact mem_eqAt rx fx t f.2 u' hu
def inV (x : V) (xs : List V) : Bool := xs.any fun y => eqV y x
inductive XIn (S : Addr → List V → Prop) (x y : V) (R : List V → Prop) : Prop
  | mk (p : Addr) (xs : List V) (e : y = .ref p) (s : S p xs) (f : flatV x = true) (g : xs.all flatV = true) (q : R xs) : XIn S x y R
def rIn (K : PySem.W.Frag) (neg : Bool) : R2 := fun x y H Q => XIn (fun p xs => SqL K H p xs ∨ SqT K H p xs) x y fun xs => Q (.bl (if neg then !inV x xs else inV x xs)) H
theorem op_in_seq : OpR X (compareOp .In) (rIn X.K false) := by
  intro pins s σ H x y v u Q I rx ry h
  obtain ⟨p, xs, rfl, hq, fx, fs, q⟩ := h
  cases ry
  rcases hq with hq | hq
  · obtain ⟨its, r, pl, hz⟩ := I.list hq
    refine SeqAt.in_listAt (eqU x) pl.isList (fun w hw => mem_eqAt rx fx r fs w (by simpa using hw)) ⟨.bl _, H, I, rfl, ?_⟩
    rw [show its.toArray.any (eqU x) = its.any (eqU x) by simp, any_eqU r fs]
    exact q
  · obtain ⟨its, r, pl, hz⟩ := I.tuple hq
    refine SeqAt.in_tupleAt (eqU x) pl (fun w hw => mem_eqAt rx fx r fs w (by simpa using hw)) ⟨.bl _, H, I, rfl, ?_⟩
    rw [show its.toArray.any (eqU x) = its.any (eqU x) by simp, any_eqU r fs]
    exact q
theorem op_notIn_seq : OpR X (compareOp .NotIn) (rIn X.K true) := by
  intro pins s σ H x y v u Q I rx ry h
  obtain ⟨p, xs, rfl, hq, fx, fs, q⟩ := h
  cases ry
  rcases hq with hq | hq
  · obtain ⟨its, r, pl, hz⟩ := I.list hq
    refine SeqAt.notIn_listAt (eqU x) pl.isList (fun w hw => mem_eqAt rx fx r fs w (by simpa using hw)) ⟨.bl _, H, I, rfl, ?_⟩
    rw [show its.toArray.any (eqU x) = its.any (eqU x) by simp, any_eqU r fs]
    exact q
  · obtain ⟨its, r, pl, hz⟩ := I.tuple hq
    refine SeqAt.notIn_tupleAt (eqU x) pl (fun w hw => mem_eqAt rx fx r fs w (by simpa using hw)) ⟨.bl _, H, I, rfl, ?_⟩
    rw [show its.toArray.any (eqU x) = its.any (eqU x) by simp, any_eqU r fs]
    exact q
theorem call_len_seq : CallR X (.builtin "len") (fun xs H Q => XLen xs (fun p ys => SqL X.K H p ys ∨ SqT X.K H p ys) fun ys => Q (.int ys.length) H) := by
  intro pins s σ H xs us Q I r h
  obtain ⟨p, ys, rfl, hq, q⟩ := h
  obtain ⟨u, rfl, rx⟩ := vals1 r
  cases rx
  have hn := line63
  rcases hq with hq | hq
  · obtain ⟨its, r', pl, hz⟩ := I.list hq
    have hlen := r'.length
    exact Calls.call_len_list pl.isList (by simp only [List.size_toArray] <;> omega) ⟨.int ys.length, H, I.tok _, ⟨s.toks + 1, by rw [List.size_toArray, hlen]⟩, q⟩
  · obtain ⟨its, r', pl, hz⟩ := I.tuple hq
    have hlen := r'.length
    exact len_tuple pl (by simp only [List.size_toArray] <;> omega) ⟨.int ys.length, H, I.tok _, ⟨s.toks + 1, by rw [List.size_toArray, hlen]⟩, q⟩
theorem CallR.or {f : Value} {r r' : List V → Hp → VK → Prop} (h : CallR X f r) (h' : CallR X f r') : CallR X f (fun xs H Q => r xs H Q ∨ r' xs H Q) := by
  intro pins s σ H xs us Q I rs q
  rcases q with q | q
  · exact h pins s σ H xs us Q I rs q
  · exact h' pins s σ H xs us Q I rs q
theorem call_tuple_of : CallR X (.type "tuple") (fun xs H Q => ∃ p ys, xs = [.ref p] ∧ ((SqL X.K H p ys ∧ ∀ l, H l = none → Q (.ref l) (upd H l (.tup ys))) ∨ (SqT X.K H p ys ∧ Q (.ref p) H))) := by
  intro pins s σ H xs us Q I r h
  obtain ⟨p, ys, rfl, h⟩ := h
  obtain ⟨u, rfl, rx⟩ := vals1 r
  cases rx
  rcases h with ⟨hq, q⟩ | ⟨hq, q⟩
  · obtain ⟨its, r', pl, hz⟩ := I.list hq
    have hlen := r'.length
    refine call_tuple_list pl.isList (fun h' kp => ?_) (by simp only [List.size_toArray] <;> omega)
    have I1 : Inv X pins σ H { s with heap := h' } := I.kept (t' := s.toks) kp
    have I2 : Inv X pins σ (upd H h'.objs.size (.tup ys)) { s with heap := h'.push { cls := .type "tuple", data := .seq its.toArray } } :=
      I1.laid (t' := s.toks) (fun b o e => Heap.get?_push_of_some _ e) (Nat.le_refl _) (show ObjOk X.prog X.w _ _ _ (.tup ys) from ⟨hz, its, r', IsTup.new _ _⟩)
    exact ⟨.ref h'.objs.size, _, I2, rfl, q _ (I1.hok.fresh (Nat.le_refl _))⟩
  · obtain ⟨its, r', pl, hz⟩ := I.tuple hq
    exact call_tuple_same pl ⟨.ref p, H, I, rfl, q⟩
def tyV (K : PySem.W.Frag) (T : String) (x : V) (H : Hp) : Prop := match x with
  | .str _ => T = "str"
  | .int _ => T = "int"
  | .ref p => (T = "list" ∧ ∃ xs, SqL K H p xs) ∨ (T = "tuple" ∧ ∃ o, K.lookup p = some o ∧ o.cls = .type "tuple" ∧ o.dict = none) ∨
      (T = "dict" ∧ ((∃ kvs, H p = some (.dK kvs)) ∨ ∃ kvs, H p = some (.dT kvs))) ∨ (T = "set" ∧ ∃ S n, H p = some (.set S n))
  | _ => False
theorem tyV_is {pins : List (Addr × Obj)} {σ : St} {H : Hp} {s : Shared} {T : String} {x : V} {v : Value} (I : Inv X pins σ H s) (r : RelV x v) (ty : tyV X.K T x H) :
    s.TypeIs v T ∧ ∀ a, v = .ref a → ∃ ob, s.heap.get? a = some ob ∧ ob.dict = none := by
  cases x with
  | str z =>
    obtain ⟨t, rfl⟩ := r
    cases (show T = "str" from ty)
    exact ⟨typeIs_str s z t, fun _ e => nomatch e⟩
  | int i =>
    obtain ⟨t, rfl⟩ := r
    cases (show T = "int" from ty)
    exact ⟨typeIs_int s i t, fun _ e => nomatch e⟩
  | ref p =>
    cases r
    rcases ty with ⟨rfl, xs, hq⟩ | ⟨rfl, o, hk, hc, hd⟩ | ⟨rfl, hk⟩ | ⟨rfl, S, n, hk⟩
    · obtain ⟨its, _, pl, _⟩ := I.list hq
      refine ⟨pl.isList.typeIs, fun a e => ?_⟩
      cases e
      obtain ⟨o, n, e, c, hd, _⟩ := pl
      exact ⟨o, e, hd⟩
    · refine ⟨⟨o, I.kIn p o hk, hc⟩, fun a e => ?_⟩
      cases e
      exact ⟨o, I.kIn _ o hk, hd⟩
    · have z : ∃ o, s.heap.get? p = some o ∧ o.ExactDict := by
        rcases hk with ⟨kvs, hk⟩ | ⟨kvs, hk⟩
        · obtain ⟨_, _, _, _, o, _, _, e, ex, _⟩ := I.hok p _ hk
          exact ⟨o, e, ex⟩
        · obtain ⟨_, _, _, _, o, _, _, e, ex, _⟩ := I.hok p _ hk
          exact ⟨o, e, ex⟩
      obtain ⟨o, e, ex⟩ := z
      refine ⟨⟨o, e, ex.1⟩, fun a e2 => ?_⟩
      cases e2
      exact ⟨o, e, ex.2.1⟩
    · obtain ⟨o, _, _, _, e, ex, _⟩ := I.hok p _ hk
      refine ⟨⟨o, e, ex.1⟩, fun a e2 => ?_⟩
      cases e2
      exact ⟨o, e, ex.2.1⟩
  | _ => exact False.elim ty
def tBM (K : PySem.W.Frag) (T : String) (r : V → List V → Hp → VK → Prop) (to : TE) (t : TA) : TE := fun σ H Q => to σ H fun x H1 => tyV K T x H1 ∧ t σ H1 fun xs H2 => r x xs H2 Q
variable {o e : Expr} {es : List Expr} {to : TE} {t : TA} {name : Str} {apos cpos : Pos} {T id : String} {r : V → List V → Hp → VK → Prop}
theorem pe_bm (pa : PlainAttrs T) (slot : Slot T name id) (hty : typeOf (.builtin id) = pure (.type "method_descriptor")) (hm : MtR X id r) (ho : PE X o to) (ha : PA X (e :: es) t)
    (hbase : attributeBase o name X.env (eval o X.env) = eval o X.env := by rfl)
    (hfew : ((backTo cpos (starEach (e :: es) X.env)).all (fun x => !x.1) && (backToKw cpos (keywordEach [] X.env)).all (fun x => x.1.isSome)
      && decide ((e :: es).length + ([] : List Keyword).length + (if ([] : List Keyword).isEmpty then 0 else 1) < 30)) = true := by rfl)
    (hline : (apos.endLine == cpos.line) = true := by rfl) (hs : starEach (e :: es) X.env = (false, eval e X.env) :: starEach es X.env := by rfl) (hplain : (backTo cpos (starEach es X.env)).any (·.1) = false := by rfl) :
    PE X (.Call (.Attribute o name apos) (e :: es) [] cpos) (tBM X.K T r to t) := by
  intro pins s σ H Q I h
  refine wpAny_Call_method_late hbase hfew hline rfl (thn (ho pins s σ H _ I h) fun v s1 ⟨x, H1, I1, r1, ty, q1⟩ => ?_)
  obtain ⟨h1, h2⟩ := tyV_is I1 r1 ty
  refine ⟨T, id, pa, slot, hty, h1, h2, ?_⟩
  have hA := ha cpos pins s1 σ H1 _ I1 q1
  rw [hs] at hA ⊢
  refine Calls.callWith_builtin (by show (false || (backTo cpos (starEach es X.env)).any (·.1)) = false; rw [hplain] <;> rfl) (Calls.evalArgs_plain ?_)
  exact thn hA fun us s2 ⟨vs, H2, I2, r2, q2⟩ => hm pins s2 σ H2 x vs v us Q I2 r1 r2 q2
/- xs.append(e), list.index on a module's tuple .. are MtR facts of 06m -/
end
end L2
namespace L2
open PySem PySem.Spec PyProof.Rows
def MtM (X : Cx) (id : String) (r : V → List V → Hp → VK → Prop) : Prop :=
  ∀ (pins : List (Addr × Obj)) (s : Shared) (σ : St) (H : Hp) (x : V) (xs : List V) (v : Value) (us : List Value) (Q : VK), Inv X pins σ H s → RelV x v → Vals xs us → r x xs H Q →
    wpAny (model X.prog X.w) X.A (call (.builtin id) (v :: us)) (EP X pins σ Q) X.xe s
theorem Vals.one : ∀ {x : V} {us : List Value}, Vals [x] us → ∃ u, us = [u] ∧ RelV x u
  | _, _, .cons r .nil => ⟨_, rfl, r⟩
theorem Vals.two : ∀ {x y : V} {us : List Value}, Vals [x, y] us → ∃ u v, us = [u, v] ∧ RelV x u ∧ RelV y v
  | _, _, _, .cons r (.cons q .nil) => ⟨_, _, rfl, r, q⟩
theorem Vals.zero : ∀ {us : List Value}, Vals [] us → us = []
  | _, .nil => rfl
theorem Vals.eraseIdx : ∀ {xs : List V} {us : List Value} (i : Nat), Vals xs us → Vals (xs.eraseIdx i) (us.eraseIdx i)
  | _, _, _, .nil => .nil
  | _, _, 0, .cons _ t => t
  | _, _, i + 1, .cons r t => .cons r (Vals.eraseIdx i t)
section
variable {X : Cx} {pins : List (Addr × Obj)} {σ : St} {H : Hp} {s : Shared} {l b : Addr} {xs ys zs : List V}
theorem Inv.lset {its its' : List Value} {n : Nat} {f : Array Value → Array Value} {t' : Nat} (I : Inv X pins σ H s) (hH : H l = some (.lst xs))
    (e : s.heap.get? l = some { cls := .type "list", data := .seq its.toArray n }) (hf : f its.toArray = its'.toArray) (hv : Vals ys its') (hz : ys.length ≤ sizeLine) :
    Inv X pins σ (upd H l (.lst ys)) { s with heap := s.heap.update l (Obj.mapSeq f), toks := t' } := by
  have q := PySem.IsL.update e f
  rw [hf] at q
  refine I.write (x := l) (e := l) (by rw [hH]; exact trivial) (.inl rfl) (fun b' u hb hu => (Heap.get?_update_other s.heap (Obj.mapSeq f) (Ne.symm hb)).trans hu) ⟨_, q⟩ ?_
  exact ⟨hz, its', _, hv, q⟩
theorem Inv.lnew {its : List Value} {t' : Nat} (I : Inv X pins σ H s) (hv : Vals ys its) (hz : ys.length ≤ sizeLine) :
    Inv X pins σ (upd H s.heap.objs.size (.lst ys)) { s with heap := s.heap.push { cls := .type "list", data := .seq its.toArray }, toks := t' } :=
  I.laid (fun _ _ q => Heap.get?_push_of_some _ q) (Nat.le_refl _) ⟨hz, its, 0, hv, Heap.get?_push_size _ rfl⟩
theorem Inv.fresh (I : Inv X pins σ H s) : H s.heap.objs.size = none := I.hok.fresh (Nat.le_refl _)
theorem Inv.lstM (I : Inv X pins σ H s) (hH : H l = some (.lst xs)) : xs.length ≤ sizeLine ∧ ∃ (its : List Value) (n : Nat), Vals xs its ∧ xs.length = its.length ∧ s.heap.get? l = some { cls := .type "list", data := .seq its.toArray n } := by
  obtain ⟨z, its, n, r, e⟩ := I.hok l _ hH
  exact ⟨z, its, n, r, r.length, e⟩
theorem notLongL {n : Nat} (h : n ≤ sizeLine) : Builtin.List.listTooLong n = false := by
  unfold Builtin.List.listTooLong
  exact decide_eq_false (by omega)
end
section
variable {X : Cx}
inductive XApp (H : Hp) (x : V) (vs : List V) (R : Addr → List V → V → Prop) : Prop
  | mk (l : Addr) (xs : List V) (y : V) (e : x = .ref l) (e2 : vs = [y]) (h : H l = some (.lst xs)) (z : xs.length < sizeLine) (q : R l xs y) : XApp H x vs R
def rAppend : V → List V → Hp → VK → Prop := fun x vs H Q => XApp H x vs fun l xs y => Q .non (upd H l (.lst (xs ++ [y])))
theorem mt_append : MtM X "list.append" rAppend := by
  intro pins s σ H x vs v us Q I rx rv h
  obtain ⟨l, xs, y, rfl, rfl, hH, hz, q⟩ := h
  cases rx
  obtain ⟨u, rfl, ru⟩ := rv.one
  obtain ⟨z, its, n, r, hl, e⟩ := I.lstM hH
  refine call_meets F.slot_list_append ⟨_, e, rfl⟩ F.entry_list_append (F.args_list_append_2 _ _) (PySem.list_append l its.toArray n u (by rw [List.size_toArray]; omega)) ⟨e, ?_⟩
  refine ⟨.non, _, I.lset (its' := its ++ [u]) hH e (by simp) (r.append (.cons ru .nil)) ?_, rfl, q⟩
  rw [List.length_append, List.length_singleton]
  omega
def rExtend : V → List V → Hp → VK → Prop := fun x vs H Q => ∃ l b xs zs, x = .ref l ∧ vs = [.ref b] ∧ H l = some (.lst xs) ∧ H b = some (.lst zs) ∧ xs.length + zs.length ≤ sizeLine ∧ Q .non (upd H l (.lst (xs ++ zs)))
theorem mt_extend : MtM X "list.extend" rExtend := by
  intro pins s σ H x vs v us Q I rx rv h
  obtain ⟨l, b, xs, zs, rfl, rfl, hH, hB, hz, q⟩ := h
  cases rx
  obtain ⟨u, rfl, ru⟩ := rv.one
  cases ru
  obtain ⟨z, its, n, r, hl, e⟩ := I.lstM hH
  obtain ⟨z2, its2, n2, r2, hl2, e2⟩ := I.lstM hB
  have hsz : its.toArray.size + its2.toArray.size ≤ sizeLine := by rw [List.size_toArray, List.size_toArray]; omega
  have hlong : ¬ (!its.toArray.isEmpty && Builtin.List.listTooLong (its.toArray.size + its2.toArray.size)) = true := by
    rw [notLongL hsz, Bool.and_false]
    exact Bool.false_ne_true
  refine call_meets F.slot_list_extend ⟨_, e, rfl⟩ F.entry_list_extend (F.args_list_extend_2 _ _)
    (AutoSeq1.list_extend_list_list_0 l its.toArray n b its2.toArray n2 hlong (by rw [List.size_toArray]; omega) (by omega)) ⟨e, e2, ?_⟩
  refine ⟨.non, _, I.lset (its' := its ++ its2) hH e (by simp) (r.append r2) ?_, rfl, q⟩
  rw [List.length_append]
  omega
def rCat : R2 := fun x y H Q => ∃ l b xs zs, x = .ref l ∧ y = .ref b ∧ H l = some (.lst xs) ∧ H b = some (.lst zs) ∧ xs.length + zs.length ≤ sizeLine ∧ ∀ p, H p = none → Q (.ref p) (upd H p (.lst (xs ++ zs)))
theorem op_cat : OpR X (binaryOp .Add) rCat := by
  intro pins s σ H x y v u Q I rx ry h
  obtain ⟨l, b, xs, zs, rfl, rfl, hH, hB, hz, q⟩ := h
  cases rx
  cases ry
  obtain ⟨z, its, n, r, hl, e⟩ := I.lstM hH
  obtain ⟨z2, its2, n2, r2, hl2, e2⟩ := I.lstM hB
  refine PySem.P.add_list e e2 ?_ (by rw [List.size_toArray, List.size_toArray]; omega)
  have ea : its.toArray ++ its2.toArray = (its ++ its2).toArray := by simp
  rw [ea]
  exact ⟨.ref _, _, I.lnew (t' := s.toks) (r.append r2) (by rw [List.length_append]; omega), rfl, q _ I.fresh⟩
end
section
variable {prog : Program} {w : World} {A : Around} {E : Value → Shared → Prop} {s : Shared}
set_option maxRecDepth 100000 in
end
section
variable {X : Cx}
end
end L2
namespace Att
open PySem PySem.W PySem.Calls PyProof.Rows
theorem ints_of_wellAll {P : Params} {h : Heap} : ∀ (ns : List Int) (vs : List Value), WellAll P h vs (ns.map WData.int) → IntsAre vs ns := by
  intro ns
  induction ns with
  | nil =>
    intro vs w
    rw [List.map_nil] at w
    cases w
    exact .nil
  | cons n ns ih =>
    intro vs w
    rw [List.map_cons] at w
    cases w with
    | cons a b =>
      cases a
      exact .cons _ _ (ih _ b)
theorem script_of {l : OpenLaw} {n : Nat} (hn : l.most = some n) {P : Params} {h : Heap} {args : List WData} {vals : List Value}
    (hpre : l.row.toRowW.claim.pre args = true) (hwl : WellAll P h vals args) :
    ∃ a vs ns, vals = [Value.ref a] ∧ args = [WData.list (ns.map WData.int)] ∧ h.get? a = some { cls := .type "list", data := .seq vs.toArray } ∧ IntsAre vs ns ∧ ns.length ≤ n := by
  have hsh : WShape.hasAll [] args [.list .int] = true := (pre_splitW hpre).1
  have hc : l.pre.holds [] { args := args } = true := (pre_splitW hpre).2
  obtain ⟨d, r, rfl, h1, h2⟩ := hasAllW_cons hsh
  obtain rfl := hasAllW_nil h2
  obtain ⟨xs, rfl, h3⟩ := hasW_list h1
  obtain ⟨ns, rfl⟩ := items_int h3
  have hlen : ns.length ≤ n := by
    unfold OpenLaw.pre at hc
    have h4 : (WTm.not (.lt (.lit (.int (n : Int))) (.len (.arg 0)))).holds [] { args := [.list (ns.map .int)] } = true := by
      have h4 := (holds_andW hc).1
      rw [hn] at h4
      exact h4
    have h5 := condW_of h4 (w_not (w_lt w_lit (w_len_list (w_arg rfl))))
    rw [List.length_map] at h5
    refine Nat.le_of_not_lt fun q => ?_
    have q' : (n : Int) < ((ns.length : Nat) : Int) := by omega
    first
      | (rw [decide_eq_true q'] at h5; exact absurd h5 (by decide))
      | (simp at h5; omega)
  cases hwl with
  | cons w1 w2 =>
    cases w2
    cases w1 with
    | list ho hall => exact ⟨_, _, ns, rfl, rfl, ho, ints_of_wellAll ns _ hall, hlen⟩
theorem post_true (l : OpenLaw) (args : List WData) : l.row.toRowW.claim.post args (.bool true) args = true :=
  postW_of (r := l.row.toRowW) (X := (true == true))
    (show WShape.has [] (.bool true) .bool = true by first | rfl | decide | simp [WShape.has, WShape.arms, WShape.armsAll])
    (show (WTm.eq .res (.lit (.bool true))).value [] { args := args, res := some (.bool true), after := args } = some (.bool (true == true)) from w_eq_bool (w_res rfl) w_lit) rfl
theorem attach_call {l : OpenLaw} {n : Nat} {q : Program} {loose : List Str} {XP : (Str → Option Value) → Heap → Prop} {YP : World → Heap → Prop} {d : DefRec}
    (hn : l.most = some n) (hdf : d.params.defaults = [])
    (call : ∀ (w : World) (s₀ s₁ : Shared) (mg mb : Str → Option Value) (fa : Addr) (o : Obj) (pm cd doc : Value) (a : Addr) (vs : List Value) (ns : List Int),
      Ground q loose [] XP w s₀ mg mb s₁.heap → YP w s₁.heap →
      s₁.heap.get? fa = some o → o.data = .func (docDef d.name d.params d.body d.scope pm cd doc) → s₁.heap.CodeRec cd d.name → mg d.name = some (.ref fa) →
      s₁.heap.get? a = some { cls := .type "list", data := .seq vs.toArray } → IntsAre vs ns → ns.length ≤ n → s₁.gens = #[] →
      codeAny (model l.prog w) callerA (.call (.ref fa) ⟨[.ref a], []⟩) (fun r s' => r = .ok (.ret (.bool true)) ∧ OldK s₁.heap s'.heap ∧ s'.os = s₁.os ∧ AllBare s'.gens) s₁) :
    WalkO q loose XP YP l.row.toRowW d [] (fun f vs => PySem.call f vs) := by
  intro w s₀ s₁ mg mb G Y fa o pm cd doc dV kV ho hd hcd hD hmg hg args vals as hpre hlay hrd hwl hlo
  obtain rfl : dV = .none := Dflts.none hD hdf
  obtain rfl : kV = .none := Dflts.noKw hD
  obtain ⟨a, vs, ns, rfl, rfl, hobj, hints, hlen⟩ := script_of hn hpre hwl
  refine enter_call (codeAny_mono (call w s₀ s₁ mg mb fa o pm cd doc a vs ns G Y ho (fd_plain hd) hcd hmg hobj hints hlen hg) fun r s' hq => ?_)
  obtain ⟨rfl, h2, h3, h4⟩ := hq
  exact ⟨.inl ⟨.bool true, .bool true, [], rfl, fun _ => rfl, .bool true, post_true l _, fun _ => ⟨List.Pairwise.nil, fun _ hm => (nomatch hm)⟩⟩, h2, h3, h4⟩
section
variable {prog : Program} {w : World} {A : Around} {E : Value → Shared → Prop} {s : Shared} {K : Frag}
def noObjs (h : Heap) : Heap := { h with objs := #[] }
theorem noObjs_get (h : Heap) (b : Addr) : (noObjs h).get? b = none := by
  cases e : (noObjs h).get? b with
  | none => rfl
  | some o => exact absurd (Heap.lt_size e) (Nat.not_lt_zero _)
def ledger (h : Heap) (L d : Addr) : List (Addr × Obj) := (List.range h.objs.size).filterMap fun a => if a = L ∨ a = d then none else (h.get? a).map fun o => (a, o)
theorem mem_ledger {h : Heap} {L d a : Addr} {o : Obj} : (a, o) ∈ ledger h L d ↔ a ≠ L ∧ a ≠ d ∧ h.get? a = some o := by
  unfold ledger
  rw [List.mem_filterMap]
  constructor
  · rintro ⟨b, _, e⟩
    split at e
    · cases e
    · rename_i hb
      obtain ⟨o', ho, e'⟩ := Option.map_eq_some_iff.mp e
      cases e'
      exact ⟨fun q => hb (.inl q), fun q => hb (.inr q), ho⟩
  · rintro ⟨n1, n2, ho⟩
    refine ⟨a, List.mem_range.mpr (Heap.lt_size ho), ?_⟩
    rw [if_neg (show ¬ (a = L ∨ a = d) from fun q => q.elim n1 n2), ho] <;> rfl
theorem news_ledger {h : Heap} {L d : Addr} {od : Obj} (hne : d ≠ L) (ho : h.get? d = some od) : News (noObjs h) L h ([] ++ (d, od) :: ledger h L d) := by
  rintro ⟨a, o⟩ hp
  rcases List.mem_cons.mp hp with e | hp
  · cases e
    exact ⟨ho, hne, noObjs_get _ _⟩
  · obtain ⟨n1, n2, e⟩ := mem_ledger.mp hp
    exact ⟨e, n1, noObjs_get _ _⟩
theorem fr_all {h : Heap} {L : Addr} {m : Str → Option Value} (n : h.Ns L m) : Fr (noObjs h) L h m :=
  ⟨n, fun b o e => (by rw [noObjs_get] at e; cases e), Nat.zero_le _⟩
end
end Att
namespace L2
open PySem PySem.Spec PyProof.Rows
theorem vals_ints : ∀ {vs : List Value} {ns : List Int}, IntsAre vs ns → Vals (ns.map V.int) vs
  | _, _, .nil => .nil
  | _, _, .cons n t h => .cons ⟨t, rfl⟩ (vals_ints h)
def Only (H : Hp) : Prop := ∀ b, H b = none ∨ ∃ o xs, H b = some (.frz o (.lst xs))
theorem law_call {P : Program} {w : World} {K : PySem.W.Frag} {mg mb : Str → Option Value} {CX : CXT} {k : Nat} {fa a : Addr} {fd : FuncData} {x : Str} {sp : Sp} {s₁ : Shared} {vs : List Value} {ns : List Int}
    (KX : K.In s₁.heap) (hns : s₁.heap.Ns mainGlobals mg) (hb : s₁.heap.Ns builtinsNs mb) (hbb : ∀ x : Str, x ≠ "__name__" → mb x = bootBuiltins x) (hlim : s₁.heap.NoLimit) (hg : s₁.gens = #[])
    (ha : s₁.heap.get? a = some { cls := .type "list", data := .seq vs.toArray }) (hi : IntsAre vs ns) (hl : ns.length ≤ sizeLine) (hr : Room k callerA)
    (F : ∀ base : Heap, K.In base → base.Ns mainGlobals mg → FnOk P w K mg base CX k fa fd [x] sp) (hbind : ∀ (s : Shared) (u : Value), BindsTo s fd ⟨[u], []⟩ [(x, u)])
    (hsp : ∀ H : Hp, Only H → SqL K H a (ns.map V.int) → sp [.ref a] H (fun v _ => v = .bl true) fun _ _ _ => False)
    (hCX : ∀ H e s', CX [] H s₁ (fun _ _ _ => False) e s' → False) :
    codeAny (model P w) callerA (.call (.ref fa) ⟨[.ref a], []⟩) (fun r s' => r = .ok (.ret (.bool true)) ∧ OldK s₁.heap s'.heap ∧ s'.os = s₁.os ∧ AllBare s'.gens) s₁ := by
  have rv := vals_ints hi
  have lenV := hi.length
  have core : ∀ H : Hp, Only H → SqL K H a (ns.map V.int) → HOk P w H s₁.heap → (∀ b, H b ≠ none → b = a) → (H a ≠ none → K.lookup a = none) →
      codeAny (model P w) callerA (.call (.ref fa) ⟨[.ref a], []⟩) (fun r s' => r = .ok (.ret (.bool true)) ∧ OldK s₁.heap s'.heap ∧ s'.os = s₁.os ∧ AllBare s'.gens) s₁ := by
    intro H hO hS hok hA hK
    have base_of : ∀ {b : Addr} {o : Obj}, s₁.heap.get? b = some o → H b = none → (hidT s₁.heap H).get? b = some o := fun e n => hidT_get e n
    have noA : ∀ {b : Addr} {o : Obj} {es : Array DictEntry} {ep : Nat}, s₁.heap.get? b = some o → o.data = .dict es ep → H b = none := fun {b o es ep} e d => by
      cases q : H b with
      | none => rfl
      | some u =>
        have e' : b = a := hA b (by rw [q]; simp)
        subst e'
        rw [ha] at e; cases e
        have d' : Data.seq vs.toArray _ = Data.dict es ep := d
        cases d'
    have nsK : ∀ {b : Addr} {m : Str → Option Value}, s₁.heap.Ns b m → (hidT s₁.heap H).Ns b m := fun {b m} ⟨o, es, ep, e, d, r⟩ => ⟨o, es, ep, base_of e (noA e d), d, r⟩
    have hKb : K.In (hidT s₁.heap H) := fun b o e => base_of (KX b o e) (by
      cases q : H b with
      | none => rfl
      | some u =>
        have e' : b = a := hA b (by rw [q]; simp)
        subst e'
        rw [hK (by rw [q]; simp)] at e; cases e)
    have hM : Mod K mg (hidT s₁.heap H) := ⟨hKb, nsK hns, ⟨mb, nsK hb, hbb⟩, let ⟨mc, h1, h2⟩ := hlim; ⟨mc, nsK h1, h2⟩⟩
    have e0 : Env0 P w K mg (hidT s₁.heap H) callerA [] s₁ H := ⟨rfl, hM, fun b o e => of_hidT e, Nat.le_of_eq (hidT_size _ _), trivial, fun b hb => absurd (show b ∈ ([] : List Addr) from hb) (by simp), hok, .of_eq hg⟩
    refine codeAny_mono ((F _ hKb (nsK hns)).run callerA [] s₁ H ⟨[.ref a], []⟩ [.ref a] [.ref a] _ _ hr e0 (hbind s₁ (.ref a)) (.cons rfl .nil) (hsp H hO hS)) fun r s' h => ?_
    cases r with
    | error e => exact (hCX H e s' h).elim
    | ok fl =>
      cases fl with
      | next => exact False.elim h
      | brk => exact False.elim h
      | cont => exact False.elim h
      | ret u =>
        obtain ⟨v, H', os, bare, un, hok', r', q⟩ := h
        have q' : v = .bl true := q
        subst q'
        obtain rfl : u = Value.bool true := r'
        refine ⟨rfl, OldK.of_keep fun b o e => ?_, os, bare⟩
        cases q : H b with
        | none => exact un.keep b o e q (by intro z; exact absurd (show b ∈ ([] : List Addr) from z) (by simp)) (by simp)
        | some u =>
          rcases hO b with z | ⟨ob, xs, z⟩
          · rw [q] at z; cases z
          · have z2 := un.frzs b ob _ z
            obtain ⟨e1, _⟩ := hok b _ z
            obtain ⟨e2, _⟩ := hok' b _ z2
            rw [e] at e1; cases e1
            exact e2
  cases hk : K.lookup a with
  | some o =>
    have e := KX a o hk
    rw [ha] at e
    cases e
    refine core (fun _ => none) (fun _ => .inl rfl) (.inr ⟨_, vs.toArray, _, hk, rfl, rfl, rfl, by rw [List.size_toArray, lenV]; exact hl, by simpa using rv⟩) (fun b u z => by have z' : (none : Option HO) = some u := z; cases z') (fun b z => absurd rfl z) fun z => absurd rfl z
  | none =>
    refine core (fun b => if b = a then some (.frz { cls := .type "list", data := .seq vs.toArray } (.lst (ns.map V.int))) else none) (fun b => ?_) (.inl (.inr ⟨{ cls := .type "list", data := .seq vs.toArray }, if_pos rfl⟩)) (fun b u z => ?_) (fun b z => ?_) fun _ => hk
    · by_cases hb : b = a
      · exact .inr ⟨_, _, if_pos hb⟩
      · exact .inl (if_neg hb)
    · by_cases hb : b = a
      · have z' := (if_pos hb).symm.trans z
        cases z'
        subst hb
        exact ⟨ha, by rw [List.length_map]; exact hl, vs, _, rv, ha⟩
      · have z' := (if_neg hb).symm.trans z
        cases z'
    · by_cases hb : b = a
      · exact hb
      · exact absurd (if_neg hb) z
end L2
namespace L2
open PySem PySem.Spec PyProof.Rows
abbrev KOf {K : PySem.W.Frag} {h : Heap} (_ : K.In h) : PySem.W.Frag := K
theorem walk_of {l : PySem.W.OpenLaw} {n k : Nat} {q : Program} {loose : List Str} {XP : (Str → Option Value) → Heap → Prop} {YP : World → Heap → Prop} {d : DefRec} {K : Params → PySem.W.Frag} {CX : World → CXT} {sp : World → Sp} {x : Str}
    (hn : l.most = some n) (hn2 : n ≤ sizeLine) (hdf : d.params.defaults = []) (hr : Room k callerA)
    (hY : ∀ (w : World) (h : Heap), YP w h → (K w.params).In h)
    (F : ∀ (w : World) (mg : Str → Option Value) (fa : Addr) (h : Heap), (K w.params).In h → h.Ns mainGlobals mg → mg d.name = some (.ref fa) →
      ∃ fd : FuncData, (∀ (s : Shared) (u : Value), BindsTo s fd ⟨[u], []⟩ [(x, u)]) ∧
        ∀ base : Heap, (K w.params).In base → base.Ns mainGlobals mg → FnOk l.prog w (K w.params) mg base (CX w) k fa fd [x] (sp w))
    (hsp : ∀ (w : World) (H : Hp) (a : Addr) (ns : List Int), ns.length ≤ n → Only H → SqL (K w.params) H a (ns.map V.int) → sp w [.ref a] H (fun v _ => v = .bl true) fun _ _ _ => False)
    (hCX : ∀ (w : World) (H : Hp) (s : Shared) (e : Value) (s' : Shared), CX w [] H s (fun _ _ _ => False) e s' → False) :
    PySem.W.WalkO q loose XP YP l.row.toRowW d [] (fun f vs => PySem.call f vs) := by
  refine Att.attach_call hn hdf fun w s₀ s₁ mg mb fa o pm cd doc a vs ns G Y ho hd hcd hmg hobj hints hlen hg => ?_
  have KX := hY w _ Y
  obtain ⟨fd, hb, hF⟩ := F w mg fa _ KX G.T.g hmg
  exact law_call KX G.T.g G.T.b G.T.builtins G.T.nolimit hg hobj hints (Nat.le_trans hlen hn2) hr hF hb (fun H hO hS => hsp w H a ns hlen hO hS) fun H e s' => hCX w H s₁ e s'
end L2
/- THE LAST THEOREM (shape; LID, My.* are yours):
   My.Adr: a structure of the addresses that your layer names (classes, functions); My.Txt K t: a structure (Prop) of the equations over K;
   My.txt_mk : {K} {implicit addresses ..} (e1 : nsIn K mainGlobals "law" = some (some (.ref f))) (e2 : K.lookup f = some ⟨oc, od, .func (fnOf "law" "law" params body scope dV kV doc pm an cdv ct), sl⟩) (e3 : codeIn K cdv "law" = true) .. : ∃ t, My.Txt K t
set_option maxRecDepth 100000 in
set_option maxHeartbeats 0 in
theorem PySem.Challenge.cw_LID_holds : PySem.Challenge.rw_LID.Holds := by
  w_on; o_law; k_head; (case hw => w_witness2)
  k_fill
  refine L2.walk_of (l := PySem.Challenge.rw_LID) (n := 63) (k := 40) (x := "script") (CX := fun w => ..) (sp := fun _ => My.sp_law) rfl (by decide) rfl ⟨rfl, by decide, by decide⟩ (fun w h Y => PySem.W.kIn_of Y) ?F ?S ?C
  case F =>
    intro w mg fa h KX G hmg
    have T : ∃ t, My.Txt (L2.KOf KX) t := by
      dsimp only [L2.KOf]                          -- K must stand as «<heap const> w.params» for k_is
      refine' My.txt_mk ?e1 ?e2 ?e3 ..
      (case e1 => PySem.W.k_is)                    -- in the order: a name -> its address -> its object -> its parts
      (case e2 => PySem.W.k_is)
      ..
    obtain ⟨t, T⟩ := T
    have e0 := hmg.symm.trans (PySem.W.mg_of KX G T.law)
    cases e0                                       -- fa is the law's own address
    exact ⟨_, fun s u => .of_eq rfl, fun base kb nb => My.law_fn T kb nb⟩     -- if «.of_eq rfl» comes too early: refine' ⟨_, ?b, fun base kb nb => My.law_fn T kb nb⟩; exact fun s u => .of_eq rfl
  case S => exact fun w H a ns hl hO hS => ..
  case C => exact ..
(the tactic k_is has no namespace: write k_is) -/
namespace L2
open PySem PySem.Spec PyProof.Rows
def defArgs (s : Stmt) : Arguments := match s with
  | .FunctionDef _ a _ _ _ _ _ _ _ _ => a
  | _ => { posonlyargs := [], args := [], vararg := none, kwonlyargs := [], kw_defaults := [], kwarg := none, defaults := [] }
def defBody (s : Stmt) : List Stmt := match s with
  | .FunctionDef _ _ b _ _ _ _ _ _ _ => b
  | _ => []
def defScope (s : Stmt) : Scope := match s with
  | .FunctionDef _ _ _ _ _ _ sc _ _ _ => sc
  | _ => { kind := .function, names := [], isGenerator := false, isCoroutine := false }
abbrev CX0 : CXT := fun _ _ _ _ _ _ => False
abbrev E0 : XK := fun _ _ _ => False
theorem pass0 {X : Cx} : Passes CX0 X E0 := fun _ _ _ _ _ _ _ h => h.elim
structure Fun (K : PySem.W.Frag) (x qual : Str) (st : Stmt) (f : Addr) (fd : FuncData) : Prop where
  ex : ∃ (oc : Value) (od : Option Addr) (kV doc pm : Value) (an : Option Addr) (cdv ct : Value) (osl : Array (Option Value)),
    fd = PySem.W.fnOf x qual (defArgs st) (defBody st) (defScope st) .none kV doc pm an cdv ct ∧ K.lookup f = some ⟨oc, od, .func fd, osl⟩ ∧ PySem.W.codeIn K cdv qual = true
  kp : PySem.W.keepIn K (.ref f) = true
section
variable {P : Program} {w : World} {K : PySem.W.Frag} {mg : Str → Option Value} {base : Heap}
theorem Fun.ok {x qual : Str} {st : Stmt} {f : Addr} {fd : FuncData} {N ps : List Str} {k : Nat} {sp : Sp} (F : Fun K x qual st f fd) (S : FnScope N ps (defScope st)) (len : ∀ vs H Q E, sp vs H Q E → vs.length = ps.length)
    (hbody : ∀ (cdv : Value) (A : Around) (outer : List Env) (s : Shared) (H : Hp) (vs : List V) (Q : VK) (E : XK), Room k (A.deeper (envOfC qual (defScope st) s.heap.objs.size f cdv)) → sp vs H Q E →
      ∃ t, PSs (cxOf CX0 P w K mg base N qual (defScope st) f cdv A outer s H E).nox (defBody st) t ∧ t { nx := fun _ H' => Q .non H', rt := Q } (start N vs) H) : FnOk P w K mg base CX0 (k + 1) f fd ps sp := by
  obtain ⟨oc, od, kV, doc, pm, an, cdv, ct, osl, rfl, lk, hcd⟩ := F.ex
  refine fn_of lk hcd S len fun A outer s H vs Q E hr hsp => ?_
  obtain ⟨t, h, q⟩ := hbody cdv A outer s H vs Q E hr hsp
  exact ⟨t, h.nox, q⟩
theorem Fun.binds {x qual : Str} {st : Stmt} {f : Addr} {fd : FuncData} {ps : List Str} (F : Fun K x qual st f fd)
    (h : ∀ (kV doc pm : Value) (an : Option Addr) (cdv ct : Value) (us : List Value), us.length = ps.length → bindArgs (PySem.W.fnOf x qual (defArgs st) (defBody st) (defScope st) .none kV doc pm an cdv ct) ⟨us, []⟩ = pure (ps.zip us)) : Binds K fd ps [] := by
  obtain ⟨oc, od, kV, doc, pm, an, cdv, ct, osl, rfl, lk, hcd⟩ := F.ex
  exact .all (h kV doc pm an cdv ct)
theorem fun_mk {x qual : Str} {st : Stmt} {f : Addr} {oc : Value} {od an : Option Addr} {osl : Array (Option Value)} {kV doc pm cdv ct : Value} (l : K.lookup f = some ⟨oc, od, .func (PySem.W.fnOf x qual (defArgs st) (defBody st) (defScope st) .none kV doc pm an cdv ct), osl⟩)
    (c : PySem.W.codeIn K cdv qual = true) (k : PySem.W.keepIn K (.ref f) = true) : Fun K x qual st f (PySem.W.fnOf x qual (defArgs st) (defBody st) (defScope st) .none kV doc pm an cdv ct) := ⟨⟨oc, od, kV, doc, pm, an, cdv, ct, osl, rfl, l, c⟩, k⟩
end
theorem hu_of {A : Around} {k : Nat} (hr : Room k A) : A.units + 1 < cLine := Nat.lt_of_le_of_lt (Nat.add_le_add_left (by decide : 1 ≤ 64) _) hr.units
section
variable {X : Cx}
theorem pv (i : Nat) {x : Str} {pos : Pos} (hN : X.N[i]? = some x := by rfl) (hv : Vis X.env.scope x := by first | exact Or.inl rfl | exact Or.inr (Or.inl rfl) | exact Or.inr (Or.inr rfl)) (hd : (x == ("__debug__" : Str)) = false := by decide)
    (hcd : (x == ("__classdict__" : Str)) = false := by decide) : PE X (.Name x pos) (tVar i) := pe_var hN hv hd hcd
end
theorem iteF {A B : Prop} (h : B) : if false = true then A else B := by
  rw [if_neg Bool.false_ne_true]
  exact h
theorem iteT {A B : Prop} (h : A) : if true = true then A else B := by
  rw [if_pos rfl]
  exact h
theorem ite2 {c A B : Prop} [Decidable c] (h1 : c → A) (h2 : ¬ c → B) : if c then A else B := by
  by_cases h : c
  · rw [if_pos h]
    exact h1 h
  · rw [if_neg h]
    exact h2 h
def Same (H H' : Hp) : Prop := ∀ b o, H b = some o → H' b = some o
theorem Same.refl (H : Hp) : Same H H := fun _ _ h => h
theorem Same.trans {H H1 H2 : Hp} (a : Same H H1) (b : Same H1 H2) : Same H H2 := fun c o h => b c o (a c o h)
theorem Same.free {H H' : Hp} (e : Same H H') {l : Addr} (h : H' l = Option.none) : H l = Option.none := by
  cases q : H l with
  | none => rfl
  | some o =>
    rw [e l o q] at h
    cases h
theorem Same.seq {K : PySem.W.Frag} {H H' : Hp} {a : Addr} {xs : List V} (e : Same H H') (h : SqL K H a xs) : SqL K H' a xs := by
  rcases h with (h | ⟨o, h⟩) | h
  · exact .inl (.inl (e _ _ h))
  · exact .inl (.inr ⟨o, e _ _ h⟩)
  · exact .inr h
end L2
set_option maxHeartbeats 0
namespace L2
open PySem PySem.Spec PyProof.Rows
section
variable {κ : Type} [DecidableEq κ]
def valV (kvs : List (κ × V)) (k : κ) : Option V := (kvs.find? fun kv => decide (kv.1 = k)).map (·.2)
def putK (kvs : List (κ × V)) (k : κ) (v : V) : List (κ × V) :=
  if (kvs.any fun kv => decide (kv.1 = k)) = true then kvs.map (fun kv => if kv.1 = k then (kv.1, v) else kv) else kvs ++ [(k, v)]
def dropK (kvs : List (κ × V)) (k : κ) : List (κ × V) := kvs.filter fun kv => decide (kv.1 ≠ k)
theorem valV_pos {p : κ × V} {r : List (κ × V)} {k : κ} (e : p.1 = k) : valV (p :: r) k = some p.2 := by simp [valV, List.find?_cons, e]
theorem valV_neg {p : κ × V} {r : List (κ × V)} {k : κ} (e : ¬ p.1 = k) : valV (p :: r) k = valV r k := by simp [valV, List.find?_cons, e]
theorem valV_any (k : κ) : ∀ kvs : List (κ × V), (kvs.any fun kv => decide (kv.1 = k)) = (valV kvs k).isSome
  | [] => rfl
  | p :: r => by
    rw [List.any_cons]
    by_cases e : p.1 = k
    · simp only [valV_pos e, decide_eq_true e, Bool.true_or, Option.isSome_some]
    · rw [valV_neg e, decide_eq_false e, Bool.false_or]; exact valV_any k r
theorem length_putK (kvs : List (κ × V)) (k : κ) (v : V) : (putK kvs k v).length ≤ kvs.length + 1 := by
  unfold putK
  split
  · rw [List.length_map]; omega
  · rw [List.length_append, List.length_cons, List.length_nil]; omega
theorem putK_new {kvs : List (κ × V)} {k : κ} (v : V) (h : valV kvs k = none) : putK kvs k v = kvs ++ [(k, v)] := by
  unfold putK
  rw [valV_any, h]
  exact if_neg (by decide)
theorem RelO.isSome_eq {o : Option V} {u : Option Value} (r : RelO o u) : o.isSome = u.isSome := by
  cases o with
  | none => cases u with
    | none => rfl
    | some _ => exact (show False from r).elim
  | some _ => cases u with
    | none => exact (show False from r).elim
    | some _ => rfl
theorem RelO.getD {o : Option V} {u : Option Value} {d : V} {d' : Value} (r : RelO o u) (rd : RelV d d') : RelV (o.getD d) (u.getD d') := by
  cases o with
  | none => cases u with
    | none => exact rd
    | some _ => exact (show False from r).elim
  | some _ => cases u with
    | none => exact (show False from r).elim
    | some _ => exact r
theorem KV.val {kvs : List (κ × V)} {vs : List (κ × Value)} (r : KV kvs vs) (k : κ) : RelO (valV kvs k) (valueAt vs k) := by
  unfold KV at r
  induction r with
  | nil => exact True.intro
  | @cons p q ps qs h t ih =>
    obtain ⟨h1, h2⟩ := h
    by_cases e : p.1 = k
    · have e' : q.1 = k := h1.symm.trans e
      have b : valueAt (q :: qs) k = some q.2 := by simp [valueAt, List.find?_cons, e']
      rw [valV_pos e, b]; exact h2
    · have e' : ¬ q.1 = k := fun z => e (h1.trans z)
      have b : valueAt (q :: qs) k = valueAt qs k := by simp [valueAt, List.find?_cons, e']
      rw [valV_neg e, b]; exact ih
theorem KV.any {kvs : List (κ × V)} {vs : List (κ × Value)} (r : KV kvs vs) (k : κ) : (kvs.any fun kv => decide (kv.1 = k)) = vs.any fun kv => decide (kv.1 = k) := by
  unfold KV at r
  induction r with
  | nil => rfl
  | cons h t ih => rw [List.any_cons, List.any_cons, ih, h.1]
theorem KV.repl {kvs : List (κ × V)} {vs : List (κ × Value)} (r : KV kvs vs) (k : κ) {y : V} {u : Value} (ry : RelV y u) :
    KV (kvs.map fun kv => if kv.1 = k then (kv.1, y) else kv) (vs.map fun kv => if kv.1 = k then (kv.1, u) else kv) := by
  unfold KV at r ⊢
  induction r with
  | nil => exact .nil
  | @cons p q ps qs h t ih =>
    rw [List.map_cons, List.map_cons]
    refine .cons ?_ ih
    obtain ⟨h1, h2⟩ := h
    by_cases e : p.1 = k
    · rw [if_pos e, if_pos (h1.symm.trans e)]; exact ⟨h1, ry⟩
    · rw [if_neg e, if_neg (fun z => e (h1.trans z))]; exact ⟨h1, h2⟩
theorem KV.put {kvs : List (κ × V)} {vs : List (κ × Value)} (r : KV kvs vs) (k : κ) {y : V} {u : Value} (ry : RelV y u) : KV (putK kvs k y) (stored vs k u) := by
  unfold putK stored
  rw [r.any k]
  by_cases e : (vs.any fun kv => decide (kv.1 = k)) = true
  · rw [if_pos e, if_pos e]; exact r.repl k ry
  · rw [if_neg e, if_neg e]; exact Paired.snoc r ⟨rfl, ry⟩
theorem KV.drop {kvs : List (κ × V)} {vs : List (κ × Value)} (r : KV kvs vs) (k : κ) : KV (dropK kvs k) (without vs k) := by
  unfold KV at r ⊢
  unfold dropK without
  induction r with
  | nil => exact .nil
  | @cons p q ps qs h t ih =>
    obtain ⟨h1, h2⟩ := h
    rw [List.filter_cons, List.filter_cons]
    by_cases e : p.1 = k
    · have a : ¬ decide (p.1 ≠ k) = true := by simp [e]
      have b : ¬ decide (q.1 ≠ k) = true := by simp [h1.symm.trans e]
      rw [if_neg a, if_neg b]; exact ih
    · have e' : ¬ q.1 = k := fun z => e (h1.trans z)
      have a : decide (p.1 ≠ k) = true := by simp [e]
      have b : decide (q.1 ≠ k) = true := by simp [e']
      rw [if_pos a, if_pos b]; exact .cons ⟨h1, h2⟩ ih
theorem KV.keys {kvs : List (κ × V)} {vs : List (κ × Value)} (r : KV kvs vs) : kvs.map (·.1) = vs.map (·.1) := by
  unfold KV at r
  induction r with
  | nil => rfl
  | cons h t ih => rw [List.map_cons, List.map_cons, ih, h.1]
theorem KV.length {kvs : List (κ × V)} {vs : List (κ × Value)} (r : KV kvs vs) : kvs.length = vs.length := Paired.length r
end
theorem kV_is {P : Program} {w : World} {k : Key} {u : Value} (r : RelV (kV k) u) : (mixKind P w).is k u = true := by
  cases k with
  | inl i => obtain ⟨t, e⟩ := (show ∃ t, u = Value.int i t from r); subst e; exact mixKind_int P w i t
  | inr x => obtain ⟨t, e⟩ := (show ∃ t, u = Value.str x t from r); subst e; exact mixKind_str P w x t
theorem items_are {P : Program} {w : World} : ∀ {ks : List Key} {us : List Value}, Vals (ks.map kV) us → ItemsAre (mixKind P w) ks us
  | [], _, r => by rw [List.map_nil] at r; cases r; exact .nil
  | k :: ks, _, r => by
    rw [List.map_cons] at r
    cases r with
    | cons h t => exact .cons (kV_is h) (items_are t)
abbrev KT (H : Hp) : List (List Key × V) → List (List Key × Addr × Value) → Prop := Paired fun p q => p.1 = q.1 ∧ H q.2.1 = some (.tup (p.1.map kV)) ∧ RelV p.2 q.2.2
theorem KT.val {H : Hp} {kvs : List (List Key × V)} {xs : List (List Key × Addr × Value)} (r : KT H kvs xs) (k : List Key) : RelO (valV kvs k) ((atKey xs k).map (·.2)) := by
  induction r with
  | nil => exact True.intro
  | @cons p q ps qs h t ih =>
    obtain ⟨h1, _, h2⟩ := h
    by_cases e : p.1 = k
    · have e' : q.1 = k := h1.symm.trans e
      have b : atKey (q :: qs) k = some q.2 := by simp [atKey, List.find?_cons, e']
      rw [valV_pos e, b]; exact h2
    · have e' : ¬ q.1 = k := fun z => e (h1.trans z)
      have b : atKey (q :: qs) k = atKey qs k := by simp [atKey, List.find?_cons, e']
      rw [valV_neg e, b]; exact ih
theorem KT.repl {H : Hp} {kvs : List (List Key × V)} {xs : List (List Key × Addr × Value)} (r : KT H kvs xs) (k : List Key) {y : V} {u : Value} (ry : RelV y u) :
    KT H (kvs.map fun kv => if kv.1 = k then (kv.1, y) else kv) (xs.map (putAt k u)) := by
  induction r with
  | nil => exact .nil
  | @cons p q ps qs h t ih =>
    rw [List.map_cons, List.map_cons]
    refine .cons ?_ ih
    obtain ⟨h1, h2, h3⟩ := h
    unfold putAt
    by_cases e : p.1 = k
    · rw [if_pos e, if_pos (h1.symm.trans e)]; exact ⟨h1, h2, ry⟩
    · rw [if_neg e, if_neg (fun z => e (h1.trans z))]; exact ⟨h1, h2, h3⟩
theorem KT.put {H : Hp} {kvs : List (List Key × V)} {xs : List (List Key × Addr × Value)} (r : KT H kvs xs) (k : List Key) {b : Addr} {y : V} {u : Value} (hb : H b = some (.tup (k.map kV))) (ry : RelV y u) :
    KT H (putK kvs k y) (storedH xs k b u) := by
  have e : (kvs.any fun kv => decide (kv.1 = k)) = (atKey xs k).isSome := by
    rw [valV_any, (r.val k).isSome_eq, Option.isSome_map]
  unfold putK storedH
  rw [e]
  by_cases q : (atKey xs k).isSome = true
  · rw [if_pos q, if_pos q]; exact r.repl k ry
  · rw [if_neg q, if_neg q]; exact Paired.snoc r ⟨rfl, hb, ry⟩
theorem KT.keeps {H H' : Hp} {kvs : List (List Key × V)} {xs : List (List Key × Addr × Value)} (r : KT H kvs xs) (ht : ∀ b ys, H b = some (.tup ys) → H' b = some (.tup ys)) : KT H' kvs xs :=
  Paired.mapP r fun _ _ z => ⟨z.1, ht _ _ z.2.1, z.2.2⟩
section
variable {P : Program} {w : World} {H : Hp} {h : Heap} {a : Addr}
theorem rd_of {u : HO} (ok : HOk P w H h) (e : Rd H a u) : ObjOk P w H h a u := e.ok ok
theorem dk_rd {kvs : List (Key × V)} (ok : HOk P w H h) (e : Rd H a (.dK kvs)) : kvs.length ≤ sizeLine ∧ (a == sysModules) = false ∧ ∃ vs, KV kvs vs ∧ h.DictOf (mixKind P w) a vs :=
  show ObjOk P w H h a (.dK kvs) from rd_of ok e
theorem dk_of {kvs : List (Key × V)} (ok : HOk P w H h) (e : H a = some (.dK kvs)) : kvs.length ≤ sizeLine ∧ (a == sysModules) = false ∧ ∃ vs, KV kvs vs ∧ h.DictOf (mixKind P w) a vs := dk_rd ok (.inl e)
theorem key_of {ks : List Key} (ok : HOk P w H h) (e : H a = some (.tup (ks.map kV))) : (tupleKind (mixKind P w)).is h ks a := by
  obtain ⟨_, its, r, o, h1, h2, n, h3⟩ := (show ObjOk P w H h a (.tup (ks.map kV)) from ok a _ e)
  exact ⟨o, its.toArray, n, h1, h2, h3, by simpa using items_are r⟩
theorem dt_rd {kvs : List (List Key × V)} (ok : HOk P w H h) (e : Rd H a (.dT kvs)) : kvs.length ≤ sizeLine ∧ (a == sysModules) = false ∧
    ∃ xs, KT H kvs xs ∧ h.DictOfH (tupleKind (mixKind P w)) a xs := by
  obtain ⟨z, y, xs, r, o, es, ep, h1, h2, h3, h4, h5⟩ := (show ObjOk P w H h a (.dT kvs) from rd_of ok e)
  refine ⟨z, y, xs, r, o, es, ep, h1, h2, h3, h4, fun x hx => ?_, h5⟩
  have all : ∀ {l : List (List Key × V)} {m : List (List Key × Addr × Value)}, KT H l m → ∀ x ∈ m, (tupleKind (mixKind P w)).is h x.1 x.2.1 := by
    intro l m q
    induction q with
    | nil => intro x hx; exact nomatch hx
    | @cons p q ps qs hq t ih =>
      intro x hx
      rcases List.mem_cons.mp hx with e | hx
      · subst e
        exact key_of ok (by rw [← hq.1]; exact hq.2.1)
      · exact ih x hx
  exact all r x hx
theorem dt_of {kvs : List (List Key × V)} (ok : HOk P w H h) (e : H a = some (.dT kvs)) : kvs.length ≤ sizeLine ∧ (a == sysModules) = false ∧
    ∃ xs, KT H kvs xs ∧ h.DictOfH (tupleKind (mixKind P w)) a xs := dt_rd ok (.inl e)
end
def DGet (H : Hp) (a : Addr) (y : V) (r : Option V) : Prop :=
  (∃ kvs k, Rd H a (.dK kvs) ∧ y = kV k ∧ r = valV kvs k) ∨ ∃ kvs k b, Rd H a (.dT kvs) ∧ y = .ref b ∧ H b = some (.tup (k.map kV)) ∧ r = valV kvs k
def DPut (H : Hp) (a : Addr) (y v : V) (H' : Hp) : Prop :=
  (∃ kvs k, H a = some (.dK kvs) ∧ y = kV k ∧ kvs.length < sizeLine ∧ H' = upd H a (.dK (putK kvs k v))) ∨
  ∃ kvs k b, H a = some (.dT kvs) ∧ y = .ref b ∧ H b = some (.tup (k.map kV)) ∧ kvs.length < sizeLine ∧ H' = upd H a (.dT (putK kvs k v))
theorem DGet.k {H : Hp} {a : Addr} {kvs : List (Key × V)} {k : Key} (e : H a = some (.dK kvs)) : DGet H a (kV k) (valV kvs k) := .inl ⟨kvs, k, .inl e, rfl, rfl⟩
theorem DGet.t {H : Hp} {a b : Addr} {kvs : List (List Key × V)} {k : List Key} (e : H a = some (.dT kvs)) (eb : H b = some (.tup (k.map kV))) : DGet H a (.ref b) (valV kvs k) := .inr ⟨kvs, k, b, .inl e, rfl, eb, rfl⟩
theorem DPut.k {H : Hp} {a : Addr} {kvs : List (Key × V)} {k : Key} {v : V} (e : H a = some (.dK kvs)) (hl : kvs.length < sizeLine) : DPut H a (kV k) v (upd H a (.dK (putK kvs k v))) := .inl ⟨kvs, k, e, rfl, hl, rfl⟩
theorem DPut.t {H : Hp} {a b : Addr} {kvs : List (List Key × V)} {k : List Key} {v : V} (e : H a = some (.dT kvs)) (eb : H b = some (.tup (k.map kV))) (hl : kvs.length < sizeLine) :
    DPut H a (.ref b) v (upd H a (.dT (putK kvs k v))) := .inr ⟨kvs, k, b, e, rfl, eb, hl, rfl⟩
section
variable {X : Cx} {pins : List (Addr × Obj)} {σ : St} {H : Hp} {s : Shared} {a : Addr} {y v : V} {u r : Value} {o : Option V} {A : Around} {E : Value → Shared → Prop}
theorem Inv.big (I : Inv X pins σ H s) : sysModules < s.heap.objs.size := by
  have h : mainGlobals < s.heap.objs.size := (I.mod.glob.keeps I.bk).lt
  exact Nat.lt_trans (by decide) h
theorem d_getItem {Q : Value → Shared → Prop} (hu : A.units + 1 < cLine) (I : Inv X pins σ H s) (g : DGet H a y (some v)) (ry : RelV y u) (h : ∀ w' s', Inv X pins σ H s' → RelV v w' → Q w' s') :
    wpAny (model X.prog X.w) A (getItem (.ref a) u) Q E s := by
  rcases g with ⟨kvs, k, e, ey, l⟩ | ⟨kvs, k, b, e, ey, eb, l⟩
  · subst ey
    obtain ⟨z, hd, vs, rel, dd⟩ := dk_rd I.hok e
    obtain ⟨w', hw, rw'⟩ := RelO.some_of (v := v) (o := valueAt vs k) (by rw [l]; exact rel.val k)
    exact wpAny_getItem_of (kV_is ry) dd.mapOf hw (h w' _ (I.tok _) rw')
  · subst ey
    cases (show u = Value.ref b from ry)
    obtain ⟨z, hd, xs, rel, dd⟩ := dt_rd I.hok e
    obtain ⟨w', hw, rw'⟩ := RelO.some_of (v := v) (o := (atKey xs k).map (·.2)) (by rw [l]; exact rel.val k)
    obtain ⟨p, hp, hp2⟩ := Option.map_eq_some_iff.mp hw
    refine wpAny_getItem_heap (tupleKind_room_in1 hu) (key_of I.hok eb) dd hp ?_
    rw [hp2]
    exact h w' _ (I.tok _) rw'
theorem d_in {Q : Value → Shared → Prop} (hu : A.units + 1 < cLine) (I : Inv X pins σ H s) (g : DGet H a y o) (ry : RelV y u) (h : ∀ s', Inv X pins σ H s' → Q (.bool o.isSome) s') :
    wpAny (model X.prog X.w) A (compareOp .In u (.ref a)) Q E s := by
  rcases g with ⟨kvs, k, e, ey, l⟩ | ⟨kvs, k, b, e, ey, eb, l⟩
  · subst ey
    obtain ⟨z, hd, vs, rel, dd⟩ := dk_rd I.hok e
    refine wpAny_in_of (kV_is ry) hd dd.mapOf ?_
    rw [← (rel.val k).isSome_eq, ← l]
    exact h _ (I.tok _)
  · subst ey
    cases (show u = Value.ref b from ry)
    obtain ⟨z, hd, xs, rel, dd⟩ := dt_rd I.hok e
    refine wpAny_in_heap (tupleKind_room_in1 hu) (key_of I.hok eb) hd dd ?_
    have q := (rel.val k).isSome_eq
    rw [Option.isSome_map] at q
    rw [← q, ← l]
    exact h _ (I.tok _)
theorem d_notIn {Q : Value → Shared → Prop} (hu : A.units + 1 < cLine) (I : Inv X pins σ H s) (g : DGet H a y o) (ry : RelV y u) (h : ∀ s', Inv X pins σ H s' → Q (.bool (!o.isSome)) s') :
    wpAny (model X.prog X.w) A (compareOp .NotIn u (.ref a)) Q E s := by
  rcases g with ⟨kvs, k, e, ey, l⟩ | ⟨kvs, k, b, e, ey, eb, l⟩
  · subst ey
    obtain ⟨z, hd, vs, rel, dd⟩ := dk_rd I.hok e
    refine wpAny_notIn_of (kV_is ry) hd dd.mapOf ?_
    rw [← (rel.val k).isSome_eq, ← l]
    exact h _ (I.tok _)
  · subst ey
    cases (show u = Value.ref b from ry)
    obtain ⟨z, hd, xs, rel, dd⟩ := dt_rd I.hok e
    refine wpAny_notIn_heap (tupleKind_room_in1 hu) (key_of I.hok eb) hd dd ?_
    have q := (rel.val k).isSome_eq
    rw [Option.isSome_map] at q
    rw [← q, ← l]
    exact h _ (I.tok _)
theorem d_write {h' : Heap} {t' : Nat} {ob : HO} (I : Inv X pins σ H s) (mu : Mut (H a)) (hs : Heap.SameBut a s.heap h') (he : ∃ q, h'.get? a = some q) (new : ObjOk X.prog X.w (upd H a ob) h' a ob) :
    Inv X pins σ (upd H a ob) { s with heap := h', toks := t' } :=
  I.write (x := a) (e := a) mu (.inl rfl) (fun b q hb z => (hs.2 b hb).trans z) he new
theorem dk_new {P : Program} {w : World} {H' : Hp} {h' : Heap} {kvs : List (Key × V)} {vs : List (Key × Value)} (z : kvs.length ≤ sizeLine) (hd : (a == sysModules) = false) (rel : KV kvs vs) (dd : h'.DictOf (mixKind P w) a vs) :
    ObjOk P w H' h' a (.dK kvs) := ⟨z, hd, vs, rel, dd⟩
theorem d_setItem {H' : Hp} {Q : Unit → Shared → Prop} (hu : A.units + 1 < cLine) (I : Inv X pins σ H s) (g : DPut H a y v H') (ry : RelV y u) (rv : RelV v r) (h : ∀ s', Inv X pins σ H' s' → Q () s') :
    wpAny (model X.prog X.w) A (setItem (.ref a) u r) Q E s := by
  rcases g with ⟨kvs, k, e, ey, l, eH⟩ | ⟨kvs, k, b, e, ey, eb, l, eH⟩
  · subst ey eH
    obtain ⟨z, hd, vs, rel, dd⟩ := dk_of I.hok e
    have hz : vs.length ≤ sizeLine := by rw [← rel.length]; exact z
    have hl : (putK kvs k v).length ≤ sizeLine := by have := length_putK kvs k v; omega
    refine wpAny_setItem_pairs (hsz := hz) (kV_is ry) dd fun h' dd' hs => h _ ?_
    have he : ∃ q, h'.get? a = some q := let ⟨q, _, _, hq, _⟩ := dd'; ⟨q, hq⟩
    exact d_write I (by rw [e]; exact True.intro) hs he (dk_new hl hd (rel.put k rv) dd')
  · subst ey eH
    cases (show u = Value.ref b from ry)
    obtain ⟨z, hd, xs, rel, dd⟩ := dt_of I.hok e
    have hz : xs.length ≤ sizeLine := by rw [← Paired.length rel]; exact z
    have hl : (putK kvs k v).length ≤ sizeLine := by have := length_putK kvs k v; omega
    refine wpAny_setItem_heap (hsz := hz) (tupleKind_room_in1 hu) (key_of I.hok eb) dd fun h' dd' hs => h _ ?_
    obtain ⟨q, es, ep, hq, h2, h3, h4, _, h5⟩ := dd'
    refine d_write I (by rw [e]; exact True.intro) hs ⟨q, hq⟩ ⟨hl, hd, _, (rel.put k eb rv).keeps fun c ys ec => ?_, q, es, ep, hq, h2, h3, h4, h5⟩
    rw [upd_ne (ne_of ec e (fun z => nomatch z))]
    exact ec
end
section
variable {X : Cx} {pins : List (Addr × Obj)} {σ : St} {H : Hp} {s : Shared} {a : Addr} {kvs : List (Key × V)} {k : Key} {u : Value} {A : Around} {E : Value → Shared → Prop}
end
def NoSl (i : Expr) : Prop := ∀ ov iv, subscripted i false ov iv = operate [ov, iv] (getItem ov iv)
theorem subD_of {prog : Program} {w : World} {A : Around} {E : Value → Shared → Prop} {s : Shared} {env : Env} {value slice : Expr} {pos : Pos} {T id : String} {Q : Value → Shared → Prop}
    (hl : typeLookup (.type T) "__getitem__" = pure (some (.builtin id))) (hs : NoSl slice)
    (h : wpAny (model prog w) A (eval value env) (fun o s₁ => wpAny (model prog w) A (eval slice env) (fun i s₂ => s₂.TypeIs o T ∧ wpAny (model prog w) A (getItem o i) Q E s₂) E s₁) E s) :
    wpAny (model prog w) A (eval (.Subscript value slice pos) env) Q E s := by
  refine Subscript_ (wpAny_mono h (fun o s₁ h₁ => wpAny_mono h₁ (fun i s₂ h₂ => ?_) fun _ _ x => x) fun _ _ x => x)
  obtain ⟨hT, h₂⟩ := h₂
  unfold subscriptTail
  refine wpAny_bind ?_
  rw [getitemInPython_of_ne hT.not_modules]
  refine wpAny_bind (wpAny_specialOf hT hl ?_)
  have fin : wpAny (model prog w) A (subscripted slice false o i) (fun r s₃ => wpAny (model prog w) A (letTemporaryGo value o r >>= fun _ => pure r) Q E s₃) E s₂ := by
    rw [hs o i]
    exact wpAny_operating (wpAny_mono h₂ (fun r s₃ h₃ => wpAny_bind (wpAny_letTemporaryGo (wpAny_pure h₃))) fun _ _ x => x)
  first
    | exact wpAny_pure (wpAny_bind fin)
    | exact wpAny_bind (wpAny_pure (wpAny_bind fin))
    | exact wpAny_bind fin
theorem dict_typeIs {X : Cx} {pins : List (Addr × Obj)} {σ : St} {H : Hp} {s : Shared} {a : Addr} {y : V} {o : Option V} (I : Inv X pins σ H s) (g : DGet H a y o) : s.TypeIs (.ref a) "dict" := by
  rcases g with ⟨kvs, k, e, _, _⟩ | ⟨kvs, k, b, e, _, _, _⟩
  · obtain ⟨_, _, vs, _, dd⟩ := dk_rd I.hok e
    exact dd.typeIs
  · obtain ⟨_, _, xs, _, dd⟩ := dt_rd I.hok e
    exact dd.typeIs
inductive XDg (x : V) (S : Addr → V → Prop) (R : V → Prop) : Prop
  | mk (a : Addr) (v : V) (e : x = .ref a) (s : S a v) (q : R v) : XDg x S R
inductive XDi (x : V) (S : Addr → Option V → Prop) (R : Option V → Prop) : Prop
  | mk (a : Addr) (o : Option V) (e : x = .ref a) (s : S a o) (q : R o) : XDi x S R
def tDGet (td ty : TE) : TE := fun σ H Q => td σ H fun x H1 => ty σ H1 fun y H2 => XDg x (fun a v => DGet H2 a y (some v)) fun v => Q v H2
def tDIn (ty td : TE) : TE := fun σ H Q => ty σ H fun y H1 => td σ H1 fun x H2 => XDi x (fun a o => DGet H2 a y o) fun o => Q (.bl o.isSome) H2
def tDNotIn (ty td : TE) : TE := fun σ H Q => ty σ H fun y H1 => td σ H1 fun x H2 => XDi x (fun a o => DGet H2 a y o) fun o => Q (.bl (!o.isSome)) H2
def sDPut (td ty tv : TE) : TS := fun D σ H => tv σ H fun v H1 => td σ H1 fun x H2 => ty σ H2 fun y H3 => ∃ a H4, x = .ref a ∧ DPut H3 a y v H4 ∧ D.nx σ H4
section
variable {X : Cx} {o i e value : Expr} {pos pos' tpos : Pos} {td ty tv : TE}
theorem pe_dget (hu : X.A.units + 1 < cLine) (ho : PE X o td) (hi : PE X i ty) (hs : NoSl i) : PE X (.Subscript o i pos) (tDGet td ty) := by
  intro pins s σ H Q I h
  refine subD_of PySem.F.slot_dict_getitem.lookup hs (thn (ho pins s σ H _ I h) fun u s1 ⟨x, H1, I1, rx, q1⟩ => thn (hi pins s1 σ H1 _ I1 q1) fun iv s2 ⟨y, H2, I2, ry, a, v, ex, g, q2⟩ => ?_)
  subst ex
  obtain rfl : u = Value.ref a := rx
  exact ⟨dict_typeIs I2 g, d_getItem hu I2 g ry fun w' s3 I3 rw' => ⟨v, H2, I3, rw', q2⟩⟩
theorem pc_din (hu : X.A.units + 1 < cLine) (hi : PE X i ty) (ho : PE X o td) : PC X .In i o (tDIn ty td) := by
  intro pins s σ H Q I h
  refine thn (hi pins s σ H _ I h) fun iv s1 ⟨y, H1, I1, ry, q1⟩ => thn (ho pins s1 σ H1 _ I1 q1) fun u s2 ⟨x, H2, I2, rx, a, ov, ex, g, q2⟩ => ?_
  subst ex
  obtain rfl : u = Value.ref a := rx
  exact d_in hu I2 g ry fun s3 I3 => ⟨.bl ov.isSome, H2, I3, rfl, q2⟩
theorem pc_dnotin (hu : X.A.units + 1 < cLine) (hi : PE X i ty) (ho : PE X o td) : PC X .NotIn i o (tDNotIn ty td) := by
  intro pins s σ H Q I h
  refine thn (hi pins s σ H _ I h) fun iv s1 ⟨y, H1, I1, ry, q1⟩ => thn (ho pins s1 σ H1 _ I1 q1) fun u s2 ⟨x, H2, I2, rx, a, ov, ex, g, q2⟩ => ?_
  subst ex
  obtain rfl : u = Value.ref a := rx
  exact d_notIn hu I2 g ry fun s3 I3 => ⟨.bl (!ov.isSome), H2, I3, rfl, q2⟩
theorem ps_dput (hu : X.A.units + 1 < cLine) (ho : PE X o td) (hi : PE X i ty) (hv : PE X value tv) (hs : swapsWith value (some (.Subscript o i pos')) pos.line X.env = pure false) :
    PS X (.Assign [.Subscript o i pos'] value pos) (sDPut td ty tv) := by
  intro pins s σ H D I h
  refine wpAny_Assign_Subscript (thn (hv pins s σ H _ I h) fun r s1 ⟨v, H1, I1, rv, q1⟩ => thn (ho pins s1 σ H1 _ I1 q1) fun u s2 ⟨x, H2, I2, rx, q2⟩ => thn (hi pins s2 σ H2 _ I2 q2) fun iv s3 ⟨y, H3, I3, ry, a, H4, ex, g, q3⟩ => ?_) hs
  subst ex
  obtain rfl : u = Value.ref a := rx
  exact d_setItem hu I3 g ry rv fun s4 I4 => ⟨σ, H4, I4, q3⟩
end
theorem dk_empty {P : Program} {w : World} {H : Hp} (h : Heap) (hb : sysModules < h.objs.size) : ObjOk P w H (h.push { cls := .type "dict", data := .dict #[] }) h.objs.size (.dK []) :=
  ⟨Nat.zero_le _, beq_eq_false_iff_ne.mpr (Ne.symm (Nat.ne_of_lt hb)), [], .nil, Heap.DictOf.new h⟩
theorem dt_empty {P : Program} {w : World} {H : Hp} (h : Heap) (hb : sysModules < h.objs.size) : ObjOk P w H (h.push { cls := .type "dict", data := .dict #[] }) h.objs.size (.dT []) :=
  ⟨Nat.zero_le _, beq_eq_false_iff_ne.mpr (Ne.symm (Nat.ne_of_lt hb)), [], .nil, _, #[], 0, Heap.get?_push_size _ rfl, ⟨rfl, rfl, rfl⟩, rfl, rfl, List.nodup_nil⟩
def tDNewK : TE := fun _ H Q => ∀ p, H p = none → Q (.ref p) (upd H p (.dK []))
def tDNewT : TE := fun _ H Q => ∀ p, H p = none → Q (.ref p) (upd H p (.dT []))
section
variable {X : Cx} {pos : Pos}
theorem pe_dnewK : PE X (.Dict [] [] pos) tDNewK := fun pins s σ H Q I h =>
  wpAny_Dict_empty ⟨.ref s.heap.objs.size, _, I.laid (a := s.heap.objs.size) (o := .dK []) (t' := s.toks) (fun _ _ q => Heap.get?_push_of_some _ q) (Nat.le_refl _) (dk_empty s.heap I.big), rfl, h _ (I.hok.fresh (Nat.le_refl _))⟩
theorem pe_dnewT : PE X (.Dict [] [] pos) tDNewT := fun pins s σ H Q I h =>
  wpAny_Dict_empty ⟨.ref s.heap.objs.size, _, I.laid (a := s.heap.objs.size) (o := .dT []) (t' := s.toks) (fun _ _ q => Heap.get?_push_of_some _ q) (Nat.le_refl _) (dt_empty s.heap I.big), rfl, h _ (I.hok.fresh (Nat.le_refl _))⟩
end
structure M1 (X : Cx) (o : Expr) (m : Str) (apos : Pos) (e : Expr) (cpos : Pos) : Prop where
  base : attributeBase o m X.env (eval o X.env) = eval o X.env
  few : ((backTo cpos (starEach [e] X.env)).all (fun x => !x.1) && (backToKw cpos (keywordEach [] X.env)).all (fun x => x.1.isSome)
    && decide (([e] : List Expr).length + ([] : List Keyword).length + (if ([] : List Keyword).isEmpty then 0 else 1) < 30)) = true
  line : (apos.endLine == cpos.line) = true
  trees : backTo cpos (starEach [e] X.env) = [(false, eval e X.env)]
structure M2 (X : Cx) (o : Expr) (m : Str) (apos : Pos) (e f : Expr) (cpos : Pos) : Prop where
  base : attributeBase o m X.env (eval o X.env) = eval o X.env
  few : ((backTo cpos (starEach [e, f] X.env)).all (fun x => !x.1) && (backToKw cpos (keywordEach [] X.env)).all (fun x => x.1.isSome)
    && decide (([e, f] : List Expr).length + ([] : List Keyword).length + (if ([] : List Keyword).isEmpty then 0 else 1) < 30)) = true
  line : (apos.endLine == cpos.line) = true
  trees : backTo cpos (starEach [e, f] X.env) = [(false, eval e X.env), (false, eval f X.env)]
section
variable {X : Cx} {pins : List (Addr × Obj)} {σ : St} {H : Hp} {s : Shared} {a : Addr} {y d : V} {u r : Value} {o : Option V} {A : Around} {E : Value → Shared → Prop}
end
section
variable {X : Cx} {o e f : Expr} {apos cpos : Pos} {td ty tx : TE}
end
section
variable {X : Cx} {pins : List (Addr × Obj)} {σ : St} {H : Hp} {s : Shared} {a : Addr} {kvs : List (Key × V)} {A : Around} {E : Value → Shared → Prop}
end
section
variable {X : Cx} {pins : List (Addr × Obj)} {σ : St} {H : Hp} {s : Shared} {a : Addr} {y : V} {u : Value} {A : Around} {E : Value → Shared → Prop}
end
end L2
set_option maxHeartbeats 4000000
namespace L2
open PySem
theorem lk_list_keys : typeLookup (.type "list") "keys" = pure none := by rw [typeLookup_type, builtinLookup_eq_fast]; kernel_rfl
theorem lk_list_hook : typeLookup (.type "list") "__getattr__" = pure none := by rw [typeLookup_type, builtinLookup_eq_fast]; kernel_rfl
section
variable {prog : Program} {w : World} {A : Around} {E : Value → Shared → Prop} {h : Heap} {g : Array GenState} {d : Drawn} {t : Nat} {os : OsState} {a : Addr} {o : Obj}
theorem sub_AE : isSubtype (.type "AttributeError") (.type "AttributeError") = pure true := by rw [isSubtype_type]; kernel_rfl
theorem own_AE {m : Str} {tk : Tok} : ownMembersOf (.type "AttributeError") [.str m tk] = #[unsetMember, unsetMember] := by kernel_rfl
theorem first_AE {m : Str} {tk : Tok} : firstArgMember (.type "AttributeError") [.str m tk] = pure .none := by kernel_rfl
theorem raise_attr {α : Type} {self : Value} {name msg : Str} {Q : α → Shared → Prop} (hm : msg.length ≤ sizeLine) (hh : A.handled = none)
    (hq : ∀ h' t' e oe, (∀ b o, h.get? b = some o → h'.get? b = some o) → h'.get? e = some oe → oe.cls = .type "AttributeError" → E (.ref e) ⟨h', g, d, t', os⟩) :
    wpAny (model prog w) A (raiseAttrError self name msg) Q E ⟨h, g, d, t, os⟩ := by
  have f1 := sub_AE
  unfold raiseAttrError newExc
  refine wpAny_bind (wpAny_mkStr ?_ hm)
  have fe := first_AE (m := msg) (tk := t)
  rw [own_AE]
  repeat (any_goals (first | assumption | wp_step))
  unfold raiseNew
  refine wpAny_bind (wpAny_handled ?_)
  rw [hh]
  refine wpAny_bind (wpAny_pure ?_)
  refine wpAny_throw ?_
  refine hq _ _ _ _ (fun b o q => ?_) (Heap.get?_update_self _ (Heap.get?_push_size _ rfl) rfl) rfl
  have lt := Heap.lt_size q
  rw [Heap.get?_update_other _ _ (by rw [Heap.size_push]; exact Nat.ne_of_gt (Nat.lt_succ_of_lt lt))]
  exact Heap.get?_push_of_some _ (Heap.get?_push_of_some _ q)
theorem keys_entry {tk : Tok} {its : Array Value} {n : Nat} {Q : Fin → Shared → Prop} (hx : h.get? a = some { cls := .type "list", data := .seq its n }) (hh : A.handled = none)
    (hq : ∀ h' t' e oe, (∀ b o, h.get? b = some o → h'.get? b = some o) → h'.get? e = some oe → oe.cls = .type "AttributeError" → E (.ref e) ⟨h', g, d, t', os⟩) :
    wpAny (model prog w) A (Builtin.«object.__getattribute__» ⟨[.ref a, .str "keys" tk], []⟩) Q E ⟨h, g, d, t, os⟩ := by
  have hT : (⟨h, g, d, t, os⟩ : Shared).TypeIs (.ref a) "list" := ⟨_, hx, rfl⟩
  have f4 := lk_list_keys
  repeat (any_goals (first | assumption | wp_step))
  exact raise_attr (by decide +kernel) hh hq
theorem keys_none {its : Array Value} {n : Nat} {Q : Option Value → Shared → Prop} (hx : h.get? a = some { cls := .type "list", data := .seq its n }) (hh : A.handled = none)
    (hq : ∀ h' t', (∀ b o, h.get? b = some o → h'.get? b = some o) → Q none ⟨h', g, d, t', os⟩) : wpAny (model prog w) A (getAttr? (.ref a) "keys") Q E ⟨h, g, d, t, os⟩ := by
  have hT : ∀ t', (⟨h, g, d, t', os⟩ : Shared).TypeIs (.ref a) "list" := fun t' => ⟨_, hx, rfl⟩
  have f1 := sub_AE
  have f2 := F.slot_list_getattribute.lookup
  have f3 := F.slot_list_getattribute.bind (.ref a)
  have f4 := lk_list_hook
  unfold getAttr? getAttrBy? getAttrBy
  refine wpAny_bind (wpAny_mkText (wpAny_bind (wpAny_attempt (wpAny_holding (wpAny_bind (wpAny_typeOf (hT _) ?_))))))
  rw [f2]
  refine wpAny_bind (wpAny_pure ?_)
  show wpAny _ _ (getAttrByItsOwn _ _ _ _ _ _) _ _ _
  unfold getAttrByItsOwn
  refine wpAny_bind (wpAny_pure (a := none) (wpAny_bind (wpAny_attempt (wpAny_holding ?_))))
  show wpAny _ _ (boundAndCalled _ _ _) _ _ _
  unfold boundAndCalled
  rw [f3]
  refine wpAny_bind (wpAny_pure (wpAny_call (codeAny_call_builtin F.slot_list_getattribute.plain F.entry_list_ga (F.slot_list_getattribute.check _ _ _ _ _ _ _ _ (hT _) (F.args_list_getattribute_2 _ _) (keys_entry hx hh fun h' t' e oe k ee ec => ?_)))))
  have te : (⟨h', g, d, t', os⟩ : Shared).TypeIs (.ref e) "AttributeError" := ⟨oe, ee, ec⟩
  show wpAny _ _ (getattributeRaised _ _ _ _ _ _ _) _ _ _
  unfold getattributeRaised
  refine wpAny_bind (wpAny_isInstance te f1 ?_)
  rw [if_pos rfl]
  show wpAny _ _ (typeLookup _ _ >>= _) _ _ _
  rw [f4]
  refine wpAny_bind (wpAny_pure ?_)
  show wpAny _ _ (throw _) _ _ _
  refine wpAny_throw ?_
  refine wpAny_bind (wpAny_isInstance te f1 ?_)
  rw [if_pos rfl]
  exact wpAny_pure (hq h' t' k)
end
end L2
namespace L2
open PySem
theorem plain_dul : plainId "dict.update.loop" = true := by decide +kernel
theorem entry_dul : entryFor table "dict.update.loop" = some Builtin.«dict.update.loop» := entryFor_of_tree (by kernel_rfl)
section
variable {prog : Program} {w : World} {K : Type} [DecidableEq K] {knd : KeyKind prog w K} {A : Around} {E : Value → Shared → Prop}
def PairAt (knd : KeyKind prog w K) (h : Heap) (u : Value) (kv : K × Value) : Prop :=
  ∃ t key n o, u = .ref t ∧ knd.is kv.1 key = true ∧ h.get? t = some o ∧ o.cls = .type "tuple" ∧ o.data = .seq #[key, kv.2] n
theorem PairAt.keep {h h' : Heap} {u : Value} {kv : K × Value} (p : PairAt knd h u kv) (k : ∀ b o, o.cls = .type "tuple" → h.get? b = some o → h'.get? b = some o) : PairAt knd h' u kv :=
  let ⟨t, key, n, o, a, b, c, d, e⟩ := p; ⟨t, key, n, o, a, b, k t o d c, d, e⟩
theorem dul_go {R : Result → Shared → Prop} {d it l : Addr} {items : Array Value} (hh : A.handled = none) : ∀ (more : List (K × Value)) (i : Nat) (s : Shared) (kvs : List (K × Value)) (j : Int) (tk : Tok), items.size = i + more.length →
    s.heap.DictOf knd d kvs → s.heap.IsListIter it l i → s.heap.IsList l items → (∀ m kv, more[m]? = some kv → ∃ u, items[i + m]? = some u ∧ PairAt knd s.heap u kv) → kvs.length + more.length ≤ sizeLine →
    (∀ h' t', h'.DictOf knd d (more.foldl (fun a p => stored a p.1 p.2) kvs) → (∀ b o, b ≠ d → b ≠ it → s.heap.get? b = some o → h'.get? b = some o) → R (.ok (.ret .none)) { s with heap := h', toks := t' }) →
    codeAny (model prog w) A (.builtin "dict.update.loop" ⟨[.ref d, .ref it, .int j tk, .none], []⟩) R s := by
  intro more
  induction more with
  | nil =>
    intro i s kvs j tk hi hd hit hl hp hz hR
    refine codeAny_builtin entry_dul ?_
    rw [Around.under_plainId plain_dul _]
    unfold Builtin.«dict.update.loop»
    have hs : items[i]? = none := Array.getElem?_eq_none (by rw [hi]; exact Nat.le_refl _)
    refine wpAny_bind (wpAny_pyNext_list_end hh hit hl hs fun h1 eb => ?_)
    have nd : d ≠ it := fun z => by
      obtain ⟨o, _, _, q, _, c, _⟩ := hd
      obtain ⟨o', q', _, c'⟩ := hit
      rw [z, q'] at q; cases q; rw [c'] at c; cases c
    show wpAny _ _ (Builtin.Dict.addKeywords d [] >>= _) _ _ _
    exact wpAny_bind (wpAny_pure (wpAny_pure (hR h1 s.toks (hd.extBut eb nd) fun b o n1 n2 q => eb b o n2 q)))
  | cons kv more ih =>
    intro i s kvs j tk hi hd hit hl hp hz hR
    refine codeAny_builtin entry_dul ?_
    rw [Around.under_plainId plain_dul _]
    unfold Builtin.«dict.update.loop»
    obtain ⟨u, hu, t, key, n, o, rfl, hk, ho, hc, hdt⟩ := hp 0 kv rfl
    refine wpAny_bind (wpAny_pyNext_list_item hit hl hu fun h1 it1 sb => ?_)
    have nd : d ≠ it := fun z => by
      obtain ⟨o, _, _, q, _, c, _⟩ := hd
      obtain ⟨o', q', _, c'⟩ := hit
      rw [z, q'] at q; cases q; rw [c'] at c; cases c
    have n2 : ∀ b o, (o.cls = .type "tuple" ∨ o.cls = .type "list") → s.heap.get? b = some o → b ≠ d ∧ b ≠ it := by
      intro b o c q
      constructor
      · intro z
        obtain ⟨o', q', c'⟩ := hd.typeIs
        rw [z, q'] at q; cases q; rw [c'] at c; rcases c with c | c <;> exact absurd c (by decide)
      · intro z
        obtain ⟨o', q', c', _⟩ := hit
        rw [z, q'] at q; cases q; rw [c'] at c; rcases c with c | c <;> exact absurd c (by decide)
    have nt : ∀ b o, o.cls = .type "tuple" → s.heap.get? b = some o → b ≠ d ∧ b ≠ it := fun b o c q => n2 b o (.inl c) q
    have nl : l ≠ d ∧ l ≠ it := by
      obtain ⟨o, q, c, _⟩ := hl
      exact n2 l o (.inr c) q
    have ho1 : h1.get? t = some o := (sb.2 t (nt t o hc ho).2).trans ho
    have hd1 : h1.DictOf knd d kvs := hd.sameBut sb nd
    refine wpAny_bind (wpAny_holding (wpAny_bind (wpAny_tryCatch ?_)))
    unfold Builtin.Dict.pairItems
    refine wpAny_bind (wpAny_typeOf (T := "tuple") ⟨o, ho1, hc⟩ ?_)
    rw [if_pos (by decide)]
    refine wpAny_bind (wpAny_seqItems ho1 hdt (wpAny_pure ?_))
    show wpAny _ _ (holding [key, kv.2] (dictSet d key kv.2)) _ _ _
    rw [List.length_cons] at hz hi
    refine wpAny_holding (wpAny_dictSet_pairs (s := { s with heap := h1 }) hk hd1 (fun h2 hd2 sb2 => ?_) (by omega))
    have kk : ∀ b o, b ≠ d → b ≠ it → s.heap.get? b = some o → h2.get? b = some o := fun b o n1 n2 q => (sb2.2 b n1).trans ((sb.2 b n2).trans q)
    have ln : (stored kvs kv.1 kv.2).length ≤ kvs.length + 1 := by
      unfold stored
      split
      · simp
      · simp
    refine wpAny_pure ⟨plainId_quiet plain_dul _, ih (i + 1) _ _ _ _ (by omega) hd2 (it1.at fun o q => (sb2.2 it (Ne.symm nd)).trans q) (hl.at fun o q => kk l o nl.1 nl.2 q) (fun m kv' e => ?_) (by omega) fun h3 t3 hd3 k3 => ?_⟩
    · obtain ⟨u', e1, e2⟩ := hp (m + 1) kv' e
      exact ⟨u', by rw [← e1]; congr 1; omega, e2.keep fun b o c q => kk b o (nt b o c q).1 (nt b o c q).2 q⟩
    · exact hR h3 t3 hd3 fun b o n1 n2 q => k3 b o n1 n2 (kk b o n1 n2 q)
theorem sub_ld : (Value.type "list" != Value.type "dict") = true := by decide
theorem call_dict_list {s : Shared} {l : Addr} {items : Array Value} {n : Nat} {more : List (K × Value)} {Q : Value → Shared → Prop} (knd : KeyKind prog w K) (hh : A.handled = none) (hx : s.heap.get? l = some { cls := .type "list", data := .seq items n })
    (hi : items.size = more.length) (hp : ∀ (m : Nat) kv, more[m]? = some kv → ∃ u, items[m]? = some u ∧ PairAt knd s.heap u kv) (hz : more.length ≤ sizeLine)
    (h : ∀ h' t', h'.DictOf knd s.heap.objs.size (more.foldl (fun a p => stored a p.1 p.2) []) → (∀ b o, s.heap.get? b = some o → h'.get? b = some o) → Q (.ref s.heap.objs.size) { s with heap := h', toks := t' }) :
    wpAny (model prog w) A (call (.type "dict") [.ref l]) Q E s := by
  refine callType_codes (Q₁ := fun obj s₁ => obj = .ref s.heap.objs.size ∧ s₁ = { s with heap := s.heap.push { cls := .type "dict", data := .dict #[] } }) F.kt_called_dict (F.kt_typeCall_dict_1 _) F.entry_dict_init (kt_code_dict_new _ ⟨rfl, rfl⟩) ?_
  rintro obj s₁ ⟨rfl, rfl⟩
  have new0 : (s.heap.push { cls := .type "dict", data := .dict #[] }).DictOf knd s.heap.objs.size [] := Heap.DictOf.new s.heap
  have l0 := Heap.get?_push_of_some { cls := .type "dict", data := .dict #[] } hx
  refine ⟨new0.typeIs, F.args_dict_init_2 _ _, ?_⟩
  unfold Builtin.«dict.__init__» Builtin.Dict.selfAndRest
  refine wpAny_bind (wpAny_bind (wpAny_notOrdered_dict new0.typeIs (wpAny_pure ?_)))
  show wpAny _ _ (Builtin.Dict.updateFrom "dict.__init__" s.heap.objs.size (.ref l) [] .none) _ _ _
  unfold Builtin.Dict.updateFrom
  refine wpAny_bind (wpAny_typeOf (T := "list") ⟨_, l0, rfl⟩ ?_)
  rw [if_pos sub_ld]
  refine wpAny_bind (keys_none l0 hh fun h1 t1 k1 => ?_)
  refine wpAny_bind (wpAny_rule ?_)
  have l1 := k1 _ _ l0
  refine wpAny_bind (wpAny_pyIter_list ⟨_, l1, rfl, _, rfl⟩ ?_)
  have k2 : ∀ b o, s.heap.get? b = some o → (h1.push { cls := .type "list_iterator", data := .fields #[.ref l, .int 0 0] }).get? b = some o := fun b o q => Heap.get?_push_of_some _ (k1 _ _ (Heap.get?_push_of_some _ q))
  refine wpAny_pure ⟨plainId_quiet plain_dul _, dul_go (knd := knd) (A := A.in1) (l := l) (items := items) (show A.in1.handled = none from hh) more 0 _ [] _ _ (by rw [hi, Nat.zero_add]) ?_ ⟨_, Heap.get?_push_size _ rfl, rfl, rfl⟩ ⟨_, k2 _ _ hx, rfl, n, rfl⟩ (fun m kv e => ?_) (by simpa using hz) fun h' t' hd k3 => ?_⟩
  · obtain ⟨o, es, ep, q, r⟩ := new0
    exact ⟨o, es, ep, Heap.get?_push_of_some _ (k1 _ _ q), r⟩
  · obtain ⟨u, e1, e2⟩ := hp m kv e
    exact ⟨u, by rw [Nat.zero_add]; exact e1, e2.keep fun b o _ q => k2 b o q⟩
  · refine ⟨rfl, h h' t' hd fun b o q => k3 b o (Nat.ne_of_lt (Heap.lt_size q)) ?_ (k2 b o q)⟩
    have := Heap.lt_size (k1 _ _ (Heap.get?_push_of_some { cls := .type "dict", data := .dict #[] } q))
    exact Nat.ne_of_lt this
end
end L2
namespace L2
open PySem PySem.Spec PyProof.Rows
def PIfs (X : Cx) (ifs : List Expr) (t : TT) : Prop :=
  ∀ (pins : List (Addr × Obj)) (s : Shared) (σ : St) (H : Hp) (Q : Bool → Hp → Prop), Inv X pins σ H s → t σ H Q →
    wpAny (model X.prog X.w) X.A (forIn ifs true fun c r => if r = true then do let ok ← isTrue c X.env (eval c X.env); pure (ForInStep.yield ok) else pure (ForInStep.yield r)) (TP X pins σ Q) X.xe s
def tTrue : TT := fun _ H Q => Q true H
theorem pif_nil {X : Cx} : PIfs X [] tTrue := fun _ _ _ H _ I h => wpAny_tests_nil ⟨H, I, h⟩
theorem pif_one {X : Cx} {c : Expr} {t : TT} (h : PT X c t) : PIfs X [c] t := fun pins s σ H Q I hw => wpAny_tests_one (h pins s σ H Q I hw)
theorem compLoop_go {prog : Program} {w : World} {A : Around} {R : Result → Shared → Prop} {s : Shared} {elt target iter : Expr} {ifs : List Expr} {scope : Scope} {pos : Pos} {it acc : Value} {env : Env} (I : Nat → Shared → Prop)
    (turn : ∀ n s, I n s → wpAny (model prog w) A (pyNext it) (fun r s₁ => match r with
      | none => R (.ok .next) s₁
      | some v => wpAny (model prog w) A (letOwnedTupleGo target it v) (fun _ s₁ => wpAny (model prog w) A (assign target env v) (fun _ s₂ =>
          wpAny (model prog w) A (forIn ifs true fun c r => if r = true then do let ok ← isTrue c env (eval c env); pure (ForInStep.yield ok) else pure (ForInStep.yield r)) (fun ok s₃ =>
            if ok = true then wpAny (model prog w) A (eval elt env) (fun x s₄ =>
              wpAny (model prog w) A (call (.builtin "list.append") [acc, x]) (fun _ s₅ => ∃ m, m < n ∧ I m s₅) (fun _ _ => False) s₄) (fun _ _ => False) s₃
            else ∃ m, m < n ∧ I m s₃) (fun _ _ => False) s₂) (fun _ _ => False) s₁) (fun _ _ => False) s₁) (fun _ _ => False) s)
    (n : Nat) (h : I n s) :
    codeAny (model prog w) A (.compLoop (.ListComp elt [⟨target, iter, ifs, 0⟩] scope pos) 0 it acc env) R s := by
  refine codeAny_loop rfl I (fun n s hI => ?_) n h
  show wpAny _ A ((compTurn (.ListComp elt [⟨target, iter, ifs, 0⟩] scope pos) 0 it acc env).onRaise (fun x => do noteFrame x env; theTreesLotGoes x)) _ _ s
  refine wpAny_noted ?_
  rw [compTurn_list]
  refine wpAny_bind (wpAny_standAt (wpAny_bind (wpAny_mono (turn n s hI) (fun r s₁ h₁ => ?_) fun _ _ h' => h'.elim)))
  cases r with
  | none => exact wpAny_pure h₁
  | some v =>
    refine wpAny_bind (wpAny_mono h₁ (fun _ s₂ h₂ => ?_) fun _ _ h' => h'.elim)
    refine wpAny_bind (wpAny_mono h₂ (fun _ s₂ h₂ => wpAny_bind (wpAny_mono h₂ (fun ok s₃ h₃ => ?_) fun _ _ h' => h'.elim)) fun _ _ h' => h'.elim)
    cases ok with
    | false => exact wpAny_pure ⟨rfl, h₃⟩
    | true =>
      exact wpAny_bind (wpAny_bind (wpAny_mono h₃ (fun x s₄ h₄ => wpAny_bind (wpAny_mono h₄ (fun _ s₅ h₅ => wpAny_pure (wpAny_pure ⟨rfl, h₅⟩)) fun _ _ h' => h'.elim)) fun _ _ h' => h'.elim))
end L2
namespace L2
open PySem PySem.Spec PyProof.Rows
inductive ClsOf (K : PySem.W.Frag) (H : Hp) : V → String → Prop where
  | bl (x : Bool) : ClsOf K H (.bl x) "bool"
  | int (i : Int) : ClsOf K H (.int i) "int"
  | str (x : Str) : ClsOf K H (.str x) "str"
  | tup {a : Addr} {xs : List V} (e : SqT K H a xs) : ClsOf K H (.ref a) "tuple"
theorem call_isinst {X : Cx} : CallR X (.builtin "isinstance") (fun xs H Q => ∃ x T n b, xs = [x, .ty n] ∧ ClsOf X.K H x T ∧ PySem.W.kitOne X.K (.type T) (.type n) = some b ∧ Q (.bl b) H) := by
  intro pins s σ H xs us Q I r h
  obtain ⟨x, T, n, b, rfl, ty, e, q⟩ := h
  obtain ⟨u, w', rfl, rx, rn⟩ := vals2 r
  cases (show w' = Value.type n from rn)
  have fin : ∀ tk, EP X pins σ Q (.bool b) { s with toks := tk } := fun tk => ⟨.bl b, H, I.tok _, rfl, q⟩
  cases ty with
  | bl y => cases (show u = Value.bool y from rx); exact PySem.W.kia_one PySem.W.kitx_bool I.kIn True.intro e (fun z => nomatch z) fin
  | int i => obtain ⟨t, z⟩ := (show ∃ t, u = Value.int i t from rx); cases z; exact PySem.W.kia_one PySem.W.kitx_int I.kIn True.intro e (fun z => nomatch z) fin
  | str y => obtain ⟨t, z⟩ := (show ∃ t, u = Value.str y t from rx); cases z; exact PySem.W.kia_one PySem.W.kitx_str I.kIn True.intro e (fun z => nomatch z) fin
  | @tup a ys hq =>
    cases (show u = Value.ref a from rx)
    obtain ⟨its, _, ⟨o, h1, h2, _⟩, _⟩ := I.tuple hq
    exact PySem.W.kia_one PySem.W.kitx_tuple I.kIn ⟨o, h1, h2⟩ e (fun z => nomatch z) fin
end L2
namespace L2
open PySem
structure Clos (env : Env) (scope : Scope) (cl : List (Str × Addr)) : Prop where
  eq : closureFor scope env = pure cl
  sub : ∀ y c, cl.lookup y = some c → env.cells.lookup y = some c
  all : ∀ y, (y, NameKind.free) ∈ scope.names → ∃ c, cl.lookup y = some c
theorem lookup_put {y n : Str} {c : Addr} {l : List (Str × Addr)} : ((n, c) :: l).lookup y = if y = n then some c else l.lookup y := by
  by_cases h : y = n
  · rw [if_pos h]; simp [List.lookup, h]
  · rw [if_neg h]; simp [List.lookup, beq_eq_false_iff_ne.mpr h]
theorem clos_of {env : Env} {scope : Scope} (h : ∀ y, (y, NameKind.free) ∈ scope.names → ∃ c, env.cells.lookup y = some c) : ∃ cl, Clos env scope cl := by
  have go : ∀ (names : List (Str × NameKind)) (acc : List (Str × Addr)), (∀ y, (y, NameKind.free) ∈ names → ∃ c, env.cells.lookup y = some c) → (∀ y c, acc.lookup y = some c → env.cells.lookup y = some c) →
      ∃ cl, (forIn names acc fun (x : Str × NameKind) (cs : List (Str × Addr)) => (if x.2 == .free then do let c ← cellOf env x.1; pure (ForInStep.yield ((x.1, c) :: cs)) else pure (ForInStep.yield cs) : Sem (ForInStep (List (Str × Addr))))) = pure cl ∧
        (∀ y c, cl.lookup y = some c → env.cells.lookup y = some c) ∧ (∀ y, (y, NameKind.free) ∈ names → ∃ c, cl.lookup y = some c) ∧ ∀ y c, acc.lookup y = some c → ∃ c', cl.lookup y = some c' := by
    intro names
    induction names with
    | nil => intro acc _ hs; exact ⟨acc, rfl, hs, fun y hy => absurd hy (by simp), fun y c e => ⟨c, e⟩⟩
    | cons x r ih =>
      intro acc hf hs
      obtain ⟨n, k⟩ := x
      rw [List.forIn_cons]
      by_cases hk : k = .free
      · subst hk
        obtain ⟨c0, e0⟩ := hf n List.mem_cons_self
        obtain ⟨cl, e1, e2, e3, e4⟩ := ih ((n, c0) :: acc) (fun y hy => hf y (List.mem_cons_of_mem _ hy)) (fun y c e => by
          rw [lookup_put] at e
          by_cases z : y = n
          · rw [if_pos z] at e; cases e; rw [z]; exact e0
          · rw [if_neg z] at e; exact hs y c e)
        refine ⟨cl, ?_, e2, fun y hy => ?_, fun y c e => ?_⟩
        · rw [← e1]
          have : cellOf env n = pure c0 := by unfold cellOf; rw [e0]
          simp only [this]
          rfl
        · rcases List.mem_cons.mp hy with z | z
          · cases z; exact e4 n c0 (by rw [lookup_put, if_pos rfl])
          · exact e3 y z
        · by_cases z : y = n
          · exact e4 y c0 (by rw [lookup_put, if_pos z])
          · exact e4 y c (by rw [lookup_put, if_neg z]; exact e)
      · obtain ⟨cl, e1, e2, e3, e4⟩ := ih acc (fun y hy => hf y (List.mem_cons_of_mem _ hy)) hs
        refine ⟨cl, ?_, e2, fun y hy => ?_, e4⟩
        · rw [← e1]
          have : (k == NameKind.free) = false := by simpa using hk
          simp only [this]
          rfl
        · rcases List.mem_cons.mp hy with z | z
          · cases z; exact absurd rfl hk
          · exact e3 y z
  obtain ⟨cl, e1, e2, e3, _⟩ := go scope.names [] h (fun y c e => by simp at e)
  refine ⟨cl, ?_, e2, e3⟩
  unfold closureFor
  exact Eq.trans (congrArg (fun t : Sem (List (Str × Addr)) => t >>= fun cs => pure cs) e1) rfl
theorem relabel_free {scope : Scope} {env : Env} {y : Str} (hk : env.scope.kind = .function) (hy : scope.names.lookup y = some .free) (he : env.kindOf y = some .cell) : (relabel scope env).names.lookup y = some .cell := by
  have go : ∀ l : List (Str × NameKind), l.lookup y = some .free → (l.map fun (x : Str × NameKind) => if (x.2 == NameKind.free && env.scope.kind == .function && env.kindOf x.1 == some .cell) then (x.1, NameKind.cell) else (x.1, x.2)).lookup y = some .cell := by
    intro l
    induction l with
    | nil => intro z; cases z
    | cons x r ih =>
      obtain ⟨n, k⟩ := x
      intro hy
      rw [List.map_cons]
      by_cases z : y = n
      · subst z
        simp [List.lookup] at hy
        subst hy
        simp [List.lookup, hk, he]
      · have zb : (y == n) = false := beq_eq_false_iff_ne.mpr z
        simp only [List.lookup, zb] at hy
        have := ih hy
        dsimp only
        split <;> simp only [List.lookup, zb] <;> exact this
  exact go _ hy
theorem mem_lk {α : Type} {y : Str} {v : α} : ∀ {l : List (Str × α)}, l.lookup y = some v → (y, v) ∈ l
  | [], h => by cases h
  | (n, u) :: r, h => by
    by_cases z : y = n
    · subst z
      simp [List.lookup] at h
      subst h
      exact List.mem_cons_self
    · have zb : (y == n) = false := beq_eq_false_iff_ne.mpr z
      simp only [List.lookup, zb] at h
      exact List.mem_cons_of_mem _ (mem_lk h)
theorem relabel_kind {scope : Scope} {env : Env} {y : Str} {k : NameKind} (h : (relabel scope env).names.lookup y = some k) (hk : k = .cell ∨ k = .free) (hc : ∀ z ∈ scope.names, z.2 ≠ .cell) : (y, NameKind.free) ∈ scope.names := by
  have m := mem_lk h
  unfold relabel at m
  obtain ⟨⟨n, k'⟩, m1, m2⟩ := List.mem_map.mp m
  dsimp only at m2
  split at m2
  · rename_i q
    cases m2
    simp at q
    obtain ⟨⟨q, _⟩, _⟩ := q
    subst q
    exact m1
  · cases m2
    rcases hk with hk | hk
    · exact absurd hk (hc _ m1)
    · rw [← hk]; exact m1
end L2
namespace L2
open PySem PySem.Spec PyProof.Rows
def cxD (X : Cx) (scope : Scope) (cl : List (Str × Addr)) (C : Addr) (s1 : Shared) (H1 : Hp) (N : List Str) (fp : List Addr) : Cx :=
  { X with N := N, s₀ := s1, H₀ := H1, env := compEnvC scope cl C X.env, outer := X.stack, stack := X.stack, ex := fp, fn := fun _ => false, pn := [], xe := fun _ _ => False }
structure Caps (X : Cx) (scope : Scope) (js : List (Nat × Str)) : Prop where
  at_ : ∀ p ∈ js, X.N[p.1]? = some p.2 ∧ X.env.scope.names.lookup p.2 = some .cell ∧ scope.names.lookup p.2 = some .free
  all : ∀ y, (y, NameKind.free) ∈ scope.names → X.env.scope.names.lookup y = some .cell
def capS (ts : List Str) (js : List (Nat × Str)) (σ : St) : St := ts.map (fun _ => none) ++ js.map fun p => (σ[p.1]?).join
theorem inv_compG {X : Cx} {pins : List (Addr × Obj)} {σ : St} {H : Hp} {s1 s4 : Shared} {scope : Scope} {ts : List Str} {js : List (Nat × Str)} {cl : List (Str × Addr)} {fp : List Addr} {C : Addr} {m : Str → Option Value}
    (I : Inv X pins σ H s1) (hf : ∀ b ∈ fp, FpOk X pins H b) (hfl : ∀ b ∈ fp, b < s1.heap.objs.size) (hkind : scope.kind = .function) (hcell : ∀ y ∈ scope.names, y.2 ≠ .cell) (cp : Caps X scope js) (hcl : Clos X.env scope cl)
    (hC : s1.heap.objs.size < C) (ho : s4.os = s1.os) (hg : s4.gens = s1.gens) (old : ∀ b o, s1.heap.get? b = some o → s4.heap.get? b = some o) (hn : s4.heap.Ns C m)
    (hD : s4.heap.get? s1.heap.objs.size = some { cls := .type "list", data := .seq ([] : List Value).toArray 0 }) :
    Inv (cxD X scope cl C s1 H (ts ++ js.map (·.2)) fp) [] (capS ts js σ) (upd H s1.heap.objs.size (.lst [])) s4 := by
  have xk : X.env.scope.kind = .function := I.ok.kind
  have has : ∀ y, ((relabel scope X.env).names.lookup y = some .cell ∨ (relabel scope X.env).names.lookup y = some .free) → ∃ c, cl.lookup y = some c := fun y hy => hcl.all y (by
    rcases hy with hy | hy
    · exact relabel_kind hy (.inl rfl) hcell
    · exact relabel_kind hy (.inr rfl) hcell)
  have lt : ∀ y c, cl.lookup y = some c → c < s1.heap.objs.size := fun y c e => by
    obtain ⟨v, o, ho, _⟩ := I.cell y c (hcl.sub y c e)
    exact Heap.lt_size ho
  refine ⟨⟨I.ok.mod, hkind, I.ok.glob, I.ok.blt, Nat.le_of_lt hC, fun y z c h1 h2 => I.ok.inj y z c (hcl.sub _ _ h1) (hcl.sub _ _ h2), has, fun y c h _ => absurd (show false = true from h) Bool.false_ne_true, I.ok.hd, I.ok.frames, .inl rfl,
      fun b hb => ⟨Nat.ne_of_lt (Nat.lt_trans (hfl b hb) hC), fun y c h => (hf b hb).2.2.2.2.1 y c (hcl.sub _ _ h)⟩, I.bs, Nat.le_trans I.ok.bsz I.sz, fun b o e hb => ?_, fun b hb => ?_, I.stack, I.stkFree⟩,
    ho, ?_, Un.laid old (Nat.le_refl _) I.fresh, ⟨m, hn, fun i y v e1 e2 _ => ?_⟩, fun y c h => ?_, ?_, fun y c h => ?_, fun p hp => absurd (show p ∈ ([] : List (Addr × Obj)) from hp) (by simp), I.hok.laid old (Nat.le_refl _) ?_, ?_⟩
  · obtain ⟨_, _, _, h4, _⟩ := hf b hb
    rcases h4 with h4 | h4
    · exact I.ok.noex b o e h4
    · exact absurd (Nat.lt_of_lt_of_le (Heap.lt_size (I.ok.bs b o e).1) h4) (Nat.lt_irrefl _)
  · intro hb'
    obtain ⟨_, h2, h3, _⟩ := hf b hb
    rcases List.mem_cons.mp (I.stkSub b hb') with z | z
    · exact h2 z
    · exact h3 z
  · rw [hg]; exact I.bare
  · have e1' : (ts ++ js.map (·.2))[i]? = some y := e1
    have e2' : (ts.map (fun _ => (none : Option V)) ++ js.map fun p => (σ[p.1]?).join)[i]? = some (some v) := e2
    by_cases hi : i < ts.length
    · rw [List.getElem?_append_left (by simpa using hi)] at e2'
      simp [hi] at e2'
    · rw [List.getElem?_append_right (by omega)] at e1'
      rw [List.getElem?_append_right (by simpa using Nat.le_of_not_lt hi)] at e2'
      rw [List.length_map] at e2'
      rw [List.getElem?_map] at e1' e2'
      cases hj : js[i - ts.length]? with
      | none => rw [hj] at e1'; cases e1'
      | some p =>
        rw [hj] at e1' e2'
        simp only [Option.map_some, Option.some.injEq] at e1' e2'
        obtain ⟨a1, a2, a3⟩ := cp.at_ p (List.mem_of_getElem? hj)
        subst e1'
        have es : σ[p.1]? = some (some v) := by
          cases q : σ[p.1]? with
          | none => rw [q] at e2'; cases e2'
          | some z => rw [q] at e2'; exact congrArg some e2'
        obtain ⟨m0, hn0, lk⟩ := I.loc
        obtain ⟨u, ru, l⟩ := lk p.1 p.2 v a1 es (.inr (.inl a2))
        rcases l with l | ⟨_, c, ec, o, hc, hd⟩
        · have l1 : X.env.scope.names.lookup p.2 = some .local := l.1
          rw [a2] at l1; cases l1
        · obtain ⟨c', ec'⟩ := hcl.all p.2 (mem_lk a3)
          have e3 := hcl.sub _ _ ec'
          rw [ec] at e3
          cases e3
          exact ⟨u, ru, .inr ⟨.inl (relabel_free xk a3 a2), c, ec', o, old _ _ hc, hd⟩⟩
  · obtain ⟨v, o, h1, h2⟩ := I.cell y c (hcl.sub y c h)
    exact ⟨v, o, old _ _ h1, h2⟩
  · show upd H s1.heap.objs.size (.lst []) C = none
    rw [upd_ne (Nat.ne_of_gt hC)]
    exact I.hok.fresh (Nat.le_of_lt hC)
  · show upd H s1.heap.objs.size (.lst []) c = none
    rw [upd_ne (Nat.ne_of_lt (lt y c h))]
    exact I.freeC y c (hcl.sub y c h)
  · exact ⟨by show 0 ≤ sizeLine; decide, [], 0, .nil, hD⟩
  · show (capS ts js σ).length = (ts ++ js.map (·.2)).length
    simp [capS]
def tCompG (wi : TI) (ts : List Str) (js : List (Nat × Str)) (g : TG) (tif : TT) (te : TE) : TE := fun σ H Q => wi σ H fun J H1 => ∀ D, H1 D = none → ∃ W : Nat → Nat → List V → St → Hp → Prop, (∃ m, W 0 m [] (capS ts js σ) (upd H1 D (.lst []))) ∧
  ∀ i m ys σ' H, W i m ys σ' H → (J.stop i H ∧ Q (.ref D) H) ∨ (J.go i H ∧ ∃ m', m' < m ∧ ∀ x H', J.yld i H x H' → g x σ' H' fun σ2 H2 => tif σ2 H2 fun b H3 =>
    if b = true then te σ2 H3 fun y H4 => H4 D = some (.lst ys) ∧ ys.length < sizeLine ∧ W (i + 1) m' (ys ++ [y]) σ2 (upd H4 D (.lst (ys ++ [y]))) else W (i + 1) m' ys σ2 H3)
theorem pe_compG {X : Cx} {elt iter tg : Expr} {ifs : List Expr} {scope : Scope} {pos : Pos} {wi : TI} {g : TG} {tif : TT} {te : TE} (ts : List Str) (js : List (Nat × Str)) (hc : X.calm = true) (hi : PI X tg iter wi)
    (cp : Caps X scope js) (hcell : ∀ y ∈ scope.names, y.2 ≠ .cell) (hkind : scope.kind = .function)
    (hnames : ∀ y ∈ scope.names, y.2 = .local → scope.names.lookup y.1 = some .local)
    (hg : ∀ cl C s1 H1 fp, PG (cxD X scope cl C s1 H1 (ts ++ js.map (·.2)) fp) tg g)
    (hif : ∀ cl C s1 H1 fp, PIfs (cxD X scope cl C s1 H1 (ts ++ js.map (·.2)) fp) ifs tif) (he : ∀ cl C s1 H1 fp, PE (cxD X scope cl C s1 H1 (ts ++ js.map (·.2)) fp) elt te)
    (hs : ∀ x, foldedSetIterable iter X.env x = pure x := by intro _; rfl) :
    PE X (.ListComp elt [⟨tg, iter, ifs, 0⟩] scope pos) (tCompG wi ts js g tif te) := by
  intro pins s σ H Q I h
  rw [eval_ListComp]
  obtain ⟨cl, hcl⟩ := clos_of (env := X.env) (scope := scope) fun y hy => I.ok.has y (.inl (cp.all y hy))
  refine wpAny_comprehension_free (use := none) rfl hs hcl.eq hkind hnames (thn (hi pins s σ H _ I h) fun v s1 h1 => thn h1 fun itv s2 h2 => ?_)
  obtain ⟨it, fp, tn, J, H2, e, I2, T, st2, f2, h2⟩ := h2
  subst e
  obtain ⟨W, ⟨m0, w0⟩, turn⟩ := h2 s2.heap.objs.size I2.fresh
  have hfl : ∀ b ∈ fp, b < s2.heap.objs.size := fun b hb => by obtain ⟨o, e, _⟩ := T.obj _ _ st2 b hb; exact Heap.lt_size e
  refine wpAny_newObj_type (wpAny_newFunctionEnv hcell (by intro y hy; simp at hy) (fun h₁ hns₁ hsb₁ => ?_) hkind)
  dsimp only at hns₁ hsb₁ ⊢
  generalize hH2 : s2.heap.push { cls := .type "list", dict := none, data := .seq ([] : List Value).toArray } = G2 at hns₁ hsb₁ ⊢
  have hCs : G2.objs.size = s2.heap.objs.size + 1 := by rw [← hH2, Heap.size_push]
  have hDC : s2.heap.objs.size ≠ G2.objs.size := by rw [hCs]; exact Nat.ne_of_lt (Nat.lt_succ_self _)
  have old : ∀ b o, s2.heap.get? b = some o → h₁.get? b = some o := fun b o e =>
    hsb₁.extBut b o (by rw [hCs]; exact Nat.ne_of_lt (Nat.lt_succ_of_lt (Heap.lt_size e))) (Heap.get?_push_of_some _ (hH2 ▸ Heap.get?_push_of_some _ e))
  have hacc : h₁.get? s2.heap.objs.size = some { cls := .type "list", data := .seq ([] : List Value).toArray 0 } := hsb₁.extBut _ _ hDC (Heap.get?_push_of_some _ (hH2 ▸ Heap.get?_push_size _ rfl))
  generalize hX2 : cxD X scope cl G2.objs.size s2 H2 (ts ++ js.map (·.2)) fp = X2
  have I4 : Inv X2 [] (capS ts js σ) (upd H2 s2.heap.objs.size (.lst [])) { s2 with heap := h₁, toks := s2.toks + ([] : List (Str × Value)).length } := by
    rw [← hX2]
    exact inv_compG I2 f2 hfl hkind hcell cp hcl (by rw [hCs]; exact Nat.lt_succ_self _) rfl rfl old hns₁ hacc
  have x1 : X2.prog = X.prog := by rw [← hX2]; rfl
  have x2 : X2.w = X.w := by rw [← hX2]; rfl
  have x3 : X2.K = X.K := by rw [← hX2]; rfl
  have x4 : X2.calm = true := by rw [← hX2]; exact hc
  have x5 : X2.A = X.A := by rw [← hX2]; rfl
  have x6 : X2.env = compEnvC scope cl G2.objs.size X.env := by rw [← hX2]; rfl
  have x7 : X2.xe = fun _ _ => False := by rw [← hX2]; rfl
  have hg' : PG X2 tg g := by rw [← hX2]; exact hg _ _ _ _ _
  have hif' : PIfs X2 ifs tif := by rw [← hX2]; exact hif _ _ _ _ _
  have he' : PE X2 elt te := by rw [← hX2]; exact he _ _ _ _ _
  have st4 : tn 0 h₁ := T.keep _ _ _ st2 fun b _ o e => old b o e
  have stat : ∀ {H' : Hp} {pins' : List (Addr × Obj)}, (∀ b ∈ fp, H' b = none) → (∀ p ∈ pins', p.1 ∉ fp) → ∀ b ∈ fp, FpOk X2 pins' H' b := fun {H' pins'} hn hp b hb => by
    have o4 := I4.ok
    subst hX2
    exact ⟨hn b hb, (o4.exf b hb).1, o4.exfs b hb, .inl hb, (o4.exf b hb).2, fun p hp' => by
      have hp2 : p ∈ ([] : List (Addr × Obj)) ++ pins' := hp'
      rw [List.nil_append] at hp2
      intro z; exact hp p hp2 (by rw [z]; exact hb)⟩
  have fin : ∀ {s' : Shared} {σ' : St} {H' : Hp}, Inv X2 [] σ' H' s' → Q (.ref s2.heap.objs.size) H' →
      compPost (model X.prog X.w) X.A X.xe none (EP X pins σ Q) (.ref s2.heap.objs.size) G2.objs.size (.ok .next) s' := fun {s' σ' H'} J' q => by
    subst hX2
    obtain ⟨m', hn', _⟩ := J'.loc
    refine ⟨m', hn', fun h' hs' => ?_⟩
    have u : Un (frs X.stack) fp H2 H' s2.heap s'.heap := J'.base
    have nC : ∀ b o, s2.heap.get? b = some o → b ≠ G2.objs.size := fun b o e => by rw [hCs]; exact Nat.ne_of_lt (Nat.lt_succ_of_lt (Heap.lt_size e))
    have u' : Un (frs X.stack) fp H2 H' s2.heap h' := ⟨fun b o e n hb hx => (hs'.2 b (nC b o e)).trans (u.keep b o e n hb hx), fun b o e n hb hx => by
        obtain ⟨sl, z⟩ := u.slot b o e n hb hx
        exact ⟨sl, (hs'.2 b (nC b o e)).trans z⟩, u.free, fun b o e hx => by
        obtain ⟨o', z⟩ := u.there b o e hx
        exact ⟨o', (hs'.2 b (nC b o e)).trans z⟩, u.tups, u.frzs, u.tbls⟩
    have hok : HOk X.prog X.w H' h' := fun b ob e => by
      refine (J'.hok b ob e).stay (fun c w' hc' q' => (hs'.2 c ?_).trans q') (fun _ q => q) fun _ _ q => q
      intro z
      have fr : H' G2.objs.size = none := J'.free
      rcases hc' with z' | z'
      · rw [← z'] at e; rw [z, fr] at e; cases e
      · rw [z, fr] at z'; cases z'
    have I5 : Inv X pins σ H' { s' with heap := h' } := I2.call' (s' := { s' with heap := h' }) J'.os u' hok J'.bare fun b hb => by
      obtain ⟨_, f1, _, f3, f4, f5⟩ := f2 b hb
      exact ⟨f3, f1, f4, f5⟩
    exact ⟨.ref s2.heap.objs.size, H', I5, rfl, q⟩
  have loop : ∀ s₃ : Shared, s₃ = { s2 with heap := h₁, toks := s2.toks + ([] : List (Str × Value)).length } →
      codeAny (model X.prog X.w) X.A (.compLoop (.ListComp elt [⟨tg, iter, ifs, 0⟩] scope pos) 0 (.ref it) (.ref s2.heap.objs.size) (compEnvC scope cl G2.objs.size X.env))
        (compPost (model X.prog X.w) X.A X.xe none (EP X pins σ Q) (.ref s2.heap.objs.size) G2.objs.size) s₃ := by
    rintro s₃ rfl
    subst hX2
    refine compLoop_go (fun n s' => ∃ i ys σ' H', Inv (cxD X scope cl G2.objs.size s2 H2 (ts ++ js.map (·.2)) fp) [] σ' H' s' ∧ tn i s'.heap ∧ (∀ b ∈ fp, H' b = none) ∧ W i n ys σ' H') ?_ m0
      ⟨0, [], _, _, I4, st4, fun b hb => by rw [upd_ne (Nat.ne_of_lt (hfl b hb))]; exact (f2 b hb).1, w0⟩
    rintro n s' ⟨i, ys, σ0, H', J', st', fr', w'⟩
    rcases turn i n ys σ0 H' w' with ⟨stop, q⟩ | ⟨go, m', hm, step⟩
    · refine wpAny_mono (T.done (cxD X scope cl G2.objs.size s2 H2 (ts ++ js.map (·.2)) fp) rfl rfl rfl hc i [] s' _ H' (fun _ _ => False) J' (stat fr' (by simp)) st' stop) (fun r s4 ⟨hr, J4⟩ => ?_) fun _ _ z => z
      subst hr
      exact fin J4 q
    · refine wpAny_mono (T.item (cxD X scope cl G2.objs.size s2 H2 (ts ++ js.map (·.2)) fp) rfl rfl rfl hc i [] s' _ H' (fun _ _ => False) J' (stat fr' (by simp)) st' go) (fun r s4 ⟨u, hr, h4⟩ => ?_) fun _ _ z => z
      subst hr
      refine wpAny_mono h4 (fun _ s5 ⟨xv, H5, J5, r5, y5, st5, fr5⟩ => ?_) fun _ _ z => z
      have J5' := J5.pinned (stat fr5 (by simp)) (T.obj _ _ st5)
      have back : ∀ {s7 : Shared} {σ7 : St} {H7 : Hp}, Inv (cxD X scope cl G2.objs.size s2 H2 (ts ++ js.map (·.2)) fp) ([] ++ pinsAt fp s5.heap) σ7 H7 s7 → Inv (cxD X scope cl G2.objs.size s2 H2 (ts ++ js.map (·.2)) fp) [] σ7 H7 s7 ∧ tn (i + 1) s7.heap ∧ ∀ b ∈ fp, H7 b = none := fun {s7 σ7 H7} J7 => by
        refine ⟨J7.unpinned, T.keep _ _ _ st5 fun b hb o e => (J7.pin (b, o) (List.mem_append_right _ (List.mem_append_right _ (mem_pinsAt hb e)))).1, fun b hb => ?_⟩
        obtain ⟨o, e, d⟩ := T.obj _ _ st5 b hb
        exact (J7.pin (b, o) (List.mem_append_right _ (List.mem_append_right _ (mem_pinsAt hb e)))).2.1
      show wpAny _ _ (assign tg (cxD X scope cl G2.objs.size s2 H2 (ts ++ js.map (·.2)) fp).env u) _ _ s5
      refine wpAny_mono (hg' _ s5 _ H5 xv u _ J5' r5 (step xv H5 y5)) (fun _ s6 ⟨σ6, H6, J6, q6⟩ => ?_) fun _ _ z => z
      refine wpAny_mono (hif' _ s6 _ H6 _ J6 q6) (fun b s7 ⟨H7, J7, q7⟩ => ?_) fun _ _ z => z
      cases b with
      | false =>
        rw [if_neg Bool.false_ne_true] at q7 ⊢
        obtain ⟨J8, st8, fr8⟩ := back J7
        exact ⟨m', hm, i + 1, ys, σ6, H7, J8, st8, fr8, q7⟩
      | true =>
        rw [if_pos rfl] at q7 ⊢
        refine wpAny_mono (he' _ s7 _ H7 _ J7 q7) (fun yv s8 ⟨y, H8, J8, r8, hD8, hz8, w8⟩ => ?_) fun _ _ z => z
        refine wpAny_mono (mt_append (X := cxD X scope cl G2.objs.size s2 H2 (ts ++ js.map (·.2)) fp) _ s8 _ H8 (.ref s2.heap.objs.size) [y] (.ref s2.heap.objs.size) [yv] (fun v H' => W (i + 1) m' (ys ++ [y]) σ6 H') J8 rfl (.cons r8 .nil) ⟨s2.heap.objs.size, ys, y, rfl, rfl, hD8, hz8, w8⟩)
          (fun _ s9 ⟨_, H9, J9, _, w9⟩ => ?_) fun _ _ z => z
        obtain ⟨J10, st10, fr10⟩ := back J9
        exact ⟨m', hm, i + 1, ys ++ [y], σ6, H9, J10, st10, fr10, w9⟩
  exact codeAny_compStart_list (loop _ rfl) (T.self _ _ _ _ _ st4 (loop _ rfl))
end L2
namespace L2
open PySem PySem.Spec PyProof.Rows
def Ite (K : PySem.W.Frag) (a : Addr) : It :=
  ⟨fun i H => ∃ xs x, SqL K H a xs ∧ xs[i]? = some x, fun i H x H' => ∃ t y, x = .ref t ∧ H t = none ∧ H' = upd H t (.tup [.int (i : Int), y]) ∧ ∀ xs, SqL K H a xs → xs[i]? = some y, fun i H => ∃ xs, SqL K H a xs ∧ xs.length ≤ i⟩
theorem turn_enum {P : Program} {w : World} {K : PySem.W.Frag} {elts : List Expr} {k : Nat} {tpos : Pos} (a e it : Addr) (hei : e ≠ it) :
    Turn P w K (.Tuple elts k tpos) (Ite K a) [e, it] e (fun i h => (∃ old, IsEnum h e it i old) ∧ h.IsListIter it a i) where
  mem := by simp
  obj := fun i h st b hb => by
    obtain ⟨⟨old, he⟩, o, e1, c, d⟩ := st
    rcases List.mem_cons.mp hb with rfl | hb
    · exact ⟨_, he, fun v z => by cases z⟩
    · obtain rfl : b = it := by simpa using hb
      exact ⟨o, e1, fun v z => by rw [d] at z; cases z⟩
  keep := fun i h h' st k => ⟨⟨st.1.choose, k e (by simp) _ st.1.choose_spec⟩, st.2.at fun o q => k it (by simp) o q⟩
  item := by
    intro X hP hw hK hc i pins s σ H E I hf st hg
    subst hP hw hK
    obtain ⟨xs, x, hq, hx⟩ := hg
    obtain ⟨its, rv, p, hz⟩ := I.list hq
    obtain ⟨u, hu, ru⟩ := rv.get hx
    obtain ⟨⟨old, he⟩, hit⟩ := st
    refine wpAny_pyNext_enum_item he hit p.isList (x := u) (by simpa using hu) hei fun h1 ho hit1 hT hsz hk => ?_
    refine ⟨_, rfl, wpAny_letOwnedTupleGo_enum ho fun h2 he2 sb => ?_⟩
    have ne : s.heap.objs.size ≠ e := Nat.ne_of_gt (Heap.lt_size he)
    have kk : ∀ b o, b ≠ e → b ≠ it → s.heap.get? b = some o → h2.get? b = some o := fun b o n1 n2 q => (sb.2 b n1).trans (hk b o n1 n2 q)
    have T2 : h2.get? s.heap.objs.size = some { cls := .type "tuple", data := .seq #[.int i s.toks, u] } := (sb.2 _ ne).trans hT
    have fe := hf e (by simp)
    have fi := hf it (by simp)
    have fT : H s.heap.objs.size = none := I.hok.fresh (Nat.le_refl _)
    have tr : ∀ b v, H b = some v → b ≠ e ∧ b ≠ it := fun b v q => ⟨fun z => (by rw [z, fe.1] at q; cases q), fun z => (by rw [z, fi.1] at q; cases q)⟩
    have nc : ∀ b, b ∉ [e, it] → b ≠ e ∧ b ≠ it := fun b z => ⟨fun q => z (by simp [q]), fun q => z (by simp [q])⟩
    have lt : ∀ b o, s.heap.get? b = some o → b ≠ s.heap.objs.size := fun b o q => Nat.ne_of_lt (Heap.lt_size q)
    have I2 : Inv X pins σ (upd H s.heap.objs.size (.tup [.int (i : Int), x])) { s with heap := h2, toks := s.toks + 1 } := by
      refine I.call (g' := s.gens) (t' := s.toks + 1) (d' := s.drawn) (ch := [e, it]) ⟨fun b o q _ _ c => kk b o (nc b c).1 (nc b c).2 q, fun b o q _ _ c => ⟨o.slots, kk b o (nc b c).1 (nc b c).2 q⟩,
        fun b o q n _ => by rw [upd_ne (lt b o q)]; exact n, fun b o q c => ⟨o, kk b o (nc b c).1 (nc b c).2 q⟩, fun b ys q => by rw [upd_ne (ne_of_none q fT)]; exact q, fun b o v q => by rw [upd_ne (ne_of_none q fT)]; exact q,
        fun b ps q => ⟨#[], by rw [upd_ne (ne_of_none q fT), q]; simp⟩⟩ (fun b v q => ?_) I.bare (fun b hb => ?_)
      · by_cases hb : b = s.heap.objs.size
        · subst hb
          rw [upd_same] at q
          cases q
          exact ⟨by show 2 ≤ sizeLine; decide, [.int i s.toks, u], .cons ⟨_, rfl⟩ (.cons ru .nil), _, T2, rfl, _, rfl⟩
        · rw [upd_ne hb] at q
          refine (I.hok b v q).stay (fun c o hc' z => ?_) (fun c q' => by rw [upd_ne (ne_of_none q' fT)]; exact q') fun c ys q' => by rw [upd_ne (ne_of_none q' fT)]; exact q'
          rcases hc' with rfl | hc'
          · exact kk c o (tr c _ q).1 (tr c _ q).2 z
          · exact kk c o (tr c _ hc').1 (tr c _ hc').2 z
      · rcases List.mem_cons.mp hb with rfl | hb
        · exact ⟨fe.2.2.2.1, fe.2.1, fe.2.2.2.2.1, fe.2.2.2.2.2⟩
        · obtain rfl : b = it := by simpa using hb
          exact ⟨fi.2.2.2.1, fi.2.1, fi.2.2.2.2.1, fi.2.2.2.2.2⟩
    refine ⟨.ref s.heap.objs.size, _, I2, rfl, ⟨_, x, rfl, fT, rfl, fun ys hy => by rw [I.list_inj hy hq]; exact hx⟩, ⟨⟨_, he2⟩, hit1.at fun o q => (sb.2 it hei.symm).trans q⟩, fun b hb => ?_⟩
    have hb' : H b = none ∧ ∃ o, s.heap.get? b = some o := by
      rcases List.mem_cons.mp hb with rfl | hb
      · exact ⟨fe.1, _, he⟩
      · obtain rfl : b = it := by simpa using hb
        obtain ⟨o, q, _⟩ := hit
        exact ⟨fi.1, o, q⟩
    obtain ⟨n, o, q⟩ := hb'
    rw [upd_ne (lt b o q)]
    exact n
  done := by
    intro X hP hw hK hc i pins s σ H E I hf st hg
    subst hP hw hK
    obtain ⟨xs, hq, hx⟩ := hg
    obtain ⟨its, rv, p, hz⟩ := I.list hq
    obtain ⟨⟨old, he⟩, hit⟩ := st
    obtain ⟨f0, f1, f2, f3, f4, f5⟩ := hf it (by simp)
    have hl := rv.length
    exact wpAny_pyNext_enum_end (I.ok.hd hc) he hit p.isList (by simp; omega) fun h' eb => ⟨rfl, I.turned (t' := s.toks) (fun b o hb e => eb b o hb e) f0 f1 f3 f4 f5⟩
  self := fun _ _ _ _ _ st h => wpAny_pyIter_enum st.1.choose_spec h
theorem boot_enum : bootBuiltins "enumerate" = some (.type "enumerate") := by decide +kernel
def iEnum (K : PySem.W.Frag) (ta : TA) : TI := fun σ H R => ta σ H fun vs H1 => ∃ a xs, vs = [.ref a] ∧ SqL K H1 a xs ∧ R (Ite K a) H1
theorem pi_enum {X : Cx} {elts : List Expr} {k : Nat} {tpos : Pos} {l : Expr} {ta : TA} {p pos : Pos} (hg : Gl X "enumerate") (hm : X.mg "enumerate" = none) (ha : PA X [l] ta) (hs : starEach [l] X.env = [(false, eval l X.env)] := by rfl) :
    PI X (.Tuple elts k tpos) (.Call (.Name "enumerate" p) [l] [] pos) (iEnum X.K ta) := by
  intro pins s σ H R I h
  refine Call_ (ld_blt I hg hm boot_enum (PyProof.Rows.callWith_type1 (thn (ha pos pins s σ H _ I h) fun us s1 ⟨vs, H1, I1, r1, q1⟩ => ?_) hs rfl))
  obtain ⟨a, xs, e, hq, q⟩ := q1
  subst e
  obtain ⟨u, rfl, rx⟩ := r1.one
  cases rx
  obtain ⟨its, rv, pl, hz⟩ := I1.list hq
  refine call_enumerate_list pl.isList fun h1 he hit hsz hk => wpAny_pyIter_enum he ?_
  refine ⟨s1.heap.objs.size + 1, [s1.heap.objs.size + 1, s1.heap.objs.size], _, _, H1, rfl, I1.kept (t' := s1.toks) fun b o e => hk b o e, turn_enum a _ _ (Nat.ne_of_gt (Nat.lt_succ_self _)), ⟨⟨_, he⟩, hit⟩, fun b hb => ?_, q⟩
  rcases List.mem_cons.mp hb with rfl | hb
  · exact I1.fpOk (Nat.le_succ _) (I1.hok.fresh (Nat.le_succ _))
  · obtain rfl : b = s1.heap.objs.size := by simpa using hb
    exact I1.fpOk (Nat.le_refl _) (I1.hok.fresh (Nat.le_refl _))
end L2
namespace L2
open PySem PySem.Spec PyProof.Rows
def fillK (kvs acc : List (Key × V)) : List (Key × V) := kvs.foldl (fun a p => putK a p.1 p.2) acc
theorem fill_rel : ∀ {kvs : List (Key × V)} {vs : List (Key × Value)} {acc : List (Key × V)} {accv : List (Key × Value)}, KV kvs vs → KV acc accv → KV (fillK kvs acc) (vs.foldl (fun a p => stored a p.1 p.2) accv)
  | _, _, _, _, .nil, h => h
  | _, _, _, _, .cons (a := p) (b := q) r t, h => by
    obtain ⟨e, rv⟩ := r
    show KV (fillK _ (putK _ p.1 p.2)) (List.foldl _ (stored _ q.1 q.2) _)
    rw [← e]
    exact fill_rel t (h.put p.1 rv)
theorem fill_len : ∀ (kvs acc : List (Key × V)), (fillK kvs acc).length ≤ acc.length + kvs.length
  | [], acc => by simp [fillK]
  | p :: r, acc => by
    have := fill_len r (putK acc p.1 p.2)
    have := length_putK acc p.1 p.2
    show (fillK r (putK acc p.1 p.2)).length ≤ _
    rw [List.length_cons]
    omega
section
variable {X : Cx} {pins : List (Addr × Obj)} {σ : St} {H : Hp} {s : Shared}
theorem pairs_at (I : Inv X pins σ H s) : ∀ {ts : List Addr} {kvs : List (Key × V)} {its : List Value}, Paired (fun t kv => SqT X.K H t [kV kv.1, kv.2]) ts kvs → Vals (ts.map V.ref) its →
    ∃ vs : List (Key × Value), KV kvs vs ∧ Paired (fun u kv => PairAt (mixKind X.prog X.w) s.heap u kv) its vs
  | [], _, _, .nil, r => by
    rw [List.map_nil] at r
    cases r
    exact ⟨[], .nil, .nil⟩
  | t :: ts, kv :: kvs, _, .cons h p, r => by
    rw [List.map_cons] at r
    cases r with
    | cons r1 r2 =>
      obtain ⟨vs, e1, e2⟩ := pairs_at I p r2
      obtain ⟨its, rv, ⟨o, h1, h2, n, h3⟩, _⟩ := I.tuple h
      obtain ⟨u1, u2, rfl, q1, q2⟩ := vals2 rv
      exact ⟨(kv.1, u2) :: vs, .cons ⟨rfl, q2⟩ e1, .cons ⟨t, u1, n, o, r1, kV_is q1, h1, h2, h3⟩ e2⟩
theorem Paired.at_ {α β : Type} {F : α → β → Prop} : ∀ {xs : List α} {ys : List β}, Paired F xs ys → ∀ (m : Nat) (y : β), ys[m]? = some y → ∃ x, xs[m]? = some x ∧ F x y
  | _, _, .nil, m, y, e => by cases m <;> cases e
  | _, _, .cons h t, 0, y, e => by cases e; exact ⟨_, rfl, h⟩
  | _, _, .cons h t, m + 1, y, e => Paired.at_ t m y e
theorem call_dictP (hc : X.calm = true) : CallR X (.type "dict") (fun xs H Q => ∃ a ts kvs, xs = [.ref a] ∧ H a = some (.lst (ts.map V.ref)) ∧ Paired (fun t kv => SqT X.K H t [kV kv.1, kv.2]) ts kvs ∧ ∀ d, H d = none → Q (.ref d) (upd H d (.dK (fillK kvs [])))) := by
  intro pins s σ H xs us Q I r h
  obtain ⟨a, ts, kvs, rfl, e, p, q⟩ := h
  obtain ⟨u, rfl, rx⟩ := vals1 r
  cases (show u = Value.ref a from rx)
  obtain ⟨z, its, n, rv, ho⟩ := (show ObjOk X.prog X.w H s.heap a (.lst _) from I.hok a _ e)
  obtain ⟨vs, r1, r2⟩ := pairs_at I p rv
  have l1 := Paired.length r2
  have l2 := r1.length
  have l3 := Paired.length p
  rw [List.length_map] at z
  refine call_dict_list (mixKind X.prog X.w) (I.ok.hd hc) ho (by simpa using l1) (fun m kv em => ?_) (by omega) fun h' t' hd kk => ?_
  · obtain ⟨u, e1, e2⟩ := Paired.at_ r2 m kv em
    exact ⟨u, by simpa using e1, e2⟩
  · have new : ObjOk X.prog X.w (upd H s.heap.objs.size (.dK (fillK kvs []))) h' s.heap.objs.size (.dK (fillK kvs [])) := by
      refine dk_new ?_ ?_ (fill_rel r1 .nil) hd
      · have := fill_len kvs []
        simp at this
        omega
      · have := I.big
        exact beq_eq_false_iff_ne.mpr (Nat.ne_of_gt this)
    exact ⟨.ref s.heap.objs.size, _, I.laid (t' := t') kk (Nat.le_refl _) new, rfl, q _ (I.hok.fresh (Nat.le_refl _))⟩
theorem paired_of {α β : Type} {F : α → β → Prop} : ∀ {xs : List α} {ys : List β}, xs.length = ys.length → (∀ (j : Nat) x y, xs[j]? = some x → ys[j]? = some y → F x y) → Paired F xs ys
  | [], [], _, _ => .nil
  | [], _ :: _, e, _ => by cases e
  | _ :: _, [], e, _ => by cases e
  | x :: xs, y :: ys, e, h => .cons (h 0 x y rfl rfl) (paired_of (Nat.succ.inj e) fun j a b e1 e2 => h (j + 1) a b e1 e2)
theorem is_kV {P : Program} {w : World} {k : Key} {u : Value} (h : (mixKind P w).is k u = true) : RelV (kV k) u := by
  rcases keyIs_shape (show keyIs k u = true from h) with ⟨i, t, rfl, rfl⟩ | ⟨x, t, rfl, rfl⟩
  · exact ⟨t, rfl⟩
  · exact ⟨t, rfl⟩
theorem call_listD (hc : X.calm = true) : CallR X (.type "list") (fun xs H Q => ∃ a kvs, xs = [.ref a] ∧ H a = some (.dK kvs) ∧ ∀ D, H D = none → Q (.ref D) (upd H D (.lst (kvs.map fun p => kV p.1)))) := by
  intro pins s σ H xs us Q I r h
  obtain ⟨a, kvs, rfl, e, q⟩ := h
  obtain ⟨u, rfl, rx⟩ := vals1 r
  cases (show u = Value.ref a from rx)
  obtain ⟨z, hs, vs, rel, dd⟩ := dk_of I.hok e
  obtain ⟨o, es, ep, d1, d2, d3, d4⟩ := dd
  have l1 := rel.length
  refine PySem.W.kdl_call (PySem.W.kdl_dict (knd := mixKind X.prog X.w) (kvs := vs) (ep := ep) hs) (I.ok.hd hc) ⟨o, es, d1, d2, d3, d4⟩ (by omega) fun h' tk acc c kk hD hacc => ?_
  have keys := rel.keys
  have vals : Vals (kvs.map fun p => kV p.1) acc.toList := by
    refine paired_of (by have h1 := hacc.1; simp only [List.length_map, Array.length_toList]; omega) fun j x y e1 e2 => ?_
    rw [Array.getElem?_toList] at e2
    obtain ⟨k, v, e3, e4⟩ := hacc.2 j y e2
    rw [List.getElem?_map] at e1
    obtain ⟨p, e5, rfl⟩ := Option.map_eq_some_iff.mp e1
    have e6 : (kvs.map (·.1))[j]? = some p.1 := by rw [List.getElem?_map, e5]; rfl
    rw [keys, List.getElem?_map, e3] at e6
    cases e6
    exact is_kV e4
  have new : ObjOk X.prog X.w (upd H s.heap.objs.size (.lst (kvs.map fun p => kV p.1))) h' s.heap.objs.size (.lst (kvs.map fun p => kV p.1)) := ⟨by rw [List.length_map]; exact z, acc.toList, c, vals, by simpa using hD⟩
  exact ⟨.ref s.heap.objs.size, _, I.laid (t' := tk) kk (Nat.le_refl _) new, rfl, q _ (I.hok.fresh (Nat.le_refl _))⟩
end
end L2
namespace L2
open PySem PySem.Spec PyProof.Rows
def PlainV (v : V) : Prop := flatV v = true ∨ ∃ r, v = .ref r
theorem eqV_self {x : V} (h : flatV x = true) : eqV x x = true := by
  cases x with
  | non => rfl
  | bl b => exact beq_self_eq_true b
  | int i => exact beq_self_eq_true i
  | str z => exact beq_self_eq_true z
  | _ => cases h
theorem eq_at_self {A : Around} {s : Shared} {x : V} {u v : Value} (h : PlainV x) (ru : RelV x u) (rv : RelV x v) : SeqAt.EqAt A s u v true := by
  rcases h with h | ⟨r, rfl⟩
  · have q := eqAt_V (A := A) (s := s) ru rv h h
    rw [eqV_self h] at q
    exact q
  · cases (show u = Value.ref r from ru)
    cases (show v = Value.ref r from rv)
    exact .same _
theorem items_same {A : Around} {s : Shared} {xs : List V} {its its2 : List Value} (r : Vals xs its) (r2 : Vals xs its2) (hx : ∀ v ∈ xs, PlainV v) (j : Nat) (h1 : j < its.toArray.size) (h2 : j < its2.toArray.size) :
    SeqAt.EqAt A s its.toArray[j] its2.toArray[j] true := by
  have l1 := r.length
  have k1 : j < its.length := by simpa using h1
  have k2 : j < its2.length := by simpa using h2
  have g1 : xs[j]? = some (xs[j]'(by omega)) := List.getElem?_eq_getElem (by omega)
  obtain ⟨u1, e1, q1⟩ := r.get g1
  obtain ⟨u2, e2, q2⟩ := r2.get g1
  have f1 : its.toArray[j] = u1 := by
    have := (List.getElem?_eq_some_iff.mp e1).2
    simpa using this
  have f2 : its2.toArray[j] = u2 := by
    have := (List.getElem?_eq_some_iff.mp e2).2
    simpa using this
  rw [f1, f2]
  exact eq_at_self (hx _ (List.getElem_mem _)) q1 q2
def rSame (K : PySem.W.Frag) (b : Bool) : V → V → Hp → VK → Prop := fun x y H Q => ∃ p q xs, x = .ref p ∧ y = .ref q ∧ SqL K H p xs ∧ SqL K H q xs ∧ (∀ v ∈ xs, PlainV v) ∧ Q (.bl b) H
theorem op_eq_same {X : Cx} (hu : X.A.units < cLine) : OpR X (compareOp .Eq) (rSame X.K true) := by
  intro pins s σ H x y v u Q I rx ry h
  obtain ⟨a, b, xs, rfl, rfl, ha, hb, hx, q⟩ := h
  cases rx
  cases ry
  obtain ⟨its, r, pl, hz⟩ := I.list ha
  obtain ⟨its2, r2, pl2, hz2⟩ := I.list hb
  have l1 := r.length
  have l2 := r2.length
  refine SeqAt.eq_listAt (e := fun _ => true) pl.isList pl2.isList (by simp only [List.size_toArray]; omega) hu (fun j h1 h2 => items_same r r2 hx j h1 h2) ?_
  have e : ((List.range its.toArray.size).all fun _ => true) = true := by simp
  rw [e]
  exact ⟨.bl true, H, I, rfl, q⟩
theorem op_ne_same {X : Cx} (hu : X.A.units < cLine) : OpR X (compareOp .NotEq) (rSame X.K false) := by
  intro pins s σ H x y v u Q I rx ry h
  obtain ⟨a, b, xs, rfl, rfl, ha, hb, hx, q⟩ := h
  cases rx
  cases ry
  obtain ⟨its, r, pl, hz⟩ := I.list ha
  obtain ⟨its2, r2, pl2, hz2⟩ := I.list hb
  have l1 := r.length
  have l2 := r2.length
  refine SeqAt.RcNeAt.lists (e := fun _ => true) pl.isList pl2.isList (by simp only [List.size_toArray]; omega) hu (fun j h1 h2 => items_same r r2 hx j h1 h2) X.prog X.w X.xe _ ?_
  have e : (!(List.range its.toArray.size).all fun _ => true) = false := by simp
  rw [e]
  exact ⟨.bl false, H, I, rfl, q⟩
end L2
namespace L2
open PySem PySem.Spec PyProof.Rows
section
variable {K : PySem.W.Frag} {a D : Addr} {xs : List V} {ts : List Str} {js : List (Nat × Str)} {g : TG} {tif : TT} {te : TE} {R : Hp → Prop} {σ : St} {H : Hp}
theorem compG_list (Pv : Nat → List V → St → Hp → Prop) (h0 : Pv 0 [] (capS ts js σ) (upd H D (.lst []))) (hl : ∀ i ys σ H, i ≤ xs.length → Pv i ys σ H → SqL K H a xs)
    (hs : ∀ i x ys σ H, xs[i]? = some x → Pv i ys σ H → g x σ H fun σ2 H2 => tif σ2 H2 fun b H3 => if b = true then te σ2 H3 fun y H4 => H4 D = some (.lst ys) ∧ ys.length < sizeLine ∧ Pv (i + 1) (ys ++ [y]) σ2 (upd H4 D (.lst (ys ++ [y]))) else Pv (i + 1) ys σ2 H3)
    (hd : ∀ ys σ H, Pv xs.length ys σ H → R H) :
    ∃ W : Nat → Nat → List V → St → Hp → Prop, (∃ m, W 0 m [] (capS ts js σ) (upd H D (.lst []))) ∧
  ∀ i m ys σ' H, W i m ys σ' H → ((Itl K a).stop i H ∧ R H) ∨ ((Itl K a).go i H ∧ ∃ m', m' < m ∧ ∀ x H', (Itl K a).yld i H x H' → g x σ' H' fun σ2 H2 => tif σ2 H2 fun b H3 =>
    if b = true then te σ2 H3 fun y H4 => H4 D = some (.lst ys) ∧ ys.length < sizeLine ∧ W (i + 1) m' (ys ++ [y]) σ2 (upd H4 D (.lst (ys ++ [y]))) else W (i + 1) m' ys σ2 H3) := by
  refine ⟨fun i m ys σ H => m = xs.length - i ∧ i ≤ xs.length ∧ Pv i ys σ H, ⟨xs.length, by simp, Nat.zero_le _, h0⟩, ?_⟩
  rintro i m ys σ' H ⟨rfl, hi, p⟩
  have q := hl i ys σ' H hi p
  by_cases hlt : i < xs.length
  · refine .inr ⟨⟨xs, xs[i], q, by simp [hlt]⟩, xs.length - (i + 1), by omega, fun x H' y => ?_⟩
    obtain ⟨e, y⟩ := y
    subst e
    have z := hs i x ys σ' _ (y xs q) p
    have h1 : (i + 1 ≤ xs.length) = True := eq_true hlt
    simp only [h1, true_and]
    exact z
  · have e : i = xs.length := by omega
    subst e
    exact .inl ⟨⟨xs, q, Nat.le_refl _⟩, hd ys σ' H p⟩
end
theorem kit_self {K : PySem.W.Frag} {t : Value} : PySem.W.kitOne K t t = some true := by unfold PySem.W.kitOne; rw [if_pos (beq_self_eq_true t)]
def tCutS (t : TS) : TS := fun D σ H => ∃ R : St → Hp → Prop, t { D with nx := R } σ H ∧ ∀ σ' H', R σ' H' → D.nx σ' H'
theorem ps_cutS {X : Cx} {st : Stmt} {t : TS} (h : PS X st t) : PS X st (tCutS t) := by
  intro pins s σ H D I ⟨R, q, m⟩
  refine thn (h pins s σ H _ I q) fun f s1 z => ?_
  cases f with
  | next => obtain ⟨σ', H', I', r⟩ := z; exact ⟨σ', H', I', m _ _ r⟩
  | ret v => exact z
  | brk => exact z
  | cont => exact z
def CalleeD (P : Program) (w : World) (K : PySem.W.Frag) (mg : Str → Option Value) (base : Heap) (k : Nat) (x : Str) (ps : List Str) (sp : Sp) : Prop :=
  ∃ f fd, FnOk P w K mg base CX0 k f fd ps sp ∧ Binds K fd ps [] ∧ PySem.W.keepIn K (.ref f) = true ∧ mg x = some (.ref f)
theorem CalleeD.mono {P : Program} {w : World} {K : PySem.W.Frag} {mg : Str → Option Value} {base : Heap} {j k : Nat} {x : Str} {ps : List Str} {sp : Sp} (c : CalleeD P w K mg base j x ps sp) (h : j ≤ k) : CalleeD P w K mg base k x ps sp :=
  let ⟨f, fd, a, b⟩ := c; ⟨f, fd, a.mono h, b⟩
theorem pe_fn {X : Cx} {k : Nat} {x : Str} {ps : List Str} {sp : Sp} {e : Expr} {es : List Expr} {t : TA} {p pos : Pos} (c : CalleeD X.prog X.w X.K X.mg X.base k x ps sp) (hr : Room k X.A) (hg : Gl X x) (ha : PA X (e :: es) t)
    (hdb : (x == ("__debug__" : Str)) = false := by decide) (he : starEach (e :: es) X.env = (false, eval e X.env) :: starEach es X.env := by rfl) (hpl : (backTo pos (starEach es X.env)).any (·.1) = false := by rfl) :
    PE X (.Call (.Name x p) (e :: es) [] pos) (tCall sp [] E0 t) := by
  obtain ⟨f, fd, G, b, kp, m⟩ := c
  exact pe_call G hr hg m kp b .nil pass0 ha hdb he hpl
theorem fits {n : Nat} (h : n ≤ 1000000) : n ≤ sizeLine := Nat.le_trans h (by decide)
theorem fits' {n : Nat} (h : n ≤ 1000000) : n < sizeLine := Nat.lt_of_le_of_lt h (by decide)
theorem same_laid {H : Hp} {p : Addr} (h : H p = none) (o : HO) : Same H (upd H p o) := fun b u q => by rw [upd_ne (ne_of_none q h)]; exact q
theorem Same.tup {K : PySem.W.Frag} {H H' : Hp} {a : Addr} {xs : List V} (e : Same H H') (h : SqT K H a xs) : SqT K H' a xs := by
  rcases h with (h | ⟨o, h⟩) | h
  · exact .inl (.inl (e _ _ h))
  · exact .inl (.inr ⟨o, e _ _ h⟩)
  · exact .inr h
end L2
namespace L2
open PySem PySem.Spec PyProof.Rows
theorem call_allB {X : Cx} (hc : X.calm = true) : CallR X (.builtin "all") (fun xs H Q => ∃ (a : Addr) (bs : List Bool), xs = [.ref a] ∧ SqL X.K H a (bs.map V.bl) ∧ Q (.bl (bs.all id)) H) := by
  intro pins s σ H xs us Q I r h
  obtain ⟨a, bs, rfl, hq, q⟩ := h
  obtain ⟨u, rfl, rx⟩ := vals1 r
  cases (show u = Value.ref a from rx)
  obtain ⟨its, rv, pl, hz⟩ := I.list hq
  obtain ⟨o, h1, h2, m, h3⟩ := id pl.isList
  have la : a < s.heap.objs.size := Heap.lt_size h1
  have ln := rv.length
  rw [List.length_map] at ln
  have isB : ∀ (i : Nat) v, its.toArray[i]? = some v → v = .bool (bs.getD i true) := fun i v e => by
    have e' : its[i]? = some v := by simpa using e
    obtain ⟨x, e2, e3⟩ := Paired.at_ rv i v e'
    rw [List.getElem?_map] at e2
    obtain ⟨b, e4, rfl⟩ := Option.map_eq_some_iff.mp e2
    rw [List.getD_eq_getElem?_getD, e4]
    exact e3
  refine call_all_walk (wpAny_pyIter_list pl.isList ?_)
  refine ⟨s.heap.objs.size, _, _, _, _, _, fun i => bs.getD i true, rfl, Walks.list (A := X.A.in1) (show X.A.in1.handled = none from I.ok.hd hc) s.heap.objs.size a (Nat.ne_of_lt la) its.toArray, ⟨⟨_, Heap.get?_push_size _ rfl, rfl, rfl⟩, ⟨o, Heap.get?_push_of_some _ h1, h2, m, h3⟩⟩, ?_, fun h' tk kk => ?_⟩
  · intro i v s1 Q1 E1 hP hQ1
    rw [isB i v hP]
    exact wpAny_truthy_bool hQ1
  · have e : ((List.range its.toArray.size).all fun i => bs.getD i true) = bs.all id := by
      rw [List.size_toArray, ← ln, Bool.eq_iff_iff, List.all_eq_true, List.all_eq_true]
      constructor
      · intro h b hb
        obtain ⟨i, hi, e⟩ := List.mem_iff_getElem.mp hb
        have := h i (List.mem_range.mpr hi)
        rw [List.getD_eq_getElem?_getD, List.getElem?_eq_getElem hi, e] at this
        exact this
      · intro h i hi
        have hi' := List.mem_range.mp hi
        rw [List.getD_eq_getElem?_getD, List.getElem?_eq_getElem hi']
        exact h _ (List.getElem_mem hi')
    rw [e]
    exact ⟨.bl _, H, I.kept (t' := tk) fun b o' e' => kk b o' (by simp; exact Nat.ne_of_lt (Heap.lt_size e')) (Heap.get?_push_of_some _ e'), rfl, q⟩
section
variable {prog : Program} {w : World} {A : Around} {E : Value → Shared → Prop} {s : Shared}
theorem nextOf_tup {it l : Addr} {i : Nat} {items : Array Value} {x : Value} {Q : Value → Shared → Prop} (hit : s.heap.IsTupleIter it l i) (hl : s.heap.IsTuple l items) (hx : items[i]? = some x)
    (hQ : ∀ h', h'.IsTupleIter it l (i + 1) → Heap.SameBut it s.heap h' → Q x { s with heap := h' }) : wpAny (model prog w) A (Builtin.SmallTypes.nextOf (.ref it)) Q E s := by
  obtain ⟨o, ho, hc, hd⟩ := id hit
  obtain ⟨ol, hol, _, nl, hdl⟩ := hl
  unfold Builtin.SmallTypes.nextOf
  refine wpAny_bind (wpAny_callSpecial?_slot (name := Str.ofString "__next__") hit.typeIs F.slot_tuple_iterator_next (wpAny_call_entry F.slot_tuple_iterator_next hit.typeIs F.entry_tuple_iterator_next ?_ (F.args_tuple_iterator_next_1 _)))
  show wpAny _ _ (field (.ref it) 0 >>= fun v => _) _ _ s
  refine wpAny_bind (wpAny_field ho hd (x := .ref l) (by rfl) ?_)
  show wpAny _ _ (if (Value.ref l == .none) = true then _ else _) _ _ s
  rw [if_neg (by exact Bool.false_ne_true)]
  show wpAny _ _ (field (.ref it) 1 >>= fun v => _) _ _ s
  refine wpAny_bind (wpAny_field ho hd (x := .int i 0) (by rfl) ?_)
  show wpAny _ _ (seqItems? (.ref l) >>= fun v => _) _ _ s
  refine wpAny_bind (wpAny_seqItems hol hdl (by
    simp only [Int.toNat_natCast, hx]
    refine wpAny_bind (wpAny_setField ho hd (by simp) (wpAny_pure ⟨x, rfl, wpAny_pure (hQ _ ⟨_, Heap.get?_update_self _ ho (Obj.isFreed_of_fields (Obj.data_mapFields hd _)), (Obj.cls_mapFields ..).trans hc, ?_⟩ (Heap.SameBut.update ..))⟩))
    rw [Obj.data_mapFields hd]
    simp [rawInt]))
theorem enumT_item {e it l : Addr} {i : Nat} {items : Array Value} {x old : Value} {Q : Option Value → Shared → Prop} (he : IsEnum s.heap e it i old) (hit : s.heap.IsTupleIter it l i) (hl : s.heap.IsTuple l items) (hx : items[i]? = some x) (hne : e ≠ it)
    (hQ : ∀ h', IsEnumOut h' e it ((i : Int) + 1) x s.heap.objs.size → h'.IsTupleIter it l (i + 1) → h'.get? s.heap.objs.size = some { cls := .type "tuple", data := .seq #[.int i s.toks, x] } →
      (∀ b o, b ≠ e → b ≠ it → s.heap.get? b = some o → h'.get? b = some o) → Q (some (.ref s.heap.objs.size)) { s with heap := h', toks := s.toks + 1 }) :
    wpAny (model prog w) A (pyNext (.ref e)) Q E s := by
  have hT : s.TypeIs (.ref e) "enumerate" := ⟨_, he, rfl⟩
  unfold pyNext
  refine wpAny_bind (wpAny_attempt (wpAny_callSpecial?_slot (name := Str.ofString "__next__") hT F.slot_enumerate_next (wpAny_call_entry F.slot_enumerate_next hT F.entry_enumerate_next ?_ (F.args_enumerate_next_1 _))))
  obtain ⟨hp, g, d, tk, os⟩ := s
  show wpAny _ _ (field (.ref e) 2 >>= fun v => _) _ _ _
  refine wpAny_bind (wpAny_field he rfl (x := .ref it) (by rfl) (wpAny_bind (nextOf_tup hit hl hx fun h₁ hit₁ hs₁ => ?_)))
  replace hs₁ : Heap.SameBut it hp h₁ := hs₁
  have he₁ : IsEnum h₁ e it i old := (hs₁.2 e hne).trans he
  show wpAny _ _ (field (.ref e) 3 >>= fun v => _) _ _ ⟨h₁, g, d, tk, os⟩
  refine wpAny_bind (wpAny_field he₁ rfl (x := rawInt i) (by rfl) ?_)
  show wpAny _ _ (field (.ref e) 4 >>= fun v => _) _ _ ⟨h₁, g, d, tk, os⟩
  refine wpAny_bind (wpAny_field he₁ rfl (x := .none) (by rfl) ?_)
  show wpAny _ _ (mkInt i >>= fun v => _) _ _ ⟨h₁, g, d, tk, os⟩
  refine wpAny_bind (wpAny_mkInt ?_)
  show wpAny _ _ (setField (.ref e) 3 (rawInt ((i : Int) + 1)) >>= fun v => _) _ _ ⟨h₁, g, d, tk + 1, os⟩
  refine wpAny_bind (wpAny_setField_rec he₁ (by simp) fun h₂ f₂ hs₂ => ?_)
  have he₂ : IsEnum h₂ e it ((i : Int) + 1) old := f₂
  have k₂ : Heap.SameBut e h₁ h₂ := hs₂
  show wpAny _ _ (setField (.ref e) 4 .none >>= fun v => _) _ _ ⟨h₂, g, d, tk + 1, os⟩
  refine wpAny_bind (wpAny_setField_rec he₂ (by simp) fun h₃ f₃ hs₃ => ?_)
  have he₃ : IsEnum h₃ e it ((i : Int) + 1) old := f₃
  have k₃ : Heap.SameBut e h₂ h₃ := hs₃
  show wpAny _ _ (newTuple [.int i tk, x] >>= fun v => _) _ _ ⟨h₃, g, d, tk + 1, os⟩
  refine wpAny_bind (wpAny_newTuple ?_)
  have he₄ : IsEnum (h₃.push { cls := .type "tuple", data := .seq #[.int i tk, x] }) e it ((i : Int) + 1) old := Heap.get?_push_of_some _ he₃
  have hsz : h₃.objs.size = hp.objs.size := by rw [k₃.1, k₂.1, hs₁.1]
  have hel : e < hp.objs.size := Heap.lt_size he
  have ht₄ : (h₃.push { cls := .type "tuple", data := .seq #[.int i tk, x] }).get? hp.objs.size = some { cls := .type "tuple", data := .seq #[.int i tk, x] } := by rw [← hsz]; exact Heap.get?_push_size _ rfl
  have hk₄ : ∀ b o, b ≠ e → b ≠ it → hp.get? b = some o → (h₃.push { cls := .type "tuple", data := .seq #[.int i tk, x] }).get? b = some o := fun b o n1 n2 hb => Heap.get?_push_of_some _ (k₃.extBut b o n1 (k₂.extBut b o n1 (hs₁.extBut b o n2 hb)))
  have hit₄ : (h₃.push { cls := .type "tuple", data := .seq #[.int i tk, x] }).IsTupleIter it l (i + 1) := hit₁.at fun o q => Heap.get?_push_of_some _ (k₃.extBut it o (Ne.symm hne) (k₂.extBut it o (Ne.symm hne) q))
  generalize h₃.push { cls := .type "tuple", data := .seq #[.int i tk, x] } = h₄ at he₄ ht₄ hk₄ hit₄ ⊢
  rw [hsz]
  show wpAny _ _ (Builtin.SmallTypes.ownedTupleIsFree (.ref e) >>= fun v => _) _ _ ⟨h₄, g, d, tk + 1, os⟩
  refine wpAny_bind (by
    unfold Builtin.SmallTypes.ownedTupleIsFree
    refine wpAny_bind (wpAny_field he₄ rfl (x := .none) (by rfl) (wpAny_pure (by
      simp only [if_true]
      refine wpAny_bind (wpAny_rule (wpAny_bind (wpAny_field he₄ rfl (x := old) (by rfl) (wpAny_bind (wpAny_setField_rec he₄ (by simp) fun h₅ f₅ hs₅ => ?_)))))
      have he₅ : IsEnum h₅ e it ((i : Int) + 1) x := f₅
      have k₅ : Heap.SameBut e h₄ h₅ := hs₅
      show wpAny _ _ (Builtin.SmallTypes.ownedTupleHandOut (.ref e) (.ref hp.objs.size) >>= fun v => _) _ _ ⟨h₅, g, d, tk + 1, os⟩
      refine wpAny_bind (by
        unfold Builtin.SmallTypes.ownedTupleHandOut
        refine wpAny_bind (wpAny_setField_rec he₅ (by simp) fun h₆ f₆ hs₆ => ?_)
        have he₆ : IsEnumOut h₆ e it ((i : Int) + 1) x hp.objs.size := f₆
        have k₆ : Heap.SameBut e h₅ h₆ := hs₆
        refine wpAny_setField_rec he₆ (by simp) fun h₇ f₇ hs₇ => ?_
        have he₇ : IsEnumOut h₇ e it ((i : Int) + 1) x hp.objs.size := f₇
        have k₇ : Heap.SameBut e h₆ h₇ := hs₇
        have up : ∀ b o, b ≠ e → h₄.get? b = some o → h₇.get? b = some o := fun b o n q => k₇.extBut b o n (k₆.extBut b o n (k₅.extBut b o n q))
        exact wpAny_bind (wpAny_letGo (wpAny_pure ⟨_, rfl, wpAny_pure (hQ h₇ he₇ (hit₄.at fun o q => up it o (Ne.symm hne) q) (up _ _ (Nat.ne_of_gt hel) ht₄) fun b o n1 n2 q => up b o n1 (hk₄ b o n1 n2 q))⟩)))))))
theorem nextOf_tup_end {it l : Addr} {i : Nat} {items : Array Value} {Q : Value → Shared → Prop} (hh : A.handled = none) (hit : s.heap.IsTupleIter it l i) (hl : s.heap.IsTuple l items) (hx : items[i]? = none)
    (hE : ∀ h' e, Heap.ExtBut it s.heap h' → (∃ o, h'.get? e = some o ∧ o.cls = .type "StopIteration") → E (.ref e) { s with heap := h' }) : wpAny (model prog w) A (Builtin.SmallTypes.nextOf (.ref it)) Q E s := by
  obtain ⟨o, ho, hc, hd⟩ := id hit
  obtain ⟨ol, hol, _, nl, hdl⟩ := hl
  unfold Builtin.SmallTypes.nextOf
  refine wpAny_bind (wpAny_callSpecial?_slot (name := Str.ofString "__next__") hit.typeIs F.slot_tuple_iterator_next (wpAny_call_entry F.slot_tuple_iterator_next hit.typeIs F.entry_tuple_iterator_next ?_ (F.args_tuple_iterator_next_1 _)))
  show wpAny _ _ (field (.ref it) 0 >>= fun v => _) _ _ s
  refine wpAny_bind (wpAny_field ho hd (x := .ref l) (by rfl) ?_)
  show wpAny _ _ (if (Value.ref l == .none) = true then _ else _) _ _ s
  rw [if_neg (by exact Bool.false_ne_true)]
  show wpAny _ _ (field (.ref it) 1 >>= fun v => _) _ _ s
  refine wpAny_bind (wpAny_field ho hd (x := .int i 0) (by rfl) ?_)
  show wpAny _ _ (seqItems? (.ref l) >>= fun v => _) _ _ s
  refine wpAny_bind (wpAny_seqItems hol hdl ?_); simp only [Int.toNat_natCast, hx]
  refine wpAny_bind (wpAny_rule (wpAny_bind (wpAny_setField ho hd (by simp) (wpAny_bind ?_)))); simp only [newExc, newTuple]
  refine wpAny_bind (wpAny_newObj_type ?_ (by size_fits)); refine wpAny_bind (m := firstArgMember _ _) (wpAny_of_eq (a := Value.none) (by first | rfl | (simp only [firstArgMember]; rfl)) ?_)
  refine wpAny_newObj_type ?_ (by size_fits); simp only [raiseNew]; refine wpAny_bind (wpAny_handled ?_)
  first | rw [show A.in1.handled = none from hh] | rw [hh]
  refine wpAny_bind (wpAny_pure (wpAny_throw (hE _ _ (((Heap.SameBut.update ..).extBut.push _).push _) ⟨_, Heap.get?_push_size _ rfl, rfl⟩)))
theorem enumT_end {e it l : Addr} {i : Nat} {items : Array Value} {old : Value} {Q : Option Value → Shared → Prop} (hh : A.handled = none) (he : IsEnum s.heap e it i old) (hit : s.heap.IsTupleIter it l i) (hl : s.heap.IsTuple l items) (hx : items[i]? = none)
    (hQ : ∀ h', Heap.ExtBut it s.heap h' → Q none { s with heap := h' }) : wpAny (model prog w) A (pyNext (.ref e)) Q E s := by
  have hT : s.TypeIs (.ref e) "enumerate" := ⟨_, he, rfl⟩
  unfold pyNext
  refine wpAny_bind (wpAny_attempt (wpAny_callSpecial?_slot (name := Str.ofString "__next__") hT F.slot_enumerate_next (wpAny_call_entry F.slot_enumerate_next hT F.entry_enumerate_next ?_ (F.args_enumerate_next_1 _))))
  show wpAny _ _ (field (.ref e) 2 >>= fun v => _) _ _ _
  refine wpAny_bind (wpAny_field he rfl (x := .ref it) (by rfl) (wpAny_bind (nextOf_tup_end hh hit hl hx fun h' x he' hx' => ?_)))
  obtain ⟨o, ho, hc⟩ := hx'
  exact wpAny_bind (wpAny_isInstance (T := "StopIteration") (b := true) ⟨o, ho, hc⟩ isSubtype_stop (wpAny_pure (hQ _ he')))
end
end L2
namespace L2
open PySem PySem.Spec PyProof.Rows
open AutoSeq1 (wpAny_loadPart')
theorem meets_enumT (l : Addr) (items : Array Value) (n : Nat) (dct : Option Addr) (sl : Array (Option Value)) :
    Meets (Builtin.«enumerate.__new__» ⟨[.type "enumerate", .ref l], []⟩) (fun _ R s => s.heap.get? l = some { cls := .type "tuple", dict := dct, data := .seq items n, slots := sl } ∧
      R (.ok (.ret (.ref (s.heap.push { cls := .type "tuple_iterator", data := .fields #[.ref l, .int 0 0] }).objs.size)))
        { s with heap := (s.heap.push { cls := .type "tuple_iterator", data := .fields #[.ref l, .int 0 0] }).push { cls := .type "enumerate", data := .fields #[.none, .bool false, .ref s.heap.objs.size, rawInt 0, .none, .none] } }) :=
  .of_wp fun prog w A R s h => by
    obtain ⟨hp, g, d, tk, os⟩ := s; obtain ⟨hl, h⟩ := h
    have hsub := sub_enumerate
    have hT : Heap.IsTuple (Shared.heap ⟨hp, g, d, tk, os⟩) l items := ⟨_, hl, rfl, n, rfl⟩
    wp_walk using wpAny_loadPart' hl
    refine wpAny_stack_any fun st => wpAny_pure ?_; split
    · rename_i c _ _ _ _ _
      cases (c == Value.type "enumerate")
      · wp_walk using wpAny_loadPart' hl, wpAny_pyIter_tuple hT; exact ⟨_, rfl, h⟩
      · wp_walk using wpAny_loadPart' hl, wpAny_pyIter_tuple hT; exact ⟨_, rfl, h⟩
    · wp_walk using wpAny_loadPart' hl, wpAny_pyIter_tuple hT; exact ⟨_, rfl, h⟩
section
variable {prog : Program} {w : World} {A : Around} {E : Value → Shared → Prop} {s : Shared}
theorem call_enumT {l : Addr} {items : Array Value} {Q : Value → Shared → Prop} (hL : s.heap.IsTuple l items)
    (h : ∀ h', IsEnum h' (s.heap.objs.size + 1) s.heap.objs.size 0 .none → h'.IsTupleIter s.heap.objs.size l 0 → (∀ b o, s.heap.get? b = some o → h'.get? b = some o) → Q (.ref (s.heap.objs.size + 1)) { s with heap := h' }) :
    wpAny (model prog w) A (call (.type "enumerate") [.ref l]) Q E s := by
  obtain ⟨⟨c, dct, dt, sl⟩, hl, hc, n, hd⟩ := hL
  replace hc : c = .type "tuple" := hc
  replace hd : dt = .seq items n := hd
  subst hc hd
  refine callType_new F.called_enumerate (by decide) (F.typeCall_enumerate_1 _) (F.newCall_enumerate_1 _) (fun obj => F.args_object_init_2 obj _) F.entry_enumerate_new (meets_enumT l items n dct sl) ⟨hl, ?_⟩
  have hz : (s.heap.push { cls := .type "tuple_iterator", data := .fields #[.ref l, .int 0 0] }).objs.size = s.heap.objs.size + 1 := Heap.size_push ..
  show _ ∧ _
  rw [hz]
  have he : IsEnum ((s.heap.push { cls := .type "tuple_iterator", data := .fields #[.ref l, .int 0 0] }).push { cls := .type "enumerate", data := .fields #[.none, .bool false, .ref s.heap.objs.size, rawInt 0, .none, .none] }) (s.heap.objs.size + 1) s.heap.objs.size 0 .none := by
    have := Heap.get?_push_size (s.heap.push { cls := .type "tuple_iterator", data := .fields #[.ref l, .int 0 0] }) (o := { cls := .type "enumerate", data := .fields #[.none, .bool false, .ref s.heap.objs.size, rawInt 0, .none, .none] }) rfl
    rw [hz] at this; exact this
  exact ⟨⟨_, he, rfl⟩, h _ he ⟨_, Heap.get?_push_of_some _ (Heap.get?_push_size _ rfl), rfl, rfl⟩ fun b o x => Heap.get?_push_of_some _ (Heap.get?_push_of_some _ x)⟩
end
def Itet (K : PySem.W.Frag) (a : Addr) : It :=
  ⟨fun i H => ∃ xs x, SqT K H a xs ∧ xs[i]? = some x, fun i H x H' => ∃ t y, x = .ref t ∧ H t = none ∧ H' = upd H t (.tup [.int (i : Int), y]) ∧ ∀ xs, SqT K H a xs → xs[i]? = some y, fun i H => ∃ xs, SqT K H a xs ∧ xs.length ≤ i⟩
theorem turn_enumT {P : Program} {w : World} {K : PySem.W.Frag} {elts : List Expr} {k : Nat} {tpos : Pos} (a e it : Addr) (hei : e ≠ it) :
    Turn P w K (.Tuple elts k tpos) (Itet K a) [e, it] e (fun i h => (∃ old, IsEnum h e it i old) ∧ h.IsTupleIter it a i) where
  mem := by simp
  obj := fun i h st b hb => by
    obtain ⟨⟨old, he⟩, o, e1, c, d⟩ := st
    rcases List.mem_cons.mp hb with rfl | hb
    · exact ⟨_, he, fun v z => by cases z⟩
    · obtain rfl : b = it := by simpa using hb
      exact ⟨o, e1, fun v z => by rw [d] at z; cases z⟩
  keep := fun i h h' st k => ⟨⟨st.1.choose, k e (by simp) _ st.1.choose_spec⟩, st.2.at fun o q => k it (by simp) o q⟩
  item := by
    intro X hP hw hK hc i pins s σ H E I hf st hg
    subst hP hw hK
    obtain ⟨xs, x, hq, hx⟩ := hg
    obtain ⟨its, rv, p, hz⟩ := I.tuple hq
    obtain ⟨u, hu, ru⟩ := rv.get hx
    obtain ⟨⟨old, he⟩, hit⟩ := st
    refine enumT_item he hit (show s.heap.IsTuple a its.toArray from p) (x := u) (by simpa using hu) hei fun h1 ho hit1 hT hk => ?_
    refine ⟨_, rfl, wpAny_letOwnedTupleGo_enum ho fun h2 he2 sb => ?_⟩
    have ne : s.heap.objs.size ≠ e := Nat.ne_of_gt (Heap.lt_size he)
    have kk : ∀ b o, b ≠ e → b ≠ it → s.heap.get? b = some o → h2.get? b = some o := fun b o n1 n2 q => (sb.2 b n1).trans (hk b o n1 n2 q)
    have T2 : h2.get? s.heap.objs.size = some { cls := .type "tuple", data := .seq #[.int i s.toks, u] } := (sb.2 _ ne).trans hT
    have fe := hf e (by simp)
    have fi := hf it (by simp)
    have fT : H s.heap.objs.size = none := I.hok.fresh (Nat.le_refl _)
    have tr : ∀ b v, H b = some v → b ≠ e ∧ b ≠ it := fun b v q => ⟨fun z => (by rw [z, fe.1] at q; cases q), fun z => (by rw [z, fi.1] at q; cases q)⟩
    have nc : ∀ b, b ∉ [e, it] → b ≠ e ∧ b ≠ it := fun b z => ⟨fun q => z (by simp [q]), fun q => z (by simp [q])⟩
    have lt : ∀ b o, s.heap.get? b = some o → b ≠ s.heap.objs.size := fun b o q => Nat.ne_of_lt (Heap.lt_size q)
    have I2 : Inv X pins σ (upd H s.heap.objs.size (.tup [.int (i : Int), x])) { s with heap := h2, toks := s.toks + 1 } := by
      refine I.call (g' := s.gens) (t' := s.toks + 1) (d' := s.drawn) (ch := [e, it]) ⟨fun b o q _ _ c => kk b o (nc b c).1 (nc b c).2 q, fun b o q _ _ c => ⟨o.slots, kk b o (nc b c).1 (nc b c).2 q⟩,
        fun b o q n _ => by rw [upd_ne (lt b o q)]; exact n, fun b o q c => ⟨o, kk b o (nc b c).1 (nc b c).2 q⟩, fun b ys q => by rw [upd_ne (ne_of_none q fT)]; exact q, fun b o v q => by rw [upd_ne (ne_of_none q fT)]; exact q,
        fun b ps q => ⟨#[], by rw [upd_ne (ne_of_none q fT), q]; simp⟩⟩ (fun b v q => ?_) I.bare (fun b hb => ?_)
      · by_cases hb : b = s.heap.objs.size
        · subst hb
          rw [upd_same] at q
          cases q
          exact ⟨by show 2 ≤ sizeLine; decide, [.int i s.toks, u], .cons ⟨_, rfl⟩ (.cons ru .nil), _, T2, rfl, _, rfl⟩
        · rw [upd_ne hb] at q
          refine (I.hok b v q).stay (fun c o hc' z => ?_) (fun c q' => by rw [upd_ne (ne_of_none q' fT)]; exact q') fun c ys q' => by rw [upd_ne (ne_of_none q' fT)]; exact q'
          rcases hc' with rfl | hc'
          · exact kk c o (tr c _ q).1 (tr c _ q).2 z
          · exact kk c o (tr c _ hc').1 (tr c _ hc').2 z
      · rcases List.mem_cons.mp hb with rfl | hb
        · exact ⟨fe.2.2.2.1, fe.2.1, fe.2.2.2.2.1, fe.2.2.2.2.2⟩
        · obtain rfl : b = it := by simpa using hb
          exact ⟨fi.2.2.2.1, fi.2.1, fi.2.2.2.2.1, fi.2.2.2.2.2⟩
    refine ⟨.ref s.heap.objs.size, _, I2, rfl, ⟨_, x, rfl, fT, rfl, fun ys hy => by rw [I.tuple_inj hy hq]; exact hx⟩, ⟨⟨_, he2⟩, hit1.at fun o q => (sb.2 it hei.symm).trans q⟩, fun b hb => ?_⟩
    have hb' : H b = none ∧ ∃ o, s.heap.get? b = some o := by
      rcases List.mem_cons.mp hb with rfl | hb
      · exact ⟨fe.1, _, he⟩
      · obtain rfl : b = it := by simpa using hb
        obtain ⟨o, q, _⟩ := hit
        exact ⟨fi.1, o, q⟩
    obtain ⟨n, o, q⟩ := hb'
    rw [upd_ne (lt b o q)]
    exact n
  done := by
    intro X hP hw hK hc i pins s σ H E I hf st hg
    subst hP hw hK
    obtain ⟨xs, hq, hx⟩ := hg
    obtain ⟨its, rv, p, hz⟩ := I.tuple hq
    obtain ⟨⟨old, he⟩, hit⟩ := st
    obtain ⟨f0, f1, f2, f3, f4, f5⟩ := hf it (by simp)
    have hl := rv.length
    exact enumT_end (I.ok.hd hc) he hit (show s.heap.IsTuple a its.toArray from p) (by simp; omega) fun h' eb => ⟨rfl, I.turned (t' := s.toks) (fun b o hb e => eb b o hb e) f0 f1 f3 f4 f5⟩
  self := fun _ _ _ _ _ st h => wpAny_pyIter_enum st.1.choose_spec h
def iEnumT (K : PySem.W.Frag) (ta : TA) : TI := fun σ H R => ta σ H fun vs H1 => ∃ a xs, vs = [.ref a] ∧ SqT K H1 a xs ∧ R (Itet K a) H1
theorem pi_enumT {X : Cx} {elts : List Expr} {k : Nat} {tpos : Pos} {l : Expr} {ta : TA} {p pos : Pos} (hg : Gl X "enumerate") (hm : X.mg "enumerate" = none) (ha : PA X [l] ta) (hs : starEach [l] X.env = [(false, eval l X.env)] := by rfl) :
    PI X (.Tuple elts k tpos) (.Call (.Name "enumerate" p) [l] [] pos) (iEnumT X.K ta) := by
  intro pins s σ H R I h
  refine Call_ (ld_blt I hg hm boot_enum (PyProof.Rows.callWith_type1 (thn (ha pos pins s σ H _ I h) fun us s1 ⟨vs, H1, I1, r1, q1⟩ => ?_) hs rfl))
  obtain ⟨a, xs, e, hq, q⟩ := q1
  subst e
  obtain ⟨u, rfl, rx⟩ := r1.one
  cases rx
  obtain ⟨its, rv, pl, hz⟩ := I1.tuple hq
  refine call_enumT (show s1.heap.IsTuple a its.toArray from pl) fun h1 he hit hk => wpAny_pyIter_enum he ?_
  refine ⟨s1.heap.objs.size + 1, [s1.heap.objs.size + 1, s1.heap.objs.size], _, _, H1, rfl, I1.kept (t' := s1.toks) fun b o e => hk b o e, turn_enumT a _ _ (Nat.ne_of_gt (Nat.lt_succ_self _)), ⟨⟨_, he⟩, hit⟩, fun b hb => ?_, q⟩
  rcases List.mem_cons.mp hb with rfl | hb
  · exact I1.fpOk (Nat.le_succ _) (I1.hok.fresh (Nat.le_succ _))
  · obtain rfl : b = s1.heap.objs.size := by simpa using hb
    exact I1.fpOk (Nat.le_refl _) (I1.hok.fresh (Nat.le_refl _))
end L2
namespace L2
open PySem
section
variable {K : PySem.W.Frag} {a D : Addr} {xs : List V} {ts : List Str} {js : List (Nat × Str)} {g : TG} {tif : TT} {te : TE} {R : Hp → Prop} {σ : St} {H : Hp}
theorem compG_tup (Pv : Nat → List V → St → Hp → Prop) (h0 : Pv 0 [] (capS ts js σ) (upd H D (.lst []))) (hl : ∀ i ys σ H, i ≤ xs.length → Pv i ys σ H → SqT K H a xs)
    (hs : ∀ i x ys σ H, xs[i]? = some x → Pv i ys σ H → g x σ H fun σ2 H2 => tif σ2 H2 fun b H3 => if b = true then te σ2 H3 fun y H4 => H4 D = some (.lst ys) ∧ ys.length < sizeLine ∧ Pv (i + 1) (ys ++ [y]) σ2 (upd H4 D (.lst (ys ++ [y]))) else Pv (i + 1) ys σ2 H3)
    (hd : ∀ ys σ H, Pv xs.length ys σ H → R H) :
    ∃ W : Nat → Nat → List V → St → Hp → Prop, (∃ m, W 0 m [] (capS ts js σ) (upd H D (.lst []))) ∧
  ∀ i m ys σ' H, W i m ys σ' H → ((Itt K a).stop i H ∧ R H) ∨ ((Itt K a).go i H ∧ ∃ m', m' < m ∧ ∀ x H', (Itt K a).yld i H x H' → g x σ' H' fun σ2 H2 => tif σ2 H2 fun b H3 =>
    if b = true then te σ2 H3 fun y H4 => H4 D = some (.lst ys) ∧ ys.length < sizeLine ∧ W (i + 1) m' (ys ++ [y]) σ2 (upd H4 D (.lst (ys ++ [y]))) else W (i + 1) m' ys σ2 H3) := by
  refine ⟨fun i m ys σ H => m = xs.length - i ∧ i ≤ xs.length ∧ Pv i ys σ H, ⟨xs.length, by simp, Nat.zero_le _, h0⟩, ?_⟩
  rintro i m ys σ' H ⟨rfl, hi, p⟩
  have q := hl i ys σ' H hi p
  by_cases hlt : i < xs.length
  · refine .inr ⟨⟨xs, xs[i], q, by simp [hlt]⟩, xs.length - (i + 1), by omega, fun x H' y => ?_⟩
    obtain ⟨e, y⟩ := y
    subst e
    have z := hs i x ys σ' _ (y xs q) p
    have h1 : (i + 1 ≤ xs.length) = True := eq_true hlt
    simp only [h1, true_and]
    exact z
  · have e : i = xs.length := by omega
    subst e
    exact .inl ⟨⟨xs, q, Nat.le_refl _⟩, hd ys σ' H p⟩
end
theorem for_enum {K : PySem.W.Frag} {a : Addr} {xs : List V} {g : TG} {tb : TS} {D : Ends} {σ : St} {H : Hp} (Pv : Nat → St → Hp → Prop) (h0 : Pv 0 σ H) (hl : ∀ i σ H, i ≤ xs.length → Pv i σ H → SqL K H a xs)
    (hs : ∀ i x σ H t, xs[i]? = some x → Pv i σ H → H t = none → g (.ref t) σ (upd H t (.tup [.int (i : Int), x])) fun σ2 H2 => tb { D with nx := Pv (i + 1), ct := Pv (i + 1), bk := D.nx } σ2 H2) (hd : ∀ σ H, Pv xs.length σ H → D.nx σ H) :
    ∃ W : Nat → Nat → St → Hp → Prop, (∃ m, W 0 m σ H) ∧ ∀ i m σ H, W i m σ H →
      ((Ite K a).stop i H ∧ D.nx σ H) ∨ ((Ite K a).go i H ∧ ∃ N : St → Hp → Prop, (∀ σ' H', N σ' H' → ∃ m', m' < m ∧ W (i + 1) m' σ' H') ∧ ∀ x H', (Ite K a).yld i H x H' → g x σ H' fun σ2 H2 => tb { D with nx := N, ct := N, bk := D.nx } σ2 H2) := by
  refine ⟨fun i m σ H => m = xs.length - i ∧ i ≤ xs.length ∧ Pv i σ H, ⟨xs.length, by simp, Nat.zero_le _, h0⟩, ?_⟩
  rintro i m σ H ⟨rfl, hi, p⟩
  have q := hl i σ H hi p
  by_cases hlt : i < xs.length
  · refine .inr ⟨⟨xs, xs[i], q, by simp [hlt]⟩, Pv (i + 1), fun σ' H' p' => ⟨xs.length - (i + 1), by omega, rfl, hlt, p'⟩, fun x H' y => ?_⟩
    obtain ⟨t, y0, rfl, ht, rfl, y⟩ := y
    exact hs i y0 σ _ t (y xs q) p ht
  · have e : i = xs.length := by omega
    subst e
    exact .inl ⟨⟨xs, q, Nat.le_refl _⟩, hd σ H p⟩
theorem for_enumT {K : PySem.W.Frag} {a : Addr} {xs : List V} {g : TG} {tb : TS} {D : Ends} {σ : St} {H : Hp} (Pv : Nat → St → Hp → Prop) (h0 : Pv 0 σ H) (hl : ∀ i σ H, i ≤ xs.length → Pv i σ H → SqT K H a xs)
    (hs : ∀ i x σ H t, xs[i]? = some x → Pv i σ H → H t = none → g (.ref t) σ (upd H t (.tup [.int (i : Int), x])) fun σ2 H2 => tb { D with nx := Pv (i + 1), ct := Pv (i + 1), bk := D.nx } σ2 H2) (hd : ∀ σ H, Pv xs.length σ H → D.nx σ H) :
    ∃ W : Nat → Nat → St → Hp → Prop, (∃ m, W 0 m σ H) ∧ ∀ i m σ H, W i m σ H →
      ((Itet K a).stop i H ∧ D.nx σ H) ∨ ((Itet K a).go i H ∧ ∃ N : St → Hp → Prop, (∀ σ' H', N σ' H' → ∃ m', m' < m ∧ W (i + 1) m' σ' H') ∧ ∀ x H', (Itet K a).yld i H x H' → g x σ H' fun σ2 H2 => tb { D with nx := N, ct := N, bk := D.nx } σ2 H2) := by
  refine ⟨fun i m σ H => m = xs.length - i ∧ i ≤ xs.length ∧ Pv i σ H, ⟨xs.length, by simp, Nat.zero_le _, h0⟩, ?_⟩
  rintro i m σ H ⟨rfl, hi, p⟩
  have q := hl i σ H hi p
  by_cases hlt : i < xs.length
  · refine .inr ⟨⟨xs, xs[i], q, by simp [hlt]⟩, Pv (i + 1), fun σ' H' p' => ⟨xs.length - (i + 1), by omega, rfl, hlt, p'⟩, fun x H' y => ?_⟩
    obtain ⟨t, y0, rfl, ht, rfl, y⟩ := y
    exact hs i y0 σ _ t (y xs q) p ht
  · have e : i = xs.length := by omega
    subst e
    exact .inl ⟨⟨xs, q, Nat.le_refl _⟩, hd σ H p⟩
end L2
namespace L2
open PySem
section
variable {prog : Program} {w : World} {K : Type} [DecidableEq K] {knd : KeyKind prog w K} {A : Around} {E : Value → Shared → Prop}
end
section
variable {X : Cx} {o e : Expr} {apos cpos : Pos} {td ty : TE}
end
end L2
namespace L2
open PySem PySem.Spec PyProof.Rows
section
variable {d D : Addr} {o : Obj} {kvs : List (Key × V)} {ts : List Str} {js : List (Nat × Str)} {g : TG} {tif : TT} {te : TE} {R : Hp → Prop} {σ : St} {H : Hp}
end
end L2
namespace L2
open PySem PySem.Spec PyProof.Rows
end L2
namespace L2
open PySem PySem.Spec PyProof.Rows
theorem ps_setC {X : Cx} {elt iter tg : Expr} {iy : Nat} {y : Str} {py spos : Pos} {ifs : List Expr} {scope : Scope} {pos : Pos} {wi : TI} {g : TG} {tif : TT} {te : TE} (ts : List Str) (js : List (Nat × Str)) (hN : X.N.Nodup) (hiy : X.N[iy]? = some y) (hy : X.env.scope.names.lookup y = some .local) (hc : X.calm = true) (hi : PI X tg iter wi)
    (cp : Caps X scope js) (hcell : ∀ y ∈ scope.names, y.2 ≠ .cell) (hkind : scope.kind = .function)
    (hnames : ∀ y ∈ scope.names, y.2 = .local → scope.names.lookup y.1 = some .local)
    (hg : ∀ cl C s1 H1 fp, PG (cxD X scope cl C s1 H1 (ts ++ js.map (·.2)) fp) tg g)
    (hif : ∀ cl C s1 H1 fp, PIfs (cxD X scope cl C s1 H1 (ts ++ js.map (·.2)) fp) ifs tif) (he : ∀ cl C s1 H1 fp, PE (cxD X scope cl C s1 H1 (ts ++ js.map (·.2)) fp) elt te)
    (hsw : swapsWith (.ListComp elt [⟨tg, iter, ifs, 0⟩] scope pos) (some (.Name y py)) spos.line X.env = pure true := by rfl) (hs : ∀ x, foldedSetIterable iter X.env x = pure x := by intro _; rfl) :
    PS X (.Assign [.Name y py] (.ListComp elt [⟨tg, iter, ifs, 0⟩] scope pos) spos) (tAsg (tCompG wi ts js g tif te) (gName iy)) := by
  intro pins s σ H DD I h
  rw [exec_Assign_Name_used _ _ _ _ hsw]
  refine wpAny_bind (wpAny_standAt (wpAny_bind ?_))
  show wpAny _ _ (do let _ ← comprehension (.ListComp elt [⟨tg, iter, ifs, 0⟩] scope pos) scope X.env _ (newList []) false (eval iter X.env) (some (assign (.Name y py) X.env))) _ _ s
  obtain ⟨cl, hcl⟩ := clos_of (env := X.env) (scope := scope) fun y hy => I.ok.has y (.inl (cp.all y hy))
  refine wpAny_bind (wpAny_mono (wpAny_comprehension_free (use := some (assign (.Name y py) X.env)) (Q := fun _ s' => SP X pins DD .next s') rfl hs hcl.eq hkind hnames (thn (hi pins s σ H _ I h) fun v s1 h1 => thn h1 fun itv s2 h2 => ?_)) (fun _ s' hq => wpAny_pure (wpAny_pure hq)) fun _ _ e => e)
  obtain ⟨it, fp, tn, J, H2, e, I2, T, st2, f2, h2⟩ := h2
  subst e
  obtain ⟨W, ⟨m0, w0⟩, turn⟩ := h2 s2.heap.objs.size I2.fresh
  have hfl : ∀ b ∈ fp, b < s2.heap.objs.size := fun b hb => by obtain ⟨o, e, _⟩ := T.obj _ _ st2 b hb; exact Heap.lt_size e
  refine wpAny_newObj_type (wpAny_newFunctionEnv hcell (by intro y hy; simp at hy) (fun h₁ hns₁ hsb₁ => ?_) hkind)
  dsimp only at hns₁ hsb₁ ⊢
  generalize hH2 : s2.heap.push { cls := .type "list", dict := none, data := .seq ([] : List Value).toArray } = G2 at hns₁ hsb₁ ⊢
  have hCs : G2.objs.size = s2.heap.objs.size + 1 := by rw [← hH2, Heap.size_push]
  have hDC : s2.heap.objs.size ≠ G2.objs.size := by rw [hCs]; exact Nat.ne_of_lt (Nat.lt_succ_self _)
  have old : ∀ b o, s2.heap.get? b = some o → h₁.get? b = some o := fun b o e =>
    hsb₁.extBut b o (by rw [hCs]; exact Nat.ne_of_lt (Nat.lt_succ_of_lt (Heap.lt_size e))) (Heap.get?_push_of_some _ (hH2 ▸ Heap.get?_push_of_some _ e))
  have hacc : h₁.get? s2.heap.objs.size = some { cls := .type "list", data := .seq ([] : List Value).toArray 0 } := hsb₁.extBut _ _ hDC (Heap.get?_push_of_some _ (hH2 ▸ Heap.get?_push_size _ rfl))
  generalize hX2 : cxD X scope cl G2.objs.size s2 H2 (ts ++ js.map (·.2)) fp = X2
  have I4 : Inv X2 [] (capS ts js σ) (upd H2 s2.heap.objs.size (.lst [])) { s2 with heap := h₁, toks := s2.toks + ([] : List (Str × Value)).length } := by
    rw [← hX2]
    exact inv_compG I2 f2 hfl hkind hcell cp hcl (by rw [hCs]; exact Nat.lt_succ_self _) rfl rfl old hns₁ hacc
  have x1 : X2.prog = X.prog := by rw [← hX2]; rfl
  have x2 : X2.w = X.w := by rw [← hX2]; rfl
  have x3 : X2.K = X.K := by rw [← hX2]; rfl
  have x4 : X2.calm = true := by rw [← hX2]; exact hc
  have x5 : X2.A = X.A := by rw [← hX2]; rfl
  have x6 : X2.env = compEnvC scope cl G2.objs.size X.env := by rw [← hX2]; rfl
  have x7 : X2.xe = fun _ _ => False := by rw [← hX2]; rfl
  have hg' : PG X2 tg g := by rw [← hX2]; exact hg _ _ _ _ _
  have hif' : PIfs X2 ifs tif := by rw [← hX2]; exact hif _ _ _ _ _
  have he' : PE X2 elt te := by rw [← hX2]; exact he _ _ _ _ _
  have st4 : tn 0 h₁ := T.keep _ _ _ st2 fun b _ o e => old b o e
  have stat : ∀ {H' : Hp} {pins' : List (Addr × Obj)}, (∀ b ∈ fp, H' b = none) → (∀ p ∈ pins', p.1 ∉ fp) → ∀ b ∈ fp, FpOk X2 pins' H' b := fun {H' pins'} hn hp b hb => by
    have o4 := I4.ok
    subst hX2
    exact ⟨hn b hb, (o4.exf b hb).1, o4.exfs b hb, .inl hb, (o4.exf b hb).2, fun p hp' => by
      have hp2 : p ∈ ([] : List (Addr × Obj)) ++ pins' := hp'
      rw [List.nil_append] at hp2
      intro z; exact hp p hp2 (by rw [z]; exact hb)⟩
  have fin : ∀ {s' : Shared} {σ' : St} {H' : Hp}, Inv X2 [] σ' H' s' → DD.nx (σ.set iy (some (.ref s2.heap.objs.size))) H' →
      compPost (model X.prog X.w) X.A X.xe (some (assign (.Name y py) X.env)) (fun _ s' => SP X pins DD .next s') (.ref s2.heap.objs.size) G2.objs.size (.ok .next) s' := fun {s' σ' H'} J' q => by
    subst hX2
    obtain ⟨m', hn', _⟩ := J'.loc
    have I5 : Inv X pins σ H' s' := I2.call' (s' := s') J'.os J'.base J'.hok J'.bare fun b hb => by
      obtain ⟨_, f1, _, f3, f4, f5⟩ := f2 b hb
      exact ⟨f3, f1, f4, f5⟩
    obtain ⟨f0, f1, _, f3, f4, f5⟩ := I2.fpOk (H' := H') (b := G2.objs.size) (by rw [hCs]; exact Nat.le_succ _) J'.free
    show wpAny _ _ (assign (.Name y py) X.env (.ref s2.heap.objs.size)) _ _ s'
    refine wpAny_assign_Name (store_ok2 I5 hN hiy (.inl hy) (v := .ref s2.heap.objs.size) rfl (fun s'' I6 ⟨a, sb, ha⟩ => ?_) (.inr hy))
    have nCa : G2.objs.size ≠ a := by
      rcases ha with ha | ha
      · rw [ha]; exact f1
      · exact (f4 _ _ ha).symm
    refine ⟨m', hn'.sameBut sb nCa, fun h' hs' => ?_⟩
    exact ⟨_, H', I6.turned (t' := s''.toks) (fun b o hb e => (hs'.2 b hb).trans e) f0 f1 f3 f4 f5, q⟩
  have loop : ∀ s₃ : Shared, s₃ = { s2 with heap := h₁, toks := s2.toks + ([] : List (Str × Value)).length } →
      codeAny (model X.prog X.w) X.A (.compLoop (.ListComp elt [⟨tg, iter, ifs, 0⟩] scope pos) 0 (.ref it) (.ref s2.heap.objs.size) (compEnvC scope cl G2.objs.size X.env))
        (compPost (model X.prog X.w) X.A X.xe (some (assign (.Name y py) X.env)) (fun _ s' => SP X pins DD .next s') (.ref s2.heap.objs.size) G2.objs.size) s₃ := by
    rintro s₃ rfl
    subst hX2
    refine compLoop_go (fun n s' => ∃ i ys σ' H', Inv (cxD X scope cl G2.objs.size s2 H2 (ts ++ js.map (·.2)) fp) [] σ' H' s' ∧ tn i s'.heap ∧ (∀ b ∈ fp, H' b = none) ∧ W i n ys σ' H') ?_ m0
      ⟨0, [], _, _, I4, st4, fun b hb => by rw [upd_ne (Nat.ne_of_lt (hfl b hb))]; exact (f2 b hb).1, w0⟩
    rintro n s' ⟨i, ys, σ0, H', J', st', fr', w'⟩
    rcases turn i n ys σ0 H' w' with ⟨stop, q⟩ | ⟨go, m', hm, step⟩
    · refine wpAny_mono (T.done (cxD X scope cl G2.objs.size s2 H2 (ts ++ js.map (·.2)) fp) rfl rfl rfl hc i [] s' _ H' (fun _ _ => False) J' (stat fr' (by simp)) st' stop) (fun r s4 ⟨hr, J4⟩ => ?_) fun _ _ z => z
      subst hr
      exact fin J4 q
    · refine wpAny_mono (T.item (cxD X scope cl G2.objs.size s2 H2 (ts ++ js.map (·.2)) fp) rfl rfl rfl hc i [] s' _ H' (fun _ _ => False) J' (stat fr' (by simp)) st' go) (fun r s4 ⟨u, hr, h4⟩ => ?_) fun _ _ z => z
      subst hr
      refine wpAny_mono h4 (fun _ s5 ⟨xv, H5, J5, r5, y5, st5, fr5⟩ => ?_) fun _ _ z => z
      have J5' := J5.pinned (stat fr5 (by simp)) (T.obj _ _ st5)
      have back : ∀ {s7 : Shared} {σ7 : St} {H7 : Hp}, Inv (cxD X scope cl G2.objs.size s2 H2 (ts ++ js.map (·.2)) fp) ([] ++ pinsAt fp s5.heap) σ7 H7 s7 → Inv (cxD X scope cl G2.objs.size s2 H2 (ts ++ js.map (·.2)) fp) [] σ7 H7 s7 ∧ tn (i + 1) s7.heap ∧ ∀ b ∈ fp, H7 b = none := fun {s7 σ7 H7} J7 => by
        refine ⟨J7.unpinned, T.keep _ _ _ st5 fun b hb o e => (J7.pin (b, o) (List.mem_append_right _ (List.mem_append_right _ (mem_pinsAt hb e)))).1, fun b hb => ?_⟩
        obtain ⟨o, e, d⟩ := T.obj _ _ st5 b hb
        exact (J7.pin (b, o) (List.mem_append_right _ (List.mem_append_right _ (mem_pinsAt hb e)))).2.1
      show wpAny _ _ (assign tg (cxD X scope cl G2.objs.size s2 H2 (ts ++ js.map (·.2)) fp).env u) _ _ s5
      refine wpAny_mono (hg' _ s5 _ H5 xv u _ J5' r5 (step xv H5 y5)) (fun _ s6 ⟨σ6, H6, J6, q6⟩ => ?_) fun _ _ z => z
      refine wpAny_mono (hif' _ s6 _ H6 _ J6 q6) (fun b s7 ⟨H7, J7, q7⟩ => ?_) fun _ _ z => z
      cases b with
      | false =>
        rw [if_neg Bool.false_ne_true] at q7 ⊢
        obtain ⟨J8, st8, fr8⟩ := back J7
        exact ⟨m', hm, i + 1, ys, σ6, H7, J8, st8, fr8, q7⟩
      | true =>
        rw [if_pos rfl] at q7 ⊢
        refine wpAny_mono (he' _ s7 _ H7 _ J7 q7) (fun yv s8 ⟨y, H8, J8, r8, hD8, hz8, w8⟩ => ?_) fun _ _ z => z
        refine wpAny_mono (mt_append (X := cxD X scope cl G2.objs.size s2 H2 (ts ++ js.map (·.2)) fp) _ s8 _ H8 (.ref s2.heap.objs.size) [y] (.ref s2.heap.objs.size) [yv] (fun v H' => W (i + 1) m' (ys ++ [y]) σ6 H') J8 rfl (.cons r8 .nil) ⟨s2.heap.objs.size, ys, y, rfl, rfl, hD8, hz8, w8⟩)
          (fun _ s9 ⟨_, H9, J9, _, w9⟩ => ?_) fun _ _ z => z
        obtain ⟨J10, st10, fr10⟩ := back J9
        exact ⟨m', hm, i + 1, ys ++ [y], σ6, H9, J10, st10, fr10, w9⟩
  exact codeAny_compStart_list (loop _ rfl) (T.self _ _ _ _ _ st4 (loop _ rfl))
end L2
namespace L2
open PySem PySem.Spec PyProof.Rows
section
variable {prog : Program} {w : World} {A : Around} {E : Value → Shared → Prop} {s : Shared}
end
end L2
namespace L2
open PySem PySem.Spec PyProof.Rows
end L2
namespace L2
open PySem PySem.Spec PyProof.Rows
end L2
namespace L2
open PySem PySem.Spec PyProof.Rows
end L2
namespace L2
open PySem
theorem op_in_seqK {X : Cx} (K : PySem.W.Frag) (hK : X.K = K := by rfl) : OpR X (compareOp .In) (rIn K false) := by
  subst hK
  exact op_in_seq
theorem op_ne_nil {X : Cx} (hu : X.A.units < cLine) : OpR X (compareOp .NotEq) (fun x y H Q => ∃ a b xs, x = .ref a ∧ y = .ref b ∧ SqL X.K H a xs ∧ SqL X.K H b [] ∧ Q (.bl (!xs.isEmpty)) H) := by
  intro pins s σ H x y v u Q I rx ry h
  obtain ⟨a, b, xs, rfl, rfl, ha, hb, q⟩ := h
  cases rx
  cases ry
  obtain ⟨its, r, pl, hz⟩ := I.list ha
  obtain ⟨its2, r2, pl2, hz2⟩ := I.list hb
  have e2 : its2 = [] := Vals.zero r2
  subst e2
  have hlen := r.length
  cases xs with
  | nil =>
    have e : its = [] := Vals.zero r
    subst e
    exact SeqAt.RcNeAt.lists (e := fun _ => true) pl.isList pl2.isList rfl hu (fun j h1 _ => absurd h1 (by simp)) X.prog X.w X.xe _ ⟨.bl false, H, I, rfl, q⟩
  | cons y ys =>
    refine SeqAt.RcNeAt.lists_lengths pl.isList pl2.isList ?_ hu X.prog X.w X.xe _ ⟨.bl true, H, I, rfl, q⟩
    rw [List.size_toArray, List.size_toArray, ← hlen]
    simp
end L2
namespace L2
open PySem PySem.Spec PyProof.Rows
def DEq (K : PySem.W.Frag) (H : Hp) : Nat → V → V → Prop
  | 0, x, y => x = y ∧ PlainV x
  | n + 1, x, y => (x = y ∧ PlainV x) ∨ ∃ a b xs ys, x = .ref a ∧ y = .ref b ∧ ((SqL K H a xs ∧ SqL K H b ys) ∨ (SqT K H a xs ∧ SqT K H b ys)) ∧ Paired (DEq K H n) xs ys
theorem DEq.self {K : PySem.W.Frag} {H : Hp} {x : V} (h : PlainV x) : ∀ n, DEq K H n x x
  | 0 => ⟨rfl, h⟩
  | _ + 1 => .inl ⟨rfl, h⟩
theorem deq_items {A : Around} {s : Shared} {F : V → V → Prop} {xs ys : List V} {its its2 : List Value} (r : Vals xs its) (r2 : Vals ys its2) (p : Paired F xs ys) (hF : ∀ x y u v, F x y → RelV x u → RelV y v → SeqAt.EqAt A s u v true) (j : Nat) (h1 : j < its.toArray.size) (h2 : j < its2.toArray.size) :
    SeqAt.EqAt A s its.toArray[j] its2.toArray[j] true := by
  have l1 := r.length
  have l2 := r2.length
  have k1 : j < its.length := by simpa using h1
  have k2 : j < its2.length := by simpa using h2
  have g2 : ys[j]? = some (ys[j]'(by omega)) := List.getElem?_eq_getElem (by omega)
  obtain ⟨x, g1, fx⟩ := Paired.at_ p j _ g2
  obtain ⟨u1, e1, q1⟩ := r.get g1
  obtain ⟨u2, e2, q2⟩ := r2.get g2
  have f1 : its.toArray[j] = u1 := by
    have := (List.getElem?_eq_some_iff.mp e1).2
    simpa using this
  have f2 : its2.toArray[j] = u2 := by
    have := (List.getElem?_eq_some_iff.mp e2).2
    simpa using this
  rw [f1, f2]
  exact hF _ _ _ _ fx q1 q2
theorem deq_eq {X : Cx} {pins : List (Addr × Obj)} {σ : St} {H : Hp} {s : Shared} (I : Inv X pins σ H s) : ∀ (n : Nat) (A : Around) (x y : V) (u v : Value), DEq X.K H n x y → RelV x u → RelV y v → A.units + n < cLine → SeqAt.EqAt A s u v true
  | 0, A, x, y, u, v, ⟨e, h⟩, ru, rv, _ => by subst e; exact eq_at_self h ru rv
  | n + 1, A, x, y, u, v, .inl ⟨e, h⟩, ru, rv, _ => by subst e; exact eq_at_self h ru rv
  | n + 1, A, x, y, u, v, .inr ⟨a, b, xs, ys, ex, ey, hs, p⟩, ru, rv, hu => by
    subst ex; subst ey
    cases (show u = Value.ref a from ru)
    cases (show v = Value.ref b from rv)
    by_cases e : a = b
    · subst e; exact .same _
    refine .of_refs e ?_
    have lp := Paired.length p
    rcases hs with ⟨ha, hb⟩ | ⟨ha, hb⟩
    · obtain ⟨its, r, pl, _⟩ := I.list ha
      obtain ⟨its2, r2, pl2, _⟩ := I.list hb
      have l1 := r.length
      have l2 := r2.length
      have q := SeqAt.RcAt.lists (A := A) (s := s) (e := fun _ => true) pl.isList pl2.isList (by simp only [List.size_toArray]; omega) (by omega) (fun j h1 h2 => deq_items r r2 p (fun x y u v d r1 r2 => deq_eq I n A.in1 x y u v d r1 r2 (by rw [Around.in1_units]; omega)) j h1 h2)
      have e : ((List.range its.toArray.size).all fun _ => true) = true := by simp
      rw [e] at q
      exact q
    · obtain ⟨its, r, pl, _⟩ := I.tuple ha
      obtain ⟨its2, r2, pl2, _⟩ := I.tuple hb
      have l1 := r.length
      have l2 := r2.length
      have q := SeqAt.RcAt.tuples (A := A) (s := s) (e := fun _ => true) pl pl2 (by omega) (fun j h1 h2 => deq_items r r2 p (fun x y u v d r1 r2 => deq_eq I n A.in1 x y u v d r1 r2 (by rw [Around.in1_units]; omega)) j h1 h2)
      have e1 : ((List.range (min its.toArray.size its2.toArray.size)).all (fun _ => true) && its.toArray.size == its2.toArray.size) = true := by
        have : its.toArray.size = its2.toArray.size := by simp only [List.size_toArray]; omega
        rw [this]
        simp
      rw [e1] at q
      exact q
def rDeep (K : PySem.W.Frag) (b : Bool) (n : Nat) : V → V → Hp → VK → Prop := fun x y H Q => ∃ p q xs ys, x = .ref p ∧ y = .ref q ∧ SqL K H p xs ∧ SqL K H q ys ∧ Paired (DEq K H n) xs ys ∧ Q (.bl b) H
end L2
namespace L2
open PySem PySem.Spec PyProof.Rows
section
variable {prog : Program} {w : World} {A : Around} {E : Value → Shared → Prop} {s : Shared}
abbrev IsZip2 (h : Heap) (z : Addr) (f0 f1 : Value) (TI TO : Addr) : Prop := h.get? z = some { cls := .type "zip", data := .fields #[f0, f1, .bool false, .ref TI, .ref TO] }
end
end L2
namespace L2
open PySem PySem.Spec PyProof.Rows
end L2
namespace L2
open PySem PySem.Spec PyProof.Rows
structure ZSt (h : Heap) (z TI TO i1 i2 l1 l2 : Addr) (xs ys : Array Value) (i : Nat) : Prop where
  hz : ∃ f0 f1, IsZip2 h z f0 f1 TI TO ∧ (f0 = .none ∨ ∃ T : Nat, f0 = rawInt T)
  hI : IsPair h TI (.ref i1) (.ref i2)
  hO : ∃ a b, IsPair h TO a b
  h1 : h.IsTupleIter i1 l1 i
  h2 : h.IsTupleIter i2 l2 i
  t1 : h.IsTuple l1 xs
  t2 : h.IsTuple l2 ys
theorem tuple_at {h h' : Heap} {l : Addr} {xs : Array Value} (t : h.IsTuple l xs) (k : ∀ o, h.get? l = some o → h'.get? l = some o) : h'.IsTuple l xs := by
  obtain ⟨o, a, b, c⟩ := t
  exact ⟨o, k o a, b, c⟩
def AccOk (h : Heap) (N : Nat) (xs ys acc : Array Value) : Prop := ∃ Ts : List Nat, acc.toList = Ts.map Value.ref ∧ Ts.Pairwise (· < ·) ∧ ∀ (j T : Nat), Ts[j]? = some T → N ≤ T ∧ ∃ x y : Value, IsPair h T x y ∧ xs[j]? = some x ∧ ys[j]? = some y
theorem AccOk.keep {h h' : Heap} {N : Nat} {xs ys acc : Array Value} (a : AccOk h N xs ys acc) (k : ∀ (T : Nat) o, N ≤ T → h.get? T = some o → h'.get? T = some o) : AccOk h' N xs ys acc := by
  obtain ⟨Ts, e1, e2, e3⟩ := a
  refine ⟨Ts, e1, e2, fun j T hj => ?_⟩
  obtain ⟨l, x, y, p, q⟩ := e3 j T hj
  exact ⟨l, x, y, k T _ l p, q⟩
theorem AccOk.more {h : Heap} {N T0 : Nat} {xs ys acc : Array Value} {x y : Value} (a : AccOk h N xs ys acc) (lt : ∀ (Ts : List Nat), acc.toList = Ts.map Value.ref → ∀ T ∈ Ts, T < T0) (hN : N ≤ T0) (p : IsPair h T0 x y) (hx : xs[acc.size]? = some x) (hy : ys[acc.size]? = some y) : AccOk h N xs ys (acc.push (.ref T0)) := by
  obtain ⟨Ts, e1, e2, e3⟩ := a
  have el : Ts.length = acc.size := by
    have := congrArg List.length e1
    rw [List.length_map] at this
    rw [← this]; simp
  refine ⟨Ts ++ [T0], by rw [Array.toList_push, e1, List.map_append]; rfl, List.pairwise_append.mpr ⟨e2, by simp, fun T hT b hb => by rw [List.mem_singleton.mp hb]; exact lt Ts e1 T hT⟩, fun j T hj => ?_⟩
  by_cases c : j < Ts.length
  · rw [List.getElem?_append_left c] at hj
    exact e3 j T hj
  · rw [List.getElem?_append_right (by omega)] at hj
    have c2 : j - Ts.length = 0 := by
      have := (List.getElem?_eq_some_iff.mp hj).1
      simp at this
      omega
    rw [c2] at hj
    cases hj
    have : j = acc.size := by omega
    rw [this]
    exact ⟨hN, x, y, p, hx, hy⟩
end L2
namespace L2
open PySem PySem.Spec PyProof.Rows
theorem ZSt.keep {h h' : Heap} {z TI TO i1 i2 l1 l2 : Addr} {xs ys : Array Value} {i : Nat} (st : ZSt h z TI TO i1 i2 l1 l2 xs ys i) (k : ∀ b o, h.get? b = some o → h'.get? b = some o) : ZSt h' z TI TO i1 i2 l1 l2 xs ys i := by
  obtain ⟨⟨f0, f1, a, b⟩, hI, ⟨c, d, hO⟩, h1, h2, t1, t2⟩ := st
  exact ⟨⟨f0, f1, k _ _ a, b⟩, k _ _ hI, ⟨c, d, k _ _ hO⟩, h1.at fun o q => k _ _ q, h2.at fun o q => k _ _ q, tuple_at t1 fun o q => k _ _ q, tuple_at t2 fun o q => k _ _ q⟩
end L2
namespace L2
open PySem PySem.Spec PyProof.Rows
end L2
namespace HT
open PySem PyProof.Rows
section
variable {prog : Program} {w : World} {A : Around} {E : Value → Shared → Prop} {s : Shared}
end
end HT
namespace L2
open PySem PySem.Spec PyProof.Rows
end L2
namespace L2
open PySem
end L2
namespace L2
open PySem PySem.Spec PyProof.Rows
section
variable {prog : Program} {w : World} {A : Around} {E : Value → Shared → Prop} {s : Shared}
end
structure ZTn (h : Heap) (z TI TO i1 i2 l1 l2 : Addr) (i : Nat) : Prop where
  hz : ∃ f0 f1, IsZip2 h z f0 f1 TI TO ∧ (f0 = .none ∨ ∃ T : Nat, f0 = rawInt T)
  hI : IsPair h TI (.ref i1) (.ref i2)
  hO : ∃ a b, IsPair h TO a b
  h1 : h.IsTupleIter i1 l1 i
  h2 : h.IsTupleIter i2 l2 i
end L2
namespace HT
open PySem PySem.Spec PyProof.Rows
section
variable {prog : Program} {w : World} {A : Around} {E : Value → Shared → Prop} {s : Shared}
theorem getItem_tuple_all {t sl : Addr} {items : Array Value} {vl vu : Value} {lo hi : Option Int} {Q : Value → Shared → Prop} (ht : IsTup s.heap t items) (hs : s.heap.IsSliceOf sl vl vu .none) (pl : IsPart vl lo) (pu : IsPart vu hi)
    (hw : sIx items.size 0 lo = 0 ∧ sIx items.size items.size hi = items.size) (h : Q (.ref t) s) : wpAny (model prog w) A (getItem (.ref t) (.ref sl)) Q E s := by
  obtain ⟨os, hos, hcs, hds⟩ := id hs
  have hTs : s.TypeIs (.ref sl) "slice" := ⟨os, hos, hcs⟩
  unfold getItem
  try with_reducible refine wpAny_holding ?_
  first | refine wpAny_bind (wpAny_pure ?_) | skip
  refine wpAny_bind (wpAny_sequenceKey ht.typeIs (by decide) ?_)
  refine wpAny_bind (wpAny_callSpecial?_slot (name := Str.ofString "__getitem__") ht.typeIs PyProof.Rows.slot_tuple_getitem
    (wpAny_call_entry PyProof.Rows.slot_tuple_getitem ht.typeIs entry_tuple_getitem ?_ (args_tuple_getitem _ _)))
  show wpAny _ _ (Builtin.Tuple.tupleItemsOf (.ref t) >>= _) _ _ s
  refine wpAny_bind (tupleItemsOf_ ht ?_)
  refine wpAny_bind (wpAny_typeOf hTs ?_)
  rw [if_pos (by decide)]
  refine wpAny_bind (sliceApplied_gen hs pl pu ?_)
  have hyes : (((sIx items.size 0 lo : Nat) : Int) == 0 && (1 : Int) == 1 && (sIx items.size items.size hi - sIx items.size 0 lo) == items.size) = true := by
    rw [hw.1, hw.2]
    simp
  show wpAny _ _ (if (((sIx items.size 0 lo : Nat) : Int) == 0 && (1 : Int) == 1 && (sIx items.size items.size hi - sIx items.size 0 lo) == items.size) = true then _ else _) _ _ s
  rw [if_pos hyes]
  refine wpAny_bind ?_
  unfold Builtin.Tuple.tupleIsExact
  refine wpAny_bind (wpAny_typeOf ht.typeIs (wpAny_pure ?_))
  rw [if_pos (by decide)]
  refine wpAny_bind (wpAny_rule ?_)
  exact wpAny_pure ⟨_, rfl, wpAny_pure h⟩
end
end HT
namespace L2
open PySem PySem.Spec PyProof.Rows
def rSlG2 (K : PySem.W.Frag) : V → Option Int → Option Int → Hp → VK → Prop := fun x lo hi H Q => ∃ a xs, x = .ref a ∧ SqT K H a xs ∧ ∀ p H', Same H H' → SqT K H' p (cutV xs lo hi) → Q (.ref p) H'
theorem sl_tupG {X : Cx} : SlR X (rSlG2 X.K) := by
  intro pins s σ H x v vl vu lo hi sl Q I rx hs pl pu h
  obtain ⟨a, xs, rfl, hx, q⟩ := h
  by_cases hw : HT.sIx xs.length 0 lo = 0 ∧ HT.sIx xs.length xs.length hi = xs.length
  · have ec : cutV xs lo hi = xs := by
      unfold cutV
      rw [hw.1, hw.2, List.drop_zero, Nat.sub_zero, List.take_length]
    cases rx
    obtain ⟨its, r, ht, hz⟩ := I.tuple hx
    have hlen : its.toArray.size = xs.length := by rw [List.size_toArray]; exact r.length.symm
    refine ⟨"tuple", _, PyProof.Rows.slot_tuple_getitem.lookup, ht.typeIs, ?_⟩
    exact HT.getItem_tuple_all ht hs pl pu (by rw [hlen]; exact hw) ⟨.ref a, H, I, rfl, q a H (fun _ _ h => h) (by rw [ec]; exact hx)⟩
  · exact sl_tup pins s σ H _ v vl vu lo hi sl Q I rx hs pl pu ⟨a, xs, rfl, hx, hw, fun p hp => q p _ (same_laid hp _) (SqT.of upd_same)⟩
end L2
namespace L2
open PySem PySem.Spec PyProof.Rows
theorem strs_are : ∀ {zs : List Str} {its : List Value}, Vals (zs.map V.str) its → StrsAre its zs
  | [], [], _ => .nil
  | z :: r, u :: its, h => by
    cases h with
    | cons a b =>
      obtain ⟨t, rfl⟩ := a
      exact .cons z t (strs_are b)
theorem vals_strs : ∀ {its : List Value} {zs : List Str}, StrsAre its zs → Vals (zs.map V.str) its
  | _, _, .nil => .nil
  | _, _, .cons y t h => .cons ⟨t, rfl⟩ (vals_strs h)
theorem call_sortS {X : Cx} : CallR X (.builtin "sorted") (fun xs H Q => ∃ a zs, xs = [.ref a] ∧ SqL X.K H a (List.map V.str zs) ∧ zs.length < 64 ∧ ∀ l zs', H l = none → zs'.Perm zs → sortedS zs' = true → Q (.ref l) (upd H l (.lst (List.map V.str zs')))) := by
  intro pins s σ H xs us Q I r h
  obtain ⟨a, zs, rfl, hq, hl, q⟩ := h
  obtain ⟨u, rfl, rx⟩ := vals1 r
  cases (show u = Value.ref a from rx)
  obtain ⟨its, r', pl, hz⟩ := I.list hq
  have hlen := r'.length
  rw [List.length_map] at hlen
  refine sorted_strs pl.isList (strs_are r') (by omega) fun out ss' h1 h2 h3 => ?_
  obtain ⟨e, he⟩ := sortedAll_at s.heap its out
  have v := vals_strs h1
  refine ⟨.ref (s.heap.objs.size + 1), _, I.laid (t' := s.toks) (fun b o hb => sortedAll_old hb) (Nat.le_succ _) (show ObjOk X.prog X.w _ _ _ (.lst (List.map V.str ss')) from ⟨?_, out.toList, e, v, ?_⟩), rfl, q _ ss' (I.hok.fresh (Nat.le_succ _)) h2 h3⟩
  · rw [List.length_map, h2.length_eq]
    rw [List.length_map] at hz
    exact hz
  · rw [he]
theorem lt_antisymm : ∀ a b : List Nat, ltCps a b = false → ltCps b a = false → a = b
  | [], [], _, _ => rfl
  | [], _ :: _, h, _ => by rw [ltCps.eq_2] at h; cases h
  | _ :: _, [], _, h => by rw [ltCps.eq_2] at h; cases h
  | x :: r, y :: t, h, k => by
    rw [ltCps.eq_4, Bool.or_eq_false_iff, decide_eq_false_iff_not] at h k
    have e : x = y := by omega
    subst e
    have h2 := h.2
    have k2 := k.2
    rw [beq_self_eq_true, Bool.true_and] at h2 k2
    rw [lt_antisymm r t h2 k2]
theorem lt_trans : ∀ a b c : List Nat, ltCps b a = false → ltCps c b = false → ltCps c a = false
  | [], b, [], _, _ => ltCps.eq_1
  | [], b, _ :: _, _, _ => ltCps.eq_3 _ _
  | x :: r, [], c, h, _ => by rw [ltCps.eq_2] at h; cases h
  | x :: r, y :: t, [], _, k => by rw [ltCps.eq_2] at k; cases k
  | x :: r, y :: t, z :: u, h, k => by
    rw [ltCps.eq_4, Bool.or_eq_false_iff, decide_eq_false_iff_not] at h k ⊢
    refine ⟨by omega, ?_⟩
    by_cases e : z = x
    · have e1 : y = x := by omega
      subst e; subst e1
      have h2 := h.2
      have k2 := k.2
      rw [beq_self_eq_true, Bool.true_and] at h2 k2 ⊢
      exact lt_trans r t u h2 k2
    · rw [beq_eq_false_iff_ne.mpr e, Bool.false_and]
def leS (a b : Str) : Prop := ltCps b.cps.toList a.cps.toList = false
theorem rising_pw : ∀ (x : Str) (r : List Str), risingS x r = true → (x :: r).Pairwise leS
  | x, [], _ => List.pairwise_singleton _ _
  | x, y :: r, h => by
    rw [risingS.eq_2, Bool.and_eq_true, Bool.not_eq_true'] at h
    have ih := rising_pw y r h.2
    refine List.pairwise_cons.mpr ⟨fun z hz => ?_, ih⟩
    rcases List.mem_cons.mp hz with e | e
    · rw [e]; exact h.1
    · exact lt_trans _ _ _ h.1 ((List.pairwise_cons.mp ih).1 z e)
theorem sorted_pw : ∀ {l : List Str}, sortedS l = true → l.Pairwise leS
  | [], _ => .nil
  | x :: r, h => rising_pw x r h
theorem leS_antisymm {a b : Str} (h : leS a b) (k : leS b a) : a = b := by
  have := lt_antisymm _ _ h k
  cases a with
  | mk x => cases b with
    | mk y => rw [show x = y from (Array.toList_inj.mp this.symm)]
theorem sorted_unique : ∀ {l m : List Str}, l.Pairwise leS → m.Pairwise leS → l.Perm m → l = m
  | [], m, _, _, p => by rw [List.nil_perm.mp p]
  | x :: r, [], _, _, p => absurd p.length_eq (by simp)
  | x :: r, y :: t, h, k, p => by
    have e : x = y := by
      have h1 := List.pairwise_cons.mp h
      have k1 := List.pairwise_cons.mp k
      rcases List.mem_cons.mp (p.mem_iff.mp (List.mem_cons_self (a := x) (l := r))) with e | e
      · exact e
      · rcases List.mem_cons.mp (p.mem_iff.mpr (List.mem_cons_self (a := y) (l := t))) with e2 | e2
        · exact e2.symm
        · exact leS_antisymm (h1.1 y e2) (k1.1 x e)
    subst e
    rw [sorted_unique (List.pairwise_cons.mp h).2 (List.pairwise_cons.mp k).2 (List.perm_cons x |>.mp p)]
theorem sortedS_unique {l m : List Str} (h : sortedS l = true) (k : sortedS m = true) (p : l.Perm m) : l = m := sorted_unique (sorted_pw h) (sorted_pw k) p
end L2
namespace L2
open PySem PySem.Spec PyProof.Rows
def repS (x : Str) : Nat → Str
  | 0 => Str.empty
  | 1 => x
  | _ => x ++ x
theorem op_mulS {X : Cx} : OpR X (binaryOp .Mult) (fun a b H Q => ∃ x n, a = .str x ∧ b = .int ((n : Nat) : Int) ∧ n ≤ 2 ∧ x.length = 1 ∧ Q (.str (repS x n)) H) := by
  intro pins s σ H a b v u Q I ra rb h
  obtain ⟨x, n, rfl, rfl, hn, hx, q⟩ := h
  obtain ⟨t, rfl⟩ := ra
  obtain ⟨t2, rfl⟩ := rb
  match n, hn, q with
  | 0, _, q => exact PySem.P.mul_str_none (by decide) (by decide) ⟨.str Str.empty, H, I.tok _, ⟨_, rfl⟩, q⟩
  | 1, _, q =>
    refine PySem.P.mul_str (by decide) (fun _ h => by simp at h) (fun _ h => by simp at h) ?_
    rw [if_neg (by decide), if_pos (by rfl)]
    exact ⟨.str x, H, I, ⟨_, rfl⟩, q⟩
  | 2, _, q =>
    refine PySem.P.mul_str (by decide) (fun _ _ => by rw [hx]; decide) (fun _ _ => by rw [hx]; decide) ?_
    rw [if_neg (by decide), if_neg (by rw [hx]; decide)]
    have le : (Str.mk (#[] ++ x.cps ++ x.cps)).length ≤ sizeLine := by
      show (#[] ++ x.cps ++ x.cps).size ≤ sizeLine
      rw [Array.empty_append, Array.size_append]
      have : x.cps.size = 1 := hx
      rw [this]; decide
    refine ⟨le, ⟨.str (x ++ x), H, I.tok _, ⟨s.toks, ?_⟩, q⟩⟩
    show Value.str ⟨#[] ++ x.cps ++ x.cps⟩ _ = Value.str ⟨x.cps ++ x.cps⟩ _
    rw [Array.empty_append]
end L2
namespace L2
open PySem PySem.Spec PyProof.Rows
section
variable {prog : Program} {w : World} {A : Around} {E : Value → Shared → Prop} {s : Shared}
end
end L2
namespace L2
open PySem PySem.Spec PyProof.Rows
end L2
namespace L2
open PySem PySem.Spec PyProof.Rows
def eqL : List V → List V → Bool
  | [], [] => true
  | x :: xs, y :: ys => eqV x y && eqL xs ys
  | _, _ => false
theorem eqL_range : ∀ (xs ys : List V), ((List.range (min xs.length ys.length)).all (fun j => eqV (xs.getD j .non) (ys.getD j .non)) && (xs.length == ys.length)) = eqL xs ys
  | [], [] => rfl
  | [], y :: ys => by simp [eqL]
  | x :: xs, [] => by simp [eqL]
  | x :: xs, y :: ys => by
    have ih := eqL_range xs ys
    show _ = (eqV x y && eqL xs ys)
    rw [← ih, List.length_cons, List.length_cons, Nat.succ_min_succ, List.range_succ_eq_map, List.all_cons, List.all_map]
    simp only [Function.comp_def, List.getD_cons_zero, List.getD_cons_succ, Nat.succ_eq_add_one]
    rw [Bool.and_assoc]
    congr 2
    simp
theorem flat_items {A : Around} {s : Shared} {xs ys : List V} {its its2 : List Value} (r : Vals xs its) (r2 : Vals ys its2) (fx : xs.all flatV = true) (fy : ys.all flatV = true) (j : Nat) (h1 : j < its.toArray.size) (h2 : j < its2.toArray.size) :
    SeqAt.EqAt A s its.toArray[j] its2.toArray[j] (eqV (xs.getD j .non) (ys.getD j .non)) := by
  have l1 := r.length
  have l2 := r2.length
  have k1 : j < its.length := by simpa using h1
  have k2 : j < its2.length := by simpa using h2
  have g1 : xs[j]? = some (xs[j]'(by omega)) := List.getElem?_eq_getElem (by omega)
  have g2 : ys[j]? = some (ys[j]'(by omega)) := List.getElem?_eq_getElem (by omega)
  obtain ⟨u1, e1, q1⟩ := r.get g1
  obtain ⟨u2, e2, q2⟩ := r2.get g2
  have f1 : its.toArray[j] = u1 := by
    have := (List.getElem?_eq_some_iff.mp e1).2
    simpa using this
  have f2 : its2.toArray[j] = u2 := by
    have := (List.getElem?_eq_some_iff.mp e2).2
    simpa using this
  rw [f1, f2]
  have d1 : xs.getD j .non = xs[j]'(by omega) := by rw [List.getD_eq_getElem?_getD, g1]; rfl
  have d2 : ys.getD j .non = ys[j]'(by omega) := by rw [List.getD_eq_getElem?_getD, g2]; rfl
  rw [d1, d2]
  exact eqAt_V q1 q2 (List.all_eq_true.mp fx _ (List.getElem_mem _)) (List.all_eq_true.mp fy _ (List.getElem_mem _))
end L2
namespace L2
open PySem PySem.Spec PyProof.Rows
end L2
namespace L2
open PySem PySem.Spec PyProof.Rows
theorem orStand_led (t : SetTable) (n : Nat) : (t.orStandIn n).led = t.led := by
  unfold SetTable.orStandIn
  by_cases h : t.fits n = true
  · rw [if_pos h]
  · rw [if_neg h]; rfl
theorem layNew_led (t : SetTable) (es : Array (Int × Value)) (h : Int) (x : Value) : (layNew t es h x).2.1.led = t.led := by
  unfold layNew
  cases e : t.freeSlot h with
  | none => rfl
  | some q =>
    obtain ⟨j, b⟩ := q
    show ((t.put j).1.orStandIn _).led = t.led
    rw [orStand_led]
    rfl
theorem laid_led {m f k : Nat} {led pl : Bool} {hs : Array Int} {t : SetTable} {o : Array Nat} (h : SetTable.laid m f k led pl hs = some (t, o)) : t.led = led ∧ t.plain = pl := by
  unfold SetTable.laid at h
  simp only [Option.bind_eq_bind, Option.bind_eq_some_iff] at h
  obtain ⟨ow, _, h2⟩ := h
  cases h2
  exact ⟨rfl, rfl⟩
theorem relay_led (t : SetTable) (es : Array (Int × Value)) (n : Nat) : (relayAll t es n).2.1.led = t.led ∧ (t.plain = false → (relayAll t es n).2.1.plain = false) := by
  unfold relayAll
  cases e : t.relaid (es.map (·.1)) n with
  | none => exact ⟨rfl, fun _ => rfl⟩
  | some q =>
    obtain ⟨t', o⟩ := q
    have h := laid_led e
    dsimp only
    split
    · exact ⟨h.1, fun z => h.2.trans z⟩
    · exact ⟨rfl, fun _ => rfl⟩
def kS : Value → Str
  | .str z _ => z
  | _ => ""
def TxSet (P : Program) (w : World) (h : Heap) (a : Addr) (led : Bool) (ds : List Str) : Prop := ∃ (o : Obj) (es : Array (Int × Value)) (ep : Nat) (t : SetTable), h.get? a = some o ∧ o.ExactSet ∧ o.data = .set es ep t ∧ ElemsOf (strKind P w) es.toList ∧ (∀ e ∈ es.toList, ∃ z k, e.2 = .str z k) ∧ (es.toList.map fun e => kS e.2).Perm ds ∧ t.fits es.size = true ∧ t.led = led ∧ (0 < es.size → t.plain = false)
theorem TxSet.size {es : Array (Int × Value)} {ds : List Str} (h : (es.toList.map fun e => kS e.2).Perm ds) : es.size = ds.length := by
  rw [← h.length_eq, List.length_map, Array.length_toList]
theorem TxSet.at {P : Program} {w : World} {h h' : Heap} {a : Addr} {led : Bool} {ds : List Str} (T : TxSet P w h a led ds) (k : ∀ o, h.get? a = some o → h'.get? a = some o) : TxSet P w h' a led ds := by
  obtain ⟨o, es, ep, t, ho, r⟩ := T
  exact ⟨o, es, ep, t, k _ ho, r⟩
section
variable {P : Program} {w : World} {A : Around} {E : Value → Shared → Prop} {s : Shared}
theorem tset_store {h : Heap} {a : Addr} {o : Obj} {es es' : Array (Int × Value)} {ep : Nat} {t t' : SetTable} {led : Bool} {ds : List Str} (ho : h.get? a = some o) (hx : o.ExactSet) (hd : o.data = .set es ep t) (hel : ElemsOf (strKind P w) es'.toList) (hst : ∀ e ∈ es'.toList, ∃ z k, e.2 = .str z k) (hp : (es'.toList.map fun e => kS e.2).Perm ds) (hf : t'.fits es'.size = true) (hl : t'.led = led) (hpl : t'.plain = false) :
    (h.update a (Obj.putSet es' t')).get? a = some { o with data := .set es' (ep + 1) t' } ∧ TxSet P w (h.update a (Obj.putSet es' t')) a led ds := by
  have g : (h.update a (Obj.putSet es' t')).get? a = some { o with data := .set es' (ep + 1) t' } := by
    have q := Heap.get?_update_self (Obj.putSet es' t') ho (by rw [putSet_of es' t' hd]; rfl)
    rw [putSet_of es' t' hd] at q
    exact q
  exact ⟨g, _, es', ep + 1, t', g, hx, rfl, hel, hst, hp, hf, hl, fun _ => hpl⟩
theorem add_tail {g : Bool → Sem Unit} (hg : ∀ (b : Bool) (s₁ : Shared) (Q' : Unit → Shared → Prop), Q' () s₁ → wpAny (model P w) A (g b) Q' E s₁) {a : Addr} {o : Obj} {es es1 : Array (Int × Value)} {ep : Nat} {t t2 : SetTable} {led wd : Bool} {ds : List Str} {R : Option Bool → Shared → Prop}
    (ho : s.heap.get? a = some o) (hx : o.ExactSet) (hd : o.data = .set es ep t) (hel1 : ElemsOf (strKind P w) es1.toList) (hst1 : ∀ e ∈ es1.toList, ∃ z k, e.2 = .str z k) (hp1 : (es1.toList.map fun e => kS e.2).Perm ds) (hb1 : es1.size < scanBound) (f2 : t2.fits es1.size = true) (l2 : t2.led = led) (p2 : t2.plain = false)
    (q : ∀ h', Heap.SameBut a s.heap h' → TxSet P w h' a led ds → R (some true) { s with heap := h' }) :
    wpAny (model P w) A (storeSet a es1 t2 >>= fun _ => if (!wd && t2.tooFull) = true then g (relayAll t2 es1 (SetTable.grown es1.size)).2.2 >>= fun _ => storeSet a (relayAll t2 es1 (SetTable.grown es1.size)).1 (relayAll t2 es1 (SetTable.grown es1.size)).2.1 >>= fun _ => pure (some true) else pure (some true)) R E s := by
  refine wpAny_bind (wpAny_storeSet_of ho hd ?_ (fits_of_scanBound hb1))
  obtain ⟨ho1, T1⟩ := tset_store (P := P) (w := w) ho hx hd hel1 hst1 hp1 f2 l2 p2
  have sb1 := Heap.SameBut.update s.heap a (Obj.putSet es1 t2)
  split
  · have rp := relayAll_perm t2 es1 (SetTable.grown es1.size)
    have rf := relayAll_fits t2 es1 (SetTable.grown es1.size)
    have rl := relay_led t2 es1 (SetTable.grown es1.size)
    generalize relayAll t2 es1 (SetTable.grown es1.size) = Rl at rp rf rl ⊢
    obtain ⟨es2, t3, g2⟩ := Rl
    dsimp only at rp rf rl ⊢
    have sz2 : es2.size = es1.size := by rw [← Array.length_toList, rp.length_eq, Array.length_toList]
    refine wpAny_bind (hg _ _ _ ?_)
    refine wpAny_bind (wpAny_storeSet_of ho1 rfl ?_ (fits_of_scanBound (by omega)))
    obtain ⟨_, T2⟩ := tset_store (P := P) (w := w) (led := led) (ds := ds) ho1 hx rfl (hel1.perm rp) (fun e he => hst1 e (rp.mem_iff.mp he)) ((rp.map fun e => kS e.2).trans hp1) rf (rl.1.trans l2) (rl.2 p2)
    exact wpAny_pure (q _ (sb1.trans (Heap.SameBut.update _ a _)) T2)
  · exact wpAny_pure (q _ sb1 T1)
theorem add_txt {a : Addr} {led : Bool} {ds : List Str} {z : Str} {k : Tok} {Q : Bool → Shared → Prop} (T : TxSet P w s.heap a led ds) (hb : ds.length + 1 < scanBound)
    (q : ∀ (b : Bool) (h' : Heap), Heap.SameBut a s.heap h' → TxSet P w h' a led (if z ∈ ds then ds else ds ++ [z]) → Q b { s with heap := h' }) : wpAny (model P w) A (setAddHashed a (.str z k) ((strKind P w).hash z)) Q E s := by
  obtain ⟨o, es, ep, t, ho, hx, hd, hel, hst, hp, hf, hl, hpl⟩ := T
  have hsz := TxSet.size hp
  have hkey := strKind_is P w z k
  have hsc : (Value.str z k).scannable = true := rfl
  unfold setAddHashed setAddHashedIn
  refine wpAny_holding (wpAny_bind (wpAny_setState_of ho hd hf ?_))
  dsimp only
  rw [byScan_of hsc (by omega) hel]
  simp only [↓reduceIte]
  unfold setAddByScan
  refine wpAny_bind (wpAny_bind (wpAny_rule (wpAny_bind (wpAny_setScan_of hkey ho hd hf hel ?_))))
  have mem : ∀ e ∈ es.toList, (strKind P w).is z e.2 = true ↔ kS e.2 = z := fun e he => by
    obtain ⟨z', k', e2⟩ := hst e he
    rw [e2]
    show Value.isStrOf z (.str z' k') = true ↔ z' = z
    simp [Value.isStrOf]
  cases hr : List.findIdx? (fun e => (strKind P w).is z e.2) es.toList with
  | some j =>
    dsimp only
    obtain ⟨hj, hpj, _⟩ := List.findIdx?_eq_some_iff_getElem.mp hr
    have zi : z ∈ ds := hp.mem_iff.mp (List.mem_map.mpr ⟨_, List.getElem_mem hj, (mem _ (List.getElem_mem hj)).mp hpj⟩)
    refine wpAny_pure (wpAny_pure ?_)
    have e : s = { s with heap := s.heap } := by cases s; rfl
    have := q false s.heap (Heap.SameBut.refl a s.heap) (by rw [if_pos zi]; exact ⟨o, es, ep, t, ho, hx, hd, hel, hst, hp, hf, hl, hpl⟩)
    rw [e]
    exact this
  | none =>
    dsimp only
    have zn : z ∉ ds := fun zi => by
      obtain ⟨e, he, e2⟩ := List.mem_map.mp (hp.mem_iff.mpr zi)
      have := List.findIdx?_eq_none_iff.mp hr e he
      rw [(mem e he).mpr e2] at this
      cases this
    rw [if_neg zn] at q
    have hpm := layNew_perm t es ((strKind P w).hash z) (.str z k)
    have hft := layNew_fits t es ((strKind P w).hash z) (.str z k)
    have hld := layNew_led t es ((strKind P w).hash z) (.str z k)
    generalize layNew t es ((strKind P w).hash z) (.str z k) = L at hpm hft hld ⊢
    obtain ⟨es1, t1, wd, gv⟩ := L
    dsimp only at hpm hft hld ⊢
    rw [Array.toList_push] at hpm
    have hel1 : ElemsOf (strKind P w) es1.toList := (hel.push hkey hsc).perm hpm
    have hst1 : ∀ e ∈ es1.toList, ∃ z k, e.2 = .str z k := fun e he => by
      rcases List.mem_append.mp (hpm.mem_iff.mp he) with h | h
      · exact hst e h
      · rw [List.mem_singleton.mp h]; exact ⟨z, k, rfl⟩
    have hp1 : (es1.toList.map fun e => kS e.2).Perm (ds ++ [z]) := by
      have h1 := hpm.map fun e => kS e.2
      rw [List.map_append] at h1
      exact h1.trans (hp.append_right _)
    have hsz1 := TxSet.size hp1
    rw [List.length_append, List.length_singleton] at hsz1
    have gw : ∀ (b : Bool) {s₁ : Shared} {Q' : Unit → Shared → Prop}, Q' () s₁ → wpAny (model P w) A (match b with | true => rule "set.scan.the-table-gave-way" | false => pure ()) Q' E s₁ := fun b s₁ Q' hq => by cases b <;> first | exact wpAny_pure hq | exact wpAny_rule hq
    refine wpAny_bind (gw _ ?_)
    have fin : ∀ h', Heap.SameBut a s.heap h' → TxSet P w h' a led (ds ++ [z]) → Q true { s with heap := h' } := fun h' b t => q true h' b t
    have hb1 : es1.size < scanBound := by omega
    split
    · refine wpAny_bind ?_
      rw [hashByValue_scannable 8 hsc]
      refine wpAny_pure ?_
      refine add_tail ?_ ho hx hd hel1 hst1 hp1 hb1 (SetTable.fits_plain_off hft) (hld.trans hl) rfl ?_
      · intro b s₁ Q' hq; cases b <;> first | exact wpAny_pure hq | exact wpAny_rule hq
      · intro h' hsb hS'; dsimp only; exact wpAny_pure (fin h' hsb hS')
    · rename_i np
      refine wpAny_bind (wpAny_pure ?_)
      simp only [↓reduceIte]
      refine add_tail ?_ ho hx hd hel1 hst1 hp1 hb1 hft (hld.trans hl) (by simpa using np) ?_
      · intro b s₁ Q' hq; cases b <;> first | exact wpAny_pure hq | exact wpAny_rule hq
      · intro h' hsb hS'; dsimp only; exact wpAny_pure (fin h' hsb hS')
end
end L2
namespace L2
open PySem PySem.Spec PyProof.Rows
def metS (val : Nat → Str) : Nat → List Str
  | 0 => []
  | i + 1 => if val i ∈ metS val i then metS val i else metS val i ++ [val i]
theorem metS_len (val : Nat → Str) : ∀ i, (metS val i).length ≤ i
  | 0 => Nat.le_refl _
  | i + 1 => by
    have := metS_len val i
    show (if val i ∈ metS val i then metS val i else metS val i ++ [val i]).length ≤ i + 1
    split
    · omega
    · rw [List.length_append, List.length_singleton]; omega
section
variable {P : Program} {w : World} {A : Around} {R : Result → Shared → Prop} {I : Addr} {fp wr : List Addr} {G : Array GenState → Array GenState → Prop} {n : Nat} {Pv : Nat → Value → Prop} {St : Nat → Shared → Prop}
theorem loop_txt (W : WalksS P w A.in1 I fp wr G n Pv St) (S : Addr) (hSf : S ∉ fp) (val : Nat → Str) (hval : ∀ i v, Pv i v → ∃ t, v = .str (val i) t) (hb : n + 1 < scanBound) (led : Bool) :
    ∀ (k i : Nat) (s : Shared), n - i = k → i ≤ n → St i s → TxSet P w s.heap S led (metS val i) →
      (∀ s', Moved (S :: wr) G s s' → TxSet P w s'.heap S led (metS val n) → R (.ok (.ret .none)) s') →
      codeAny (model P w) A (.builtin "set.update.loop" ⟨[.ref S, .ref I], []⟩) R s := by
  have hSw : S ∉ wr := fun h => hSf (W.sub _ h)
  have sub : ∀ b ∈ wr, b ∈ S :: wr := fun b hb => List.mem_cons_of_mem _ hb
  intro k
  induction k with
  | zero =>
    intro i s hk hi hst hS hR
    obtain rfl : i = n := by omega
    refine codeAny_builtin F.entry_set_update_loop ?_
    rw [Around.under_plainId F.plain_set_update_loop _]
    show wpAny _ A.in1 (pyNext (.ref I) >>= _) _ _ s
    refine wpAny_bind (W.done s _ _ hst fun s' hm => ?_)
    show wpAny _ A.in1 (ret Value.none) _ _ s'
    exact wpAny_pure (hR s' (hm.mono sub) (hS.at fun o e => hm.heap S _ hSw e))
  | succ k ih =>
    intro i s hk hi hst hS hR
    have hlt : i < n := by omega
    refine codeAny_builtin F.entry_set_update_loop ?_
    rw [Around.under_plainId F.plain_set_update_loop _]
    show wpAny _ A.in1 (pyNext (.ref I) >>= _) _ _ s
    refine wpAny_bind (W.item i s _ _ hlt hst fun v s' hP hst' hm => ?_)
    obtain ⟨t, rfl⟩ := hval i v hP
    have hS' : TxSet P w s'.heap S led (metS val i) := hS.at fun o e => hm.heap S _ hSw e
    show wpAny _ A.in1 (holding [Value.str (val i) t] (setAdd S (.str (val i) t)) >>= _) _ _ s'
    refine wpAny_bind (wpAny_holding ?_)
    unfold setAdd
    refine wpAny_holding ?_
    refine wpAny_bind ((strKind P w).pyHash (k := val i) (strKind_is _ _ _ _) ?_)
    have room : (metS val i).length + 1 < scanBound := by have := metS_len val i; omega
    refine add_txt (s := { s' with toks := s'.toks + 1 }) hS' room fun b h' hsb hS2 => ?_
    refine wpAny_pure ⟨plainId_quiet F.plain_set_update_loop _, ih (i + 1) _ (by omega) hlt (W.frame _ s' _ _ hst' (Nat.le_succ _) fun b hb o e => ?_) hS2 fun s'' hm'' hS'' => ?_⟩
    · rw [hsb.2 b (fun h : b = S => hSf (by rw [← h]; exact hb))]; exact e
    · refine hR s'' (Moved.trans W.gtrans ((hm.mono sub).then_heap (Nat.le_succ _) fun b o hb e => ?_) hm'') hS''
      rw [hsb.2 b (fun h : b = S => hb (by rw [h]; exact List.mem_cons_self))]; exact e
end
section
variable {P : Program} {w : World} {A : Around} {E : Value → Shared → Prop} {s : Shared}
abbrev ledW (w : World) : Bool := !(w.params.followText "set-order")
theorem set_new1 (a : Value) {Q₁ : Value → Shared → Prop} (h : Q₁ (.ref s.heap.objs.size) { s with heap := s.heap.push { cls := .type "set", dict := none, data := .set #[] 0 (.fresh 0 0 (ledW w)) } }) :
    codeAny (model P w) A (.call (.builtin "set.__new__") ⟨[.type "set", a], []⟩) (wants Q₁ E) s := by
  refine codeAny_of_tree ?_
  show wpAny _ A.in1 (do checkBuiltinCall "set.__new__" ⟨[.type "set", a], []⟩; again (.builtin "set.__new__" ⟨[.type "set", a], []⟩)) _ _ s
  refine wpAny_bind (wpAny_of_eq (F.newCall_set_1 a) (wpAny_pure ⟨plainId_quiet F.plain_set_new _, codeAny_builtin F.entry_set_new ?_⟩))
  rw [Around.under_plainId F.plain_set_new _]
  unfold Builtin.«set.__new__» Builtin.Frozenset.newClass
  have hsub := sub_set_self
  obtain ⟨hp, g, d, tk, os⟩ := s
  dsimp only
  wp_walk
  refine wpAny_askSetting (wpAny_pure ?_)
  dsimp only
  simp only [newObj]
  refine wpAny_bind (wpAny_alloc (wpAny_pure ?_))
  exact wpAny_pure h
theorem txset_fresh {h : Heap} {a : Addr} {led : Bool} (e : h.get? a = some { cls := .type "set", dict := none, data := .set #[] 0 (.fresh 0 0 led) }) : TxSet P w h a led [] :=
  ⟨_, #[], 0, _, e, ⟨rfl, rfl, rfl⟩, rfl, fun e he => by simp at he, fun e he => by simp at he, by simp, rfl, rfl, fun z => absurd z (Nat.lt_irrefl 0)⟩
end
end L2
namespace L2
open PySem PySem.Spec PyProof.Rows
section
variable {P : Program} {w : World} {A : Around} {E : Value → Shared → Prop} {s : Shared}
abbrev newS (w : World) : Obj := { cls := .type "set", dict := none, data := .set #[] 0 (.fresh 0 0 (ledW w)) }
theorem set_init_txt {l S : Addr} {items : Array Value} {val : Nat → Str} {h0 : Heap} {Q : Value → Shared → Prop} (hh : A.handled = none) (hs : s.heap = h0.push (newS w)) (hS : S = h0.objs.size) (hl : h0.IsList l items) (hi : ∀ i v, items[i]? = some v → ∃ t, v = Value.str (val i) t) (hb : items.size + 1 < scanBound)
    (q : ∀ (h' : Heap) (tk : Nat), TxSet P w h' S (ledW w) (metS val items.size) → (∀ b o, b < h0.objs.size → h0.get? b = some o → h'.get? b = some o) → Q .none { s with heap := h', toks := tk }) :
    codeAny (model P w) A (.call (.builtin "set.__init__") ⟨[.ref S, .ref l], []⟩) (wants Q E) s := by
  have gS : s.heap.get? S = some (newS w) := by rw [hs, hS]; exact Heap.get?_push_size _ rfl
  have tS : s.TypeIs (.ref S) "set" := ⟨_, gS, rfl⟩
  refine codeAny_mono (codeAny_call_builtin (R := wants Q E) F.called_set.init.plain F.entry_set_init (check_set_init_1 tS ?_)) fun r s2 h => h
  obtain ⟨ol, hol, hcl, nl, hdl⟩ := hl
  obtain ⟨oc, od, oda, osl⟩ := ol
  simp only at hcl hdl
  subst hcl; subst hdl
  have hlS : l < h0.objs.size := Heap.lt_size hol
  have hol' : s.heap.get? l = some { cls := .type "list", dict := od, data := .seq items nl, slots := osl } := by rw [hs]; exact Heap.get?_push_of_some _ hol
  have n1 := F.sub_list_set
  have n2 := F.sub_list_frozenset
  have n3 : (Value.type "list" == Value.type "dict") = false := by decide
  have hl1 : s.heap.IsList l items := ⟨_, hol', rfl, nl, rfl⟩
  unfold Builtin.«set.__init__» noKeywords Builtin.Frozenset.updateFrom
  generalize hPI : pyIter = PI
  wp_walk
  subst hPI
  refine wpAny_pyIter_list hl1 ?_
  refine wpAny_bind (wpAny_runValue ?_)
  have h3 : A.in1.in1.handled = none := by simp [hh]
  have sz : s.heap.objs.size = h0.objs.size + 1 := by rw [hs, Heap.size_push]
  have nI : l ≠ s.heap.objs.size := by rw [sz]; exact Nat.ne_of_lt (Nat.lt_succ_of_lt hlS)
  have hSf : S ∉ [s.heap.objs.size, l] := by
    rw [sz, hS]
    simp only [List.mem_cons, List.mem_singleton, List.not_mem_nil, or_false, not_or]
    exact ⟨Nat.ne_of_lt (Nat.lt_succ_self _), Nat.ne_of_gt hlS⟩
  refine loop_txt ((Walks.list h3 _ l nI items).toS) S hSf val hi hb (ledW w) (items.size - 0) 0 _ (by omega) (Nat.zero_le _) ?hst ?hS0 ?hR
  case hst => exact ⟨⟨_, Heap.get?_push_size _ rfl, rfl, rfl⟩, hl1.push _⟩
  case hS0 => exact txset_fresh (Heap.get?_push_of_some _ gS)
  intro s' hm hS'
  obtain ⟨h', g', d', tk', os'⟩ := s'
  have eg : g' = s.gens := hm.gens
  have ed : d' = s.drawn := hm.drawn
  have eo : os' = s.os := hm.os
  subst eg; subst ed; subst eo
  show wpAny _ _ _ _ _ _
  refine wpAny_pure ?_
  show wpAny _ _ (ret Value.none) _ _ _
  refine wpAny_pure (q h' tk' hS' fun b o hb e => ?_)
  refine hm.heap b o ?_ (Heap.get?_push_of_some _ (show s.heap.get? b = some o by rw [hs]; exact Heap.get?_push_of_some _ e))
  rw [sz, hS]
  simp only [List.mem_cons, List.mem_singleton, List.not_mem_nil, or_false, not_or]
  exact ⟨Nat.ne_of_lt hb, Nat.ne_of_lt (Nat.lt_succ_of_lt hb)⟩
theorem call_set_txt {l : Addr} {items : Array Value} {val : Nat → Str} {Q : Value → Shared → Prop} (hh : A.handled = none) (hl : s.heap.IsList l items) (hi : ∀ i v, items[i]? = some v → ∃ t, v = Value.str (val i) t) (hb : items.size + 1 < scanBound)
    (q : ∀ (h' : Heap) (tk : Nat), TxSet P w h' s.heap.objs.size (ledW w) (metS val items.size) → (∀ b o, b < s.heap.objs.size → s.heap.get? b = some o → h'.get? b = some o) → Q (.ref s.heap.objs.size) { s with heap := h', toks := tk }) :
    wpAny (model P w) A (call (.type "set") [.ref l]) Q E s := by
  obtain ⟨c, tl, hmro⟩ := F.called_set.mro
  have hmade := F.called_set.made
  have hsub := F.called_set.sub
  refine wpAny_call (codeAny_of_tree ?_)
  show wpAny _ _ (callAny (.type "set") _) _ _ _
  refine wpAny_pure ⟨Code.quiet_builtin _ (by decide +kernel), codeAny_builtin F.entry_type_call ?_⟩
  rw [Around.under_plain (weight_type_call_type "set" [.ref l] []) rfl]
  have h1 := F.called_set.notType
  have h2 := F.called_set.canCreate
  have hct := F.typeCall_set_1 (.ref l)
  repeat (any_goals (first | assumption | wp_step))
  refine codeAny_mono (set_new1 (.ref l) (E := E) (Q₁ := fun v s1 => v = .ref s.heap.objs.size ∧ s1 = { s with heap := s.heap.push (newS w) }) ⟨rfl, rfl⟩) fun r s1 hr => ?_
  cases r with
  | error e => exact hr
  | ok fl =>
    cases fl with
    | ret obj =>
      obtain ⟨rfl, rfl⟩ := hr
      have hT : Shared.TypeIs { s with heap := s.heap.push (newS w) } (.ref s.heap.objs.size) "set" := ⟨_, Heap.get?_push_size _ rfl, rfl⟩
      have hli := F.called_set.init.lookup
      have hbi := F.called_set.init.bind (.ref s.heap.objs.size)
      repeat (any_goals (first | assumption | wp_step))
      refine codeAny_mono (set_init_txt (h0 := s.heap) (Q := fun v s2 => v = .none ∧ ∃ h' tk, s2 = { s with heap := h', toks := tk } ∧ TxSet P w h' s.heap.objs.size (ledW w) (metS val items.size) ∧ ∀ b o, b < s.heap.objs.size → s.heap.get? b = some o → h'.get? b = some o) (E := E) ?_ rfl rfl hl hi hb fun h' tk a b => ⟨rfl, h', tk, rfl, a, b⟩) fun r2 s2 hr2 => ?_
      · simp [hh]
      · cases r2 with
        | error e => exact hr2
        | ok fl2 =>
          cases fl2 with
          | ret r =>
            obtain ⟨rfl, h', tk, rfl, hS', hk'⟩ := hr2
            repeat (any_goals (first | assumption | wp_step))
            exact q _ _ hS' hk'
          | _ => exact hr2.elim
    | _ => exact hr.elim
end
end L2
namespace L2
open PySem PySem.Spec PyProof.Rows
theorem slot_sit (n : String) (id : String) (nm : Str) (hl : typeLookup (.type "set_iterator") nm = pure (some (.builtin id))) (hs : splitId id = some ("set_iterator", n)) (h1 : withoutEnding? id "#opaque" = none) (h2 : withoutEnding? id "#data" = none) (h3 : (Manifest.find? "set_iterator").bind (·.attrs.lookup n) = some .slot) (h4 : plainId id = true) : Slot "set_iterator" nm id :=
  .of hl hs h1 h2 (.inl h3) (by rw [isSubtype_type]; kernel_rfl) h4
theorem slot_sit_next : Slot "set_iterator" "__next__" "set_iterator.__next__" := slot_sit "__next__" _ _ (by rw [typeLookup_type, builtinLookup_eq_fast]; kernel_rfl) (by decide +kernel) (by decide +kernel) (by decide +kernel) (by decide +kernel) (by decide +kernel)
theorem entry_sit_next : entryFor table "set_iterator.__next__" = some Builtin.«set_iterator.__next__» := entryFor_of_fast (by kernel_rfl)
theorem entry_set_it : entryFor table "set.__iter__" = some Builtin.«frozenset.__iter__» := entryFor_alias (id' := "frozenset.__iter__") (by kernel_rfl) rfl (by decide +kernel) (by kernel_rfl)
theorem args_sit_next (a : Value) : argsOk "set_iterator.__next__" ⟨[a], []⟩ := by unfold argsOk; kernel_rfl
theorem erase_perm {α : Type} : ∀ (l : List α) (i : Nat) (x : α), l[i]? = some x → (x :: l.eraseIdx i).Perm l
  | [], i, x, h => by cases h
  | a :: r, 0, x, h => by cases h; exact List.Perm.refl _
  | a :: r, i + 1, x, h => by
    have ih := erase_perm r i x h
    show (x :: a :: r.eraseIdx i).Perm (a :: r)
    exact (List.Perm.swap a x _).trans (ih.cons a)
theorem pick_go {α : Type} (next : Nat → Nat) : ∀ (f k : Nat) (left : List α) (out : Array α), left.length = f → (pickOrder.go next f k left out).toList.Perm (out.toList ++ left)
  | 0, k, left, out, h => by
    rw [List.length_eq_zero_iff.mp h, List.append_nil]
    exact List.Perm.refl _
  | f + 1, k, left, out, h => by
    have lt : next k % left.length < left.length := Nat.mod_lt _ (by omega)
    have e : left[next k % left.length]? = some (left[next k % left.length]) := List.getElem?_eq_getElem lt
    unfold pickOrder.go
    rw [e]
    have ih := pick_go next f (k + 1) (left.eraseIdx (next k % left.length)) (out.push left[next k % left.length]) (by rw [List.length_eraseIdx]; rw [if_pos lt]; omega)
    refine ih.trans ?_
    rw [Array.toList_push, List.append_assoc]
    exact (erase_perm _ _ _ e).append_left _
theorem pick_perm {α : Type} (next : Nat → Nat) (xs : Array α) : (pickOrder next xs).toList.Perm xs.toList := by
  have := pick_go next xs.size 0 xs.toList #[] Array.length_toList
  exact this
section
variable {M : Model} {A : Around} {E : Value → Shared → Prop}
theorem wp_chs {s : Shared} {src : Source} {n : Nat} {Q : Nat → Shared → Prop} (h0 : n ≠ 0) (h : ∀ j d, j < n → Q j { s with drawn := d }) : wpAny M A (choose src n) Q E s := fun _ _ _ => ⟨h0, h _ _ (Nat.mod_lt _ (Nat.pos_of_ne_zero h0))⟩
theorem wp_draw {α : Type} : ∀ (n : Nat) (xs : List α) (s : Shared) (Q : List α → Shared → Prop), xs.length = n → (∀ ys d, ys.Perm xs → Q ys { s with drawn := d }) → wpAny M A (drawOrder n xs) Q E s
  | 0, xs, s, Q, h, q => by
    rw [List.length_eq_zero_iff.mp h] at q ⊢
    unfold drawOrder
    exact wpAny_pure (q [] s.drawn (List.Perm.refl _))
  | n + 1, [], s, Q, h, q => by cases h
  | n + 1, a :: r, s, Q, h, q => by
    unfold drawOrder
    refine wpAny_bind (wp_chs (by rw [h]; exact Nat.succ_ne_zero _) fun j d lj => ?_)
    have e : (a :: r)[j]? = some ((a :: r)[j]) := List.getElem?_eq_getElem lj
    rw [e]
    refine wpAny_bind (wp_draw n ((a :: r).eraseIdx j) _ _ (by rw [List.length_eraseIdx, if_pos lj]; omega) fun ys d2 p => ?_)
    exact wpAny_pure (q _ d2 ((p.cons _).trans (erase_perm _ _ _ e)))
end
end L2
namespace L2
open PySem PySem.Spec PyProof.Rows
def IsSit (h : Heap) (I S : Addr) (fst : Value) (i n ep : Nat) : Prop := ∃ o, h.get? I = some o ∧ o.cls = .type "set_iterator" ∧ o.data = .fields #[fst, .int i 0, .ref S, .int n 0, .int ep 0]
abbrev byT (w : World) : Bool := w.params.followText "set-order"
def SMode (w : World) (h : Heap) (S : Addr) (es : Array (Int × Value)) (ep : Nat) (t : SetTable) (vals : List Value) (fst : Value) (i : Nat) : Prop :=
  (byT w = true ∧ fst = .int 0 0 ∧ vals = (pickOrder (w.params.setOrder S ep) es).toList.map (·.2)) ∨
  (byT w = false ∧ ∃ (Pt : Addr) (ps : List Nat) (o : Obj) (n : Nat), fst = .ref Pt ∧ h.get? Pt = some o ∧ o.data = .seq (ps.map fun p : Nat => Value.int p 0).toArray n ∧ ps.Perm (List.range es.size) ∧ vals = ps.map fun p => (es.toList.getD p (0, .none)).2) ∨
  (byT w = false ∧ es.size ≤ 1 ∧ (!t.plain && decide (1 < es.size)) = false ∧ (!t.led && !es.isEmpty) = false ∧ ∃ k : Nat, fst = .int k 0 ∧ vals = es.toList.map (·.2) ∧ (i = 0 → k = 0) ∧ (i = 1 → ∃ j, t.place[0]? = some j ∧ k = j + 1))
theorem range_getD (l : List (Int × Value)) : ((List.range l.length).map fun p => (l.getD p (0, Value.none)).2) = l.map (·.2) := by
  refine List.ext_getElem (by simp) fun i h1 h2 => ?_
  simp at h1 h2
  simp [List.getD_eq_getElem?_getD, h1]
theorem SMode.perm {w : World} {h : Heap} {S : Addr} {es : Array (Int × Value)} {ep : Nat} {t : SetTable} {vals : List Value} {fst : Value} {i : Nat} (m : SMode w h S es ep t vals fst i) : vals.Perm (es.toList.map (·.2)) := by
  rcases m with ⟨_, _, rfl⟩ | ⟨_, Pt, ps, o, n, _, _, _, p, rfl⟩ | ⟨_, _, _, _, k, _, rfl, _⟩
  · exact (pick_perm _ _).map _
  · have := p.map fun p => (es.toList.getD p (0, Value.none)).2
    rw [← Array.length_toList, range_getD] at this
    exact this
  · exact List.Perm.refl _
section
variable {P : Program} {w : World} {A : Around} {E : Value → Shared → Prop} {s : Shared}
theorem iter_set {S : Addr} {o : Obj} {es : Array (Int × Value)} {ep : Nat} {t : SetTable} {Q : Value → Shared → Prop} (ho : s.heap.get? S = some o) (hx : o.ExactSet) (hd : o.data = .set es ep t) (hf : t.fits es.size = true) (hl : t.led = !byT w) (hp : 0 < es.size → t.plain = false) (hb : es.size < scanBound)
    (q : ∀ (I : Addr) (h' : Heap) (d : Drawn) (vals : List Value) (fst : Value), (∀ b o, s.heap.get? b = some o → h'.get? b = some o) → s.heap.objs.size ≤ I → IsSit h' I S fst 0 es.size ep → SMode w h' S es ep t vals fst 0 → (∀ Pt, fst = .ref Pt → Pt ≠ I ∧ s.heap.objs.size ≤ Pt) → Q (.ref I) { s with heap := h', drawn := d }) :
    wpAny (model P w) A (pyIter (.ref S)) Q E s := by
  have tS : s.TypeIs (.ref S) "set" := ⟨o, ho, hx.1⟩
  refine wpAny_pyIter_slot tS F.slot_set_iter (wpAny_call_entry F.slot_set_iter tS entry_set_it ?_ (F.args_set_iter_1 _))
  show wpAny _ _ (Builtin.Frozenset.sizeOf S >>= _) _ _ s
  refine wpAny_bind ?_
  unfold Builtin.Frozenset.sizeOf
  refine wpAny_bind (wpAny_setEntries_of ho hd hf (wpAny_pure ?_))
  show wpAny _ _ (setDrawn S >>= _) _ _ s
  refine wpAny_bind ?_
  unfold setDrawn setsByText
  refine wpAny_bind (wpAny_setState_of ho hd hf ?_)
  dsimp only
  refine wpAny_bind (wpAny_bind (wpAny_askSetting (wpAny_pure ?_)))
  refine wpAny_pure ?_
  show wpAny _ _ (if (!byT w && (!t.plain && decide (es.size > 1))) = true then _ else _) _ _ s
  by_cases c : (!byT w && (!t.plain && decide (es.size > 1))) = true
  · rw [if_pos c]
    obtain ⟨c1, c2⟩ := Bool.and_eq_true_iff.mp c
    have nb : byT w = false := by simpa using c1
    refine wpAny_bind (wp_draw es.size (List.range es.size) s _ List.length_range fun ys d p => ?_)
    refine wpAny_bind ?_
    simp only [newTuple]
    refine wpAny_newObj_type ?_ ?_
    rotate_left
    · have l1 := p.length_eq
      rw [List.length_range] at l1
      have := fits_of_scanBound hb
      show ((List.map (fun i : Nat => rawInt (i : Int)) ys).toArray).size ≤ sizeLine
      rw [List.size_toArray, List.length_map]
      omega
    refine wpAny_bind (wpAny_setEpoch_of (Heap.get?_push_of_some _ ho) hd hf ?_)
    refine wpAny_bind (wpAny_newObj_type (wpAny_pure ⟨_, rfl, "set_iterator", _, ⟨_, Heap.get?_push_size _ rfl, rfl⟩, slot_sit_next.lookup, ?_⟩))
    refine q _ _ d (ys.map fun p => (es.toList.getD p (0, .none)).2) _ (fun b o e => Heap.get?_push_of_some _ (Heap.get?_push_of_some _ e)) ?_ ⟨_, Heap.get?_push_size _ rfl, rfl, rfl⟩ (.inr (.inl ⟨nb, s.heap.objs.size, ys, _, _, rfl, Heap.get?_push_of_some _ (Heap.get?_push_size _ rfl), rfl, p, rfl⟩)) fun Pt e => ?_
    · rw [Heap.size_push]; exact Nat.le_succ _
    · cases e
      rw [Heap.size_push]
      exact ⟨Nat.ne_of_lt (Nat.lt_succ_self _), Nat.le_refl _⟩
  · rw [if_neg c]
    refine wpAny_bind (wpAny_pure ?_)
    refine wpAny_bind (wpAny_setEpoch_of ho hd hf ?_)
    refine wpAny_bind (wpAny_newObj_type (wpAny_pure ⟨_, rfl, "set_iterator", _, ⟨_, Heap.get?_push_size _ rfl, rfl⟩, slot_sit_next.lookup, ?_⟩))
    have go : ∀ vals, SMode w (s.heap.push { cls := .type "set_iterator", data := .fields [rawInt 0, rawInt 0, Value.ref S, rawInt es.size, rawInt ep].toArray }) S es ep t vals (.int 0 0) 0 → Q (.ref s.heap.objs.size) { s with heap := s.heap.push { cls := .type "set_iterator", data := .fields [rawInt 0, rawInt 0, Value.ref S, rawInt es.size, rawInt ep].toArray } } := fun vals m =>
      q _ _ s.drawn vals _ (fun b o e => Heap.get?_push_of_some _ e) (Nat.le_refl _) ⟨_, Heap.get?_push_size _ rfl, rfl, rfl⟩ m fun Pt e => by cases e
    cases hbt : byT w with
    | true => exact go _ (.inl ⟨hbt, rfl, rfl⟩)
    | false =>
      rw [hbt] at c
      have c3 : ¬ (!t.plain && decide (es.size > 1)) = true := by simpa using c
      have le1 : es.size ≤ 1 := by
        by_cases z : 0 < es.size
        · rw [hp z] at c3
          simp at c3
          omega
        · omega
      refine go _ (.inr (.inr ⟨hbt, le1, by simpa using c3, ?_, 0, rfl, rfl, fun _ => rfl, fun z => by cases z⟩))
      rw [hl, hbt]
      rfl
end
end L2
namespace L2
open PySem PySem.Spec PyProof.Rows
section
variable {P : Program} {w : World} {A : Around} {E : Value → Shared → Prop} {s : Shared}
theorem sn_text {S : Addr} {o : Obj} {es : Array (Int × Value)} {ep : Nat} {t : SetTable} {R : Option (Value × Nat) → Shared → Prop} (ho : s.heap.get? S = some o) (hd : o.data = .set es ep t) (hf : t.fits es.size = true) (bt : byT w = true) (k i : Nat) (q : R (((pickOrder (w.params.setOrder S ep) es)[i]?).map fun e => (e.2, k)) s) : wpAny (model P w) A (setNext S k i ep) R E s := by
  unfold setNext setsByText
  refine wpAny_bind (wpAny_setState_of ho hd hf ?_)
  dsimp only
  refine wpAny_bind (wpAny_bind (wpAny_askSetting (wpAny_pure ?_)))
  show wpAny _ _ (if byT w = true then _ else _) _ _ s
  rw [if_pos bt, show (ep != ep) = false by simp, if_neg Bool.false_ne_true]
  unfold setWalk setsByText
  refine wpAny_bind (wpAny_bind (wpAny_setState_of ho hd hf ?_))
  dsimp only
  refine wpAny_bind (wpAny_bind (wpAny_askSetting (wpAny_pure ?_)))
  show wpAny _ _ (if byT w = true then _ else _) _ _ s
  rw [if_pos bt]
  exact wpAny_bind (wpAny_askSetting (wpAny_pure (wpAny_pure q)))
theorem sn_place {S : Addr} {o : Obj} {es : Array (Int × Value)} {ep : Nat} {t : SetTable} {R : Option (Value × Nat) → Shared → Prop} (ho : s.heap.get? S = some o) (hd : o.data = .set es ep t) (hf : t.fits es.size = true) (bt : byT w = false) (dr : (!t.plain && decide (1 < es.size)) = false) (ld : (!t.led && !es.isEmpty) = false) (k i : Nat)
    (q : R (match es[SetTable.below t.place k]?, t.place[SetTable.below t.place k]? with | some (_, x), some j => some (x, j + 1) | _, _ => none) s) : wpAny (model P w) A (setNext S k i ep) R E s := by
  unfold setNext setsByText
  refine wpAny_bind (wpAny_setState_of ho hd hf ?_)
  dsimp only
  refine wpAny_bind (wpAny_bind (wpAny_askSetting (wpAny_pure ?_)))
  show wpAny _ _ (if byT w = true then _ else if (!t.plain && decide (es.size > 1)) = true then _ else _) _ _ s
  rw [bt, if_neg Bool.false_ne_true, show (!t.plain && decide (es.size > 1)) = false from dr, if_neg Bool.false_ne_true]
  refine wpAny_bind ?_
  show wpAny _ _ (if (!t.led && !es.isEmpty) = true then _ else _) _ _ s
  rw [ld, if_neg Bool.false_ne_true]
  exact wpAny_pure (wpAny_pure q)
theorem sit_set0 {I S : Addr} {fst : Value} {i n ep : Nat} {Q : Unit → Shared → Prop} (hit : IsSit s.heap I S fst i n ep) (x : Value) (q : ∀ h', Heap.SameBut I s.heap h' → IsSit h' I S x i n ep → Q () { s with heap := h' }) : wpAny (model P w) A (setField (.ref I) 0 x) Q E s := by
  obtain ⟨o, ho, hc, hd⟩ := hit
  refine wpAny_setField ho hd (by simp) (q _ (Heap.SameBut.update ..) ⟨_, Heap.get?_update_self _ ho (Obj.isFreed_of_fields (Obj.data_mapFields hd _)), (Obj.cls_mapFields ..).trans hc, ?_⟩)
  rw [Obj.data_mapFields hd]
  simp
theorem sit_set1 {I S : Addr} {fst : Value} {i n ep : Nat} {Q : Unit → Shared → Prop} (hit : IsSit s.heap I S fst i n ep) (q : ∀ h', Heap.SameBut I s.heap h' → IsSit h' I S fst (i + 1) n ep → Q () { s with heap := h' }) : wpAny (model P w) A (setField (.ref I) 1 (rawInt ((i : Int) + 1))) Q E s := by
  obtain ⟨o, ho, hc, hd⟩ := hit
  refine wpAny_setField ho hd (by simp) (q _ (Heap.SameBut.update ..) ⟨_, Heap.get?_update_self _ ho (Obj.isFreed_of_fields (Obj.data_mapFields hd _)), (Obj.cls_mapFields ..).trans hc, ?_⟩)
  rw [Obj.data_mapFields hd]
  simp [rawInt]
theorem below_one (j k : Nat) : SetTable.below #[j] k = if j < k then 1 else 0 := by
  unfold SetTable.below
  show SetTable.below.go #[j] k 1 0 1 = _
  unfold SetTable.below.go
  simp
  by_cases c : j < k
  · rw [if_pos c, if_pos c]; rfl
  · rw [if_neg c, if_neg c]; rfl
theorem next_set {S I : Addr} {o : Obj} {es : Array (Int × Value)} {ep i : Nat} {t : SetTable} {vals : List Value} {fst v : Value} {Q : Option Value → Shared → Prop} (hit : IsSit s.heap I S fst i es.size ep) (ho : s.heap.get? S = some o) (hd : o.data = .set es ep t) (hf : t.fits es.size = true) (m : SMode w s.heap S es ep t vals fst i) (nI : ∀ Pt, fst = .ref Pt → Pt ≠ I) (hv : vals[i]? = some v)
    (q : ∀ (h' : Heap) (fst' : Value), Heap.SameBut I s.heap h' → IsSit h' I S fst' (i + 1) es.size ep → SMode w h' S es ep t vals fst' (i + 1) → (∀ Pt, fst' = .ref Pt → fst = .ref Pt) → Q (some v) { s with heap := h' }) :
    wpAny (model P w) A (pyNext (.ref I)) Q E s := by
  obtain ⟨oi, hoi, hci, hdi⟩ := id hit
  have tI : s.TypeIs (.ref I) "set_iterator" := ⟨oi, hoi, hci⟩
  unfold pyNext
  refine wpAny_bind (wpAny_attempt (wpAny_callSpecial?_slot (name := Str.ofString "__next__") tI slot_sit_next (wpAny_call_entry slot_sit_next tI entry_sit_next ?_ (args_sit_next _))))
  show wpAny _ _ (fieldsOf (.ref I) >>= _) _ _ s
  refine wpAny_bind (wpAny_fieldsOf hoi hdi ?_)
  show wpAny _ _ (setEntries S >>= _) _ _ s
  refine wpAny_bind (wpAny_setEntries_of ho hd hf ?_)
  have ne : ((es.size : Int) != (es.size : Int)) = false := by simp
  dsimp only
  rw [ne]
  rw [if_neg Bool.false_ne_true]
  rcases m with ⟨bt, rfl, hvs⟩ | ⟨bt, Pt, ps, po, pn, rfl, hpt, hpd, pp, hvs⟩ | ⟨bt, le1, dr, ld, k, rfl, hvs, k0, k1⟩
  · dsimp only
    simp only [Int.toNat_natCast]
    rw [hvs, List.getElem?_map] at hv
    obtain ⟨e, ee, ev⟩ := Option.map_eq_some_iff.mp hv
    refine wpAny_bind (sn_text ho hd hf bt _ _ ?_)
    rw [← Array.getElem?_toList, ee]
    refine wpAny_bind (sit_set0 hit _ fun h1 b1 i1 => wpAny_bind (sit_set1 (s := { s with heap := h1 }) i1 fun h2 b2 i2 => wpAny_pure ⟨_, rfl, wpAny_pure ?_⟩))
    show Q (some e.2) { s with heap := h2 }
    rw [show e.2 = v from ev]
    exact q h2 _ (b1.trans b2) i2 (.inl ⟨bt, rfl, hvs⟩) fun Pt z => by cases z
  · dsimp only
    simp only [Int.toNat_natCast]
    refine wpAny_bind (wpAny_seqItems hpt hpd ?_)
    dsimp only
    have hv0 := hv
    rw [hvs, List.getElem?_map] at hv
    obtain ⟨p, ep2, ev⟩ := Option.map_eq_some_iff.mp hv
    have lp : p < es.size := List.mem_range.mp (pp.mem_iff.mp (List.mem_of_getElem? ep2))
    have e1 : ((ps.map fun p : Nat => Value.int p 0).toArray)[i]? = some (Value.int p 0) := by
      rw [List.getElem?_toArray, List.getElem?_map, ep2]
      rfl
    rw [e1]
    dsimp only
    refine wpAny_bind ?_
    unfold setNextDrawn
    simp only [Int.toNat_natCast]
    refine wpAny_bind (wpAny_setState_of ho hd hf ?_)
    dsimp only
    rw [show (ep != ep) = false by simp, if_neg Bool.false_ne_true]
    have e2 : es[p]? = some es[p] := Array.getElem?_eq_getElem lp
    rw [e2]
    have ev2 : es[p].2 = v := by
      rw [← ev, List.getD_eq_getElem?_getD, Array.getElem?_toList, e2]
      rfl
    refine wpAny_pure ?_
    refine wpAny_bind (sit_set1 hit fun h2 b2 i2 => wpAny_pure ⟨_, rfl, wpAny_pure ?_⟩)
    show Q (some es[p].2) { s with heap := h2 }
    rw [ev2]
    exact q h2 _ b2 i2 (.inr (.inl ⟨bt, Pt, ps, po, pn, rfl, b2.extBut Pt po (nI Pt rfl) hpt, hpd, pp, hvs⟩)) fun Pt z => z
  · dsimp only
    simp only [Int.toNat_natCast]
    have hv0 := hv
    rw [hvs, List.getElem?_map, Array.getElem?_toList] at hv
    obtain ⟨e, ee, ev⟩ := Option.map_eq_some_iff.mp hv
    have li := (Array.getElem?_eq_some_iff.mp ee).1
    obtain rfl : i = 0 := by omega
    have sz : es.size = 1 := by omega
    obtain rfl := k0 rfl
    have sp : t.place.size = 1 := by
      have h1 : (t.place.size == es.size && decide (t.fill ≤ t.mask)) = true := hf
      have := (Bool.and_eq_true_iff.mp h1).1
      rw [← sz]
      simpa using this
    obtain ⟨j, ej⟩ : ∃ j, t.place = #[j] := ⟨t.place[0], Array.ext (by simp [sp]) fun i h1 h2 => by
      have : i = 0 := by simp at h2; exact h2
      subst this
      rfl⟩
    refine wpAny_bind (sn_place ho hd hf bt dr ld _ _ ?_)
    rw [ej, below_one, if_neg (Nat.not_lt_zero _), ee]
    obtain ⟨eh, ex⟩ := e
    show wpAny _ _ (setField (.ref I) 0 (rawInt ((j + 1 : Nat) : Int)) >>= _) _ _ s
    refine wpAny_bind (sit_set0 hit _ fun h1 b1 i1 => wpAny_bind (sit_set1 (s := { s with heap := h1 }) i1 fun h2 b2 i2 => wpAny_pure ⟨_, rfl, wpAny_pure ?_⟩))
    show Q (some ex) { s with heap := h2 }
    rw [show ex = v from ev]
    exact q h2 _ (b1.trans b2) i2 (.inr (.inr ⟨bt, le1, dr, ld, j + 1, rfl, hvs, (fun z => by cases z), fun _ => ⟨j, by rw [ej]; rfl, rfl⟩⟩)) fun Pt z => by cases z
end
end L2
namespace L2
open PySem PySem.Spec PyProof.Rows
section
variable {P : Program} {w : World} {A : Around} {E : Value → Shared → Prop} {s : Shared}
theorem stop_it {Q : Option Value → Shared → Prop} {F : PySem.Fin → Shared → Prop} (hh : A.handled = none) (q : ∀ h', (∀ b o, s.heap.get? b = some o → h'.get? b = some o) → Q none { s with heap := h' }) :
    wpAny (model P w) A.in1 (newExc (.type "StopIteration") [] >>= fun x => (raiseNew x : Sem PySem.Fin)) F (fun e s' => wpAny (model P w) A (isInstance e (Value.type "StopIteration") >>= fun b => if b = true then pure none else throw e) Q E s') s := by
  refine wpAny_bind ?_
  simp only [newExc, newTuple]
  refine wpAny_bind (wpAny_newObj_type ?_ (by size_fits))
  refine wpAny_bind (m := firstArgMember _ _) (wpAny_of_eq (a := Value.none) (by first | rfl | (simp only [firstArgMember]; rfl)) ?_)
  refine wpAny_newObj_type ?_ (by size_fits)
  simp only [raiseNew]
  refine wpAny_bind (wpAny_handled ?_)
  rw [show A.in1.handled = none from hh]
  refine wpAny_bind (wpAny_pure (wpAny_throw ?_))
  refine wpAny_bind (wpAny_isInstance (T := "StopIteration") (b := true) ⟨_, Heap.get?_push_size _ rfl, rfl⟩ isSubtype_stop ?_)
  exact wpAny_pure (q _ fun b o e => Heap.get?_push_of_some _ (Heap.get?_push_of_some _ e))
theorem sit_set2 {I S : Addr} {fst : Value} {i n ep : Nat} {Q : Unit → Shared → Prop} (hit : IsSit s.heap I S fst i n ep) (q : ∀ h', Heap.SameBut I s.heap h' → Q () { s with heap := h' }) : wpAny (model P w) A (setField (.ref I) 2 Value.none) Q E s := by
  obtain ⟨o, ho, hc, hd⟩ := hit
  exact wpAny_setField ho hd (by simp) (q _ (Heap.SameBut.update ..))
theorem end_set {S I : Addr} {o : Obj} {es : Array (Int × Value)} {ep i : Nat} {t : SetTable} {vals : List Value} {fst : Value} {Q : Option Value → Shared → Prop} (hh : A.handled = none) (hit : IsSit s.heap I S fst i es.size ep) (ho : s.heap.get? S = some o) (hd : o.data = .set es ep t) (hf : t.fits es.size = true) (m : SMode w s.heap S es ep t vals fst i) (hi : i = es.size)
    (q : ∀ (h' : Heap), (∀ b o, b ≠ I → s.heap.get? b = some o → h'.get? b = some o) → Q none { s with heap := h' }) :
    wpAny (model P w) A (pyNext (.ref I)) Q E s := by
  obtain ⟨oi, hoi, hci, hdi⟩ := id hit
  have tI : s.TypeIs (.ref I) "set_iterator" := ⟨oi, hoi, hci⟩
  have lv : vals.length = es.size := by rw [m.perm.length_eq, List.length_map, Array.length_toList]
  unfold pyNext
  refine wpAny_bind (wpAny_attempt (wpAny_callSpecial?_slot (name := Str.ofString "__next__") tI slot_sit_next (wpAny_call_entry slot_sit_next tI entry_sit_next ?_ (args_sit_next _))))
  show wpAny _ _ (fieldsOf (.ref I) >>= _) _ _ s
  refine wpAny_bind (wpAny_fieldsOf hoi hdi ?_)
  show wpAny _ _ (setEntries S >>= _) _ _ s
  refine wpAny_bind (wpAny_setEntries_of ho hd hf ?_)
  have ne : ((es.size : Int) != (es.size : Int)) = false := by simp
  dsimp only
  rw [ne]
  rw [if_neg Bool.false_ne_true]
  rcases m with ⟨bt, rfl, hvs⟩ | ⟨bt, Pt, ps, po, pn, rfl, hpt, hpd, pp, hvs⟩ | ⟨bt, le1, dr, ld, k, rfl, hvs, k0, k1⟩
  · dsimp only
    simp only [Int.toNat_natCast]
    refine wpAny_bind (sn_text ho hd hf bt _ _ ?_)
    have e0 : (pickOrder (w.params.setOrder S ep) es)[i]? = none := by
      rw [← Array.getElem?_toList]
      refine List.getElem?_eq_none ?_
      rw [(pick_perm _ _).length_eq, Array.length_toList]
      omega
    rw [e0]
    exact wpAny_bind (sit_set2 hit fun h1 b1 => stop_it (s := { s with heap := h1 }) hh fun h' k => q h' fun b o nb e => k b o (b1.extBut b o nb e))
  · dsimp only
    simp only [Int.toNat_natCast]
    refine wpAny_bind (wpAny_seqItems hpt hpd ?_)
    dsimp only
    have e0 : ((ps.map fun p : Nat => Value.int p 0).toArray)[i]? = none := by
      rw [List.getElem?_toArray]
      refine List.getElem?_eq_none ?_
      rw [List.length_map, pp.length_eq, List.length_range]
      omega
    rw [e0]
    exact wpAny_bind (sit_set0 hit _ fun h0 b0 i0 => wpAny_bind (sit_set2 (s := { s with heap := h0 }) i0 fun h1 b1 => stop_it (s := { s with heap := h1 }) hh fun h' k => q h' fun b o nb e => k b o (b1.extBut b o nb (b0.extBut b o nb e))))
  · dsimp only
    simp only [Int.toNat_natCast]
    refine wpAny_bind (sn_place ho hd hf bt dr ld _ _ ?_)
    have sp : t.place.size = es.size := by
      have h1 : (t.place.size == es.size && decide (t.fill ≤ t.mask)) = true := hf
      simpa using (Bool.and_eq_true_iff.mp h1).1
    have e0 : es[SetTable.below t.place k]? = none := by
      by_cases z : es.size = 0
      · exact Array.getElem?_eq_none (by omega)
      · have i1 : i = 1 := by omega
        obtain ⟨j, ej, rfl⟩ := k1 i1
        obtain ⟨j', ej'⟩ : ∃ j, t.place = #[j] := ⟨t.place[0], Array.ext (by simp; omega) fun i h1 h2 => by
          have : i = 0 := by simp at h2; exact h2
          subst this
          rfl⟩
        rw [ej'] at ej ⊢
        cases (show some j' = some j from ej)
        rw [below_one, if_pos (Nat.lt_succ_self _)]
        exact Array.getElem?_eq_none (by omega)
    rw [e0]
    exact wpAny_bind (sit_set2 hit fun h1 b1 => stop_it (s := { s with heap := h1 }) hh fun h' k => q h' fun b o nb e => k b o (b1.extBut b o nb e))
end
end L2
namespace L2
open PySem PySem.Spec PyProof.Rows
theorem slot_sit_iter : Slot "set_iterator" "__iter__" "set_iterator.__iter__" := slot_sit "__iter__" _ _ (by rw [typeLookup_type, builtinLookup_eq_fast]; kernel_rfl) (by decide +kernel) (by decide +kernel) (by decide +kernel) (by decide +kernel) (by decide +kernel)
theorem entry_sit_iter : entryFor table "set_iterator.__iter__" = some Builtin.«dict_keyiterator.__iter__» := entryFor_alias (id' := "dict_keyiterator.__iter__") (by kernel_rfl) rfl (by decide +kernel) (by kernel_rfl)
theorem args_sit_iter (a : Value) : argsOk "set_iterator.__iter__" ⟨[a], []⟩ := by unfold argsOk; kernel_rfl
def fpS (I S : Addr) : Value → List Addr
  | .ref Pt => [I, S, Pt]
  | _ => [I, S]
structure SSt (w : World) (I S : Addr) (o : Obj) (es : Array (Int × Value)) (ep : Nat) (t : SetTable) (vals : List Value) (fp : List Addr) (i : Nat) (h : Heap) (fst : Value) : Prop where
  it : IsSit h I S fst i es.size ep
  ho : h.get? S = some o
  md : SMode w h S es ep t vals fst i
  pt : ∀ Pt, fst = .ref Pt → Pt ∈ fp ∧ Pt ≠ I
theorem SSt.at {w : World} {I S : Addr} {o : Obj} {es : Array (Int × Value)} {ep : Nat} {t : SetTable} {vals : List Value} {fp : List Addr} {i : Nat} {h h' : Heap} {fst : Value} (x : SSt w I S o es ep t vals fp i h fst) (hI : I ∈ fp) (hS : S ∈ fp) (k : ∀ b ∈ fp, ∀ o, h.get? b = some o → h'.get? b = some o) : SSt w I S o es ep t vals fp i h' fst := by
  obtain ⟨⟨oi, a, b⟩, ho, md, pt⟩ := x
  refine ⟨⟨oi, k I hI _ a, b⟩, k S hS _ ho, ?_, pt⟩
  rcases md with m | ⟨bt, Pt, ps, po, pn, e, hpt, r⟩ | m
  · exact .inl m
  · exact .inr (.inl ⟨bt, Pt, ps, po, pn, e, k Pt (pt Pt e).1 _ hpt, r⟩)
  · exact .inr (.inr m)
section
variable {P : Program} {w : World} {A : Around} {E : Value → Shared → Prop} {s : Shared}
theorem walk_set {I S : Addr} {o : Obj} {es : Array (Int × Value)} {ep : Nat} {t : SetTable} {vals : List Value} {fp : List Addr} (hh : A.handled = none) (nIS : S ≠ I) (hI : I ∈ fp) (hS : S ∈ fp) (hd : o.data = .set es ep t) (hf : t.fits es.size = true) :
    WalksS P w A I fp [I] (fun a b => b = a) es.size (fun i v => vals[i]? = some v) (fun i s => ∃ fst, SSt w I S o es ep t vals fp i s.heap fst) where
  sub := fun b hb => by rw [List.mem_singleton.mp hb]; exact hI
  grefl := fun _ => rfl
  gtrans := fun _ _ _ x y => by rw [y, x]
  frame := fun i s h' tk ⟨fst, x⟩ _ k => ⟨fst, x.at hI hS k⟩
  item := fun i s Q E hi ⟨fst, x⟩ q => by
    have lv : vals.length = es.size := by rw [x.md.perm.length_eq, List.length_map, Array.length_toList]
    have ev : vals[i]? = some vals[i] := List.getElem?_eq_getElem (by omega)
    refine next_set x.it x.ho hd hf x.md (fun Pt e => (x.pt Pt e).2) ev fun h' fst' sb it md ke => ?_
    refine q _ _ ev ⟨fst', it, sb.extBut S o nIS x.ho, md, fun Pt e => x.pt Pt (ke Pt e)⟩ ⟨fun b o hb e => sb.extBut b o (fun z => hb (by rw [z]; exact List.mem_cons_self)) e, rfl, rfl, rfl, Nat.le_refl _⟩
  done := fun s Q E ⟨fst, x⟩ q => by
    refine end_set hh x.it x.ho hd hf x.md rfl fun h' k => q _ ⟨fun b o hb e => k b o (fun z => hb (by rw [z]; exact List.mem_cons_self)) e, rfl, rfl, rfl, Nat.le_refl _⟩
  self := fun i s Q E ⟨fst, x⟩ q => by
    obtain ⟨oi, hoi, hci, _⟩ := x.it
    have tI : s.TypeIs (.ref I) "set_iterator" := ⟨oi, hoi, hci⟩
    refine wpAny_pyIter_slot tI slot_sit_iter (wpAny_call_entry slot_sit_iter tI entry_sit_iter ?_ (args_sit_iter _))
    show wpAny _ _ (ret (.ref I)) _ _ s
    exact wpAny_pure ⟨_, rfl, "set_iterator", _, tI, slot_sit_next.lookup, q⟩
end
end L2
namespace L2
open PySem PySem.Spec PyProof.Rows
section
variable {P : Program} {w : World} {A : Around} {E : Value → Shared → Prop} {s : Shared}
theorem wp_if {α : Type} {M : Model} {c : Prop} [Decidable c] {a b : Sem α} {Q : α → Shared → Prop} (hc : c) (h : wpAny M A a Q E s) : wpAny M A (if c then a else b) Q E s := by rw [if_pos hc]; exact h
abbrev emL : Obj := { cls := .type "list", data := .seq ([] : List Value).toArray }
theorem strs_all : ∀ {vs : List Value}, (∀ v ∈ vs, ∃ z k, v = .str z k) → StrsAre vs (vs.map kS)
  | [], _ => .nil
  | v :: r, h => by
    obtain ⟨z, k, e⟩ := h v List.mem_cons_self
    subst e
    exact .cons z k (strs_all fun u hu => h u (List.mem_cons_of_mem _ hu))
theorem collect_set {S : Addr} {ds : List Str} {Q : List Value → Shared → Prop} (hh : A.handled = none) (T : TxSet P w s.heap S (ledW w) ds) (hb : ds.length < scanBound)
    (q : ∀ (h' : Heap) (d : Drawn) (tk : Nat) (vs : List Value), (∀ b o, s.heap.get? b = some o → h'.get? b = some o) → s.heap.objs.size ≤ h'.objs.size → (∃ zs, StrsAre vs zs ∧ zs.Perm ds) → s.toks ≤ tk → Q vs { s with heap := h', drawn := d, toks := tk }) : wpAny (model P w) A (collect (.ref S)) Q E s := by
  obtain ⟨o, es, ep, t, ho, hx, hd, hel, hst, hpm, hf, hl, hpl⟩ := T
  have hsz := TxSet.size hpm
  have nS : s.heap.objs.size ≠ S := Nat.ne_of_gt (Heap.lt_size ho)
  unfold collect
  refine wpAny_bind (wpAny_runValue (codeAny_builtin F.entry_proto_collect ?_))
  rw [Around.under_plainId F.plain_proto_collect _]
  show wpAny _ A.in1 (newList [] >>= fun l => again (.builtin "list.__iadd__" ⟨[l, .ref S], []⟩)) _ _ s
  refine wpAny_bind (wpAny_newObj_type ?_)
  refine wpAny_pure ⟨plainId_quiet F.plain_list_iadd _, codeAny_builtin F.entry_list_iadd ?_⟩
  rw [Around.under_plainId F.plain_list_iadd _]
  have ho1 : (s.heap.push emL).get? S = some o := Heap.get?_push_of_some _ ho
  show wpAny _ A.in1 (Builtin.List.listExtendWith (.ref s.heap.objs.size) (.ref S) (.ref s.heap.objs.size)) _ _ _
  unfold Builtin.List.listExtendWith
  refine wpAny_bind (wpAny_typeOf (T := "set") ⟨o, ho1, hx.1⟩ ?_)
  have h1 : Builtin.List.listSameRef (.ref s.heap.objs.size) (.ref S) = false := by simp [Builtin.List.listSameRef, nS]
  have h2 : (Value.type "set" == Value.type "list") = false := by decide
  have h3 : (Value.type "set" == Value.type "tuple") = false := by decide
  simp only [h1, h2, h3, Bool.or_false, Bool.false_eq_true, if_false]
  refine wpAny_bind (iter_set (s := { s with heap := s.heap.push emL }) ho1 hx hd hf hl hpl (by omega) fun I h2 d vals fst kp leI it md pt => ?_)
  refine wpAny_bind (wpAny_holding ?_)
  unfold Builtin.List.listLengthHint
  have ho2 := kp _ _ ho1
  refine wpAny_bind (wpAny_specialOf (T := "set") ⟨o, ho2, hx.1⟩ F.slot_set_len.lookup ?_)
  dsimp only
  rw [show splitId "set.__len__" = some ("set", "__len__") by decide +kernel]
  dsimp only
  refine wpAny_bind (wpAny_isInstance (T := "set") (b := true) ⟨o, ho2, hx.1⟩ sub_set_self ?_)
  rw [Bool.not_true, if_neg Bool.false_ne_true]
  refine wp_if (by decide +kernel) ?_
  refine wpAny_bind (wpAny_typeOf (T := "set") ⟨o, ho2, hx.1⟩ ?_)
  refine wpAny_pure ?_
  refine wp_if (by decide +kernel) ?_
  refine wpAny_bind (wpAny_rule ?_)
  have hL2 : h2.get? s.heap.objs.size = some emL := kp _ _ (Heap.get?_push_size _ rfl)
  refine wpAny_bind ?_
  show wpAny _ A.in1 (updateSeq s.heap.objs.size (·.push .none) >>= fun _ => updateSeq s.heap.objs.size (·.pop)) _ _ _
  refine wpAny_bind (wpAny_updateSeq hL2 rfl ?_)
  have hL3 := Heap.get?_update_self (Obj.mapSeq (·.push Value.none)) hL2 rfl
  refine wpAny_updateSeq hL3 rfl ?_
  have hL4 := Heap.get?_update_self (Obj.mapSeq (·.pop)) hL3 rfl
  have oth : ∀ b o, b ≠ s.heap.objs.size → h2.get? b = some o → ((h2.update s.heap.objs.size (Obj.mapSeq (·.push Value.none))).update s.heap.objs.size (Obj.mapSeq (·.pop))).get? b = some o := fun b o nb e => (Heap.get?_update_other _ _ (Ne.symm nb)).trans ((Heap.get?_update_other _ _ (Ne.symm nb)).trans e)
  generalize (h2.update s.heap.objs.size (Obj.mapSeq (·.push Value.none))).update s.heap.objs.size (Obj.mapSeq (·.pop)) = h4 at hL4 oth ⊢
  have leI' : s.heap.objs.size + 1 ≤ I := by
    have : (s.heap.push emL).objs.size ≤ I := leI
    rw [Heap.size_push] at this
    exact this
  have nLI : s.heap.objs.size ≠ I := Nat.ne_of_lt leI'
  have nSI : S ≠ I := Nat.ne_of_lt (Nat.lt_trans (Heap.lt_size ho) leI')
  have ptL : ∀ Pt, fst = .ref Pt → Pt ≠ I ∧ s.heap.objs.size ≠ Pt := fun Pt e => ⟨(pt Pt e).1, by
    have h := (pt Pt e).2
    have h' : (s.heap.push emL).objs.size ≤ Pt := h
    rw [Heap.size_push] at h'
    exact Nat.ne_of_lt h'⟩
  have hI : I ∈ fpS I S fst := by cases fst <;> simp [fpS]
  have hS : S ∈ fpS I S fst := by cases fst <;> simp [fpS]
  have hL : s.heap.objs.size ∉ fpS I S fst := by
    cases fst with
    | ref Pt => simp only [fpS, List.mem_cons, List.not_mem_nil, or_false, not_or]; exact ⟨nLI, nS, (ptL Pt rfl).2⟩
    | _ => simp only [fpS, List.mem_cons, List.not_mem_nil, or_false, not_or]; exact ⟨nLI, nS⟩
  have st2 : SSt w I S o es ep t vals (fpS I S fst) 0 h2 fst := ⟨it, ho2, md, fun Pt e => ⟨by rw [e]; simp [fpS], (ptL Pt e).1⟩⟩
  have st4 := st2.at (h' := h4) hI hS fun b hb o e => oth b o (fun z => hL (by rw [← z]; exact hb)) e
  have W := walk_set (P := P) (w := w) (A := A.in1) (vals := vals) (by simp [hh]) nSI hI hS hd hf
  refine wpAny_pure ⟨plainId_quiet F.plain_extend_loop _, codeAny_extend_loopS W (fits_of_scanBound (by omega)) _ hL _ es.size 0 _ _ _ rfl (Nat.zero_le _) ⟨fst, st4⟩ hL4 (ItemsOf.nil _) fun s' acc c' hm hS' hacc => ?_⟩
  show wpAny _ A (load s.heap.objs.size >>= _) _ _ s'
  refine wpAny_bind (wpAny_load hS' ?_)
  obtain ⟨h', g', d', tk', os'⟩ := s'
  have eg : g' = s.gens := hm.gens
  have ed : d' = d := hm.drawn
  have eo : os' = s.os := hm.os
  subst eg; subst ed; subst eo
  have lv : vals.length = es.size := by rw [md.perm.length_eq, List.length_map, Array.length_toList]
  have ea : acc.toList = vals := by
    refine List.ext_getElem? fun j => ?_
    by_cases c : j < es.size
    · have h1 : acc[j]? = some (acc[j]'(by rw [hacc.1]; exact c)) := Array.getElem?_eq_getElem _
      rw [Array.getElem?_toList, h1]
      exact (hacc.2 j _ h1).symm
    · rw [List.getElem?_eq_none (by rw [Array.length_toList, hacc.1]; omega), List.getElem?_eq_none (by omega)]
  refine wpAny_pure (q h' d' tk' acc.toList (fun b o e => ?_) (Nat.le_of_lt (Heap.lt_size hS')) ?_ hm.toks)
  · have lb := Heap.lt_size e
    refine hm.heap b o ?_ (oth b o (Nat.ne_of_lt lb) (kp b o (Heap.get?_push_of_some _ e)))
    simp only [List.mem_cons, List.not_mem_nil, or_false, not_or]
    exact ⟨Nat.ne_of_lt lb, Nat.ne_of_lt (Nat.lt_trans lb leI')⟩
  · rw [ea]
    refine ⟨vals.map kS, strs_all fun v hv => ?_, ?_⟩
    · obtain ⟨e, he, rfl⟩ := List.mem_map.mp (md.perm.mem_iff.mp hv)
      exact hst e he
    · have h1 := md.perm.map kS
      rw [List.map_map] at h1
      exact h1.trans hpm
end
end L2
namespace L2
open PySem PySem.Spec PyProof.Rows
section
variable {P : Program} {w : World} {A : Around} {E : Value → Shared → Prop} {s : Shared}
theorem sorted_set {S : Addr} {ds : List Str} {Q : Value → Shared → Prop} (hh : A.handled = none) (T : TxSet P w s.heap S (ledW w) ds) (h64 : ds.length < 64)
    (q : ∀ (h' : Heap) (d : Drawn) (tk : Nat) (l : Addr) (e : Nat) (out : Array Value) (zs : List Str), (∀ b o, s.heap.get? b = some o → h'.get? b = some o) → s.heap.objs.size ≤ l → h'.get? l = some (seqObj "list" out e) → StrsAre out.toList zs → zs.Perm ds → sortedS zs = true → s.toks ≤ tk → Q (.ref l) { s with heap := h', drawn := d, toks := tk }) :
    wpAny (model P w) A (call (.builtin "sorted") [.ref S]) Q E s := by
  refine Calls.call_function_entry kind_sorted plain_sorted entry_sorted (args_sorted1 _) ?_
  unfold Builtin.«sorted»
  refine wpAny_bind (m := checkCount "sorted" 1 1 _) (wpAny_pure ?_)
  refine wpAny_bind (collect_set (by simp [hh]) T (by unfold scanBound; omega) fun h1 d tk vs kp le hz tk1 => ?_)
  obtain ⟨zs, hS, pz⟩ := hz
  have lz : vs.length = ds.length := by rw [← pz.length_eq]; exact StrsAre.length hS
  refine wpAny_bind (wpAny_newList ?_)
  have hoL : (h1.push (seqObj "list" vs.toArray 0)).get? h1.objs.size = some (seqObj "list" vs.toArray 0) := Heap.get?_push_size _ rfl
  refine wpAny_bind (wpAny_holding (wpAny_call_entry slot_list_sort ⟨_, hoL, rfl⟩ entry_list_sort (list_sort_treeK strKind_oneLt hoL hS.keysOf (fun v₁ v₂ rest e => keyKind_strs (by rw [← e]; exact hS)) (by omega) fun st' a1 a2 => ⟨_, rfl, ?_⟩) (args_list_sort _)))
  obtain ⟨ss, b1, b2, b3⟩ := sorted_out_str hS a1 a2
  obtain ⟨e, he⟩ := sortedHeap_at (out := (arrOf st').map (·.2)) hoL
  refine wpAny_pure ⟨_, rfl, q _ d tk h1.objs.size e _ ss (fun b o hb => ?_) le he b1 (b2.trans pz) b3 tk1⟩
  have hb1 := kp b o hb
  have lb := Heap.lt_size hb1
  rw [sortedHeap_old (Nat.ne_of_lt lb) (by rw [Heap.size_push]; exact Nat.lt_succ_of_lt lb)]
  exact Heap.get?_push_of_some _ hb1
end
end L2
namespace L2
open PySem PySem.W PyProof.Rows
section
variable {n : Nat} {lt : Nat → Nat → Bool} {cmp : Nat → Nat → (Bool → Shared → Prop) → Shared → Prop} {s : Shared}
structure OrdN (n : Nat) (lt : Nat → Nat → Bool) : Prop where
  trans : ∀ a b c, a < n → b < n → c < n → lt b a = false → lt c b = false → lt c a = false
  asym : ∀ a b, a < n → b < n → lt a b = true → lt b a = false
def AsksN (n : Nat) (lt : Nat → Nat → Bool) (cmp : Nat → Nat → (Bool → Shared → Prop) → Shared → Prop) (s : Shared) : Prop := ∀ i j C, i < n → j < n → C (lt i j) s → cmp i j C s
structure PmN (n : Nat) (p : Array Nat) : Prop where
  pm : p.Perm (List.range n).toArray
theorem PmN.size {p : Array Nat} (h : PmN n p) : p.size = n := by
  have := h.pm.size_eq
  simpa using this
theorem PmN.inn {p : Array Nat} (h : PmN n p) {i : Nat} (hi : i < n) : p.getD i 0 < n := by
  have hs := h.size
  have e : p.getD i 0 = p[i]'(by omega) := by simp [Array.getD, hs, hi]
  rw [e]
  have : p[i]'(by omega) ∈ (List.range n).toArray := h.pm.mem_iff.mp (Array.getElem_mem _)
  simpa using this
abbrev at_ (p : Array Nat) (i : Nat) : Nat := p.getD i 0
def SrtN (lt : Nat → Nat → Bool) (p : Array Nat) (k : Nat) : Prop := ∀ i j, i ≤ j → j < k → lt (at_ p j) (at_ p i) = false
def NonN (lt : Nat → Nat → Bool) (p : Array Nat) (k : Nat) : Prop := ∀ i j, i ≤ j → j < k → lt (at_ p i) (at_ p j) = false
theorem OrdN.irr (o : OrdN n lt) {a : Nat} (h : a < n) : lt a a = false := by
  cases e : lt a a with
  | false => rfl
  | true => rw [← o.asym a a h h e, e]
theorem kas_ret {α : Type} {a : α} {Q : α → Shared → Prop} (h : Q a s) : KasT.kasWp cmp (.ret a) Q s := h
theorem kas_askN {α : Type} {i j : Nat} {k : Bool → KasT α} {Q : α → Shared → Prop} (A : AsksN n lt cmp s) (hi : i < n) (hj : j < n) (h : KasT.kasWp cmp (k (lt i j)) Q s) : KasT.kasWp cmp (.ask i j k) Q s := A i j _ hi hj h
theorem kas_bindN {α β : Type} {t : KasT α} {f : α → KasT β} {Q : β → Shared → Prop} : ∀ {s : Shared}, KasT.kasWp cmp t (fun a s' => KasT.kasWp cmp (f a) Q s') s → KasT.kasWp cmp (t.bind f) Q s := by
  have key : ∀ t : KasT α, KasT.kasWp cmp (t.bind f) Q = KasT.kasWp cmp t (fun a s' => KasT.kasWp cmp (f a) Q s') := by
    intro t
    induction t with
    | ret a => rfl
    | ask i j k ih =>
      funext s
      show cmp i j (fun c s' => KasT.kasWp cmp ((k c).bind f) Q s') s = cmp i j (fun c s' => KasT.kasWp cmp (k c) _ s') s
      congr 1
      funext c s'
      rw [ih c]
  intro s h
  rw [key]
  exact h
theorem at_eq (p : Array Nat) (i : Nat) : at_ p i = (p[i]?).getD 0 := Array.getD_eq_getD_getElem?
theorem at_mirror {p : Array Nat} {i j k : Nat} (hj : j ≤ p.size) : at_ (kas_rev p i j) k = if i ≤ k ∧ k < j then at_ p (i + j - 1 - k) else at_ p k := by
  have h := getElem?_mirror_all (xs := p) (i := i) hj k
  have e : at_ (kas_rev p i j) k = ((mirror p i j ((j - i) / 2))[k]?).getD 0 := at_eq _ _
  rw [e, h, at_eq, at_eq]
  split <;> rfl
theorem at_bubble {p : Array Nat} {src d k : Nat} (hs : src < p.size) (hd : d ≤ src) : at_ (bubble p src d) k = if k = src - d then at_ p src else if src - d < k ∧ k ≤ src then at_ p (k - 1) else at_ p k := by
  have h := getElem?_bubble (xs := p) hs d hd k
  rw [at_eq, h, at_eq, at_eq, at_eq]
  by_cases c : k = src - d
  · rw [if_pos c, if_pos c]
  · rw [if_neg c, if_neg c]
    by_cases c2 : src - d < k ∧ k ≤ src
    · rw [if_pos c2, if_pos c2]
    · rw [if_neg c2, if_neg c2]
theorem PmN.rev {p : Array Nat} (h : PmN n p) (i j : Nat) : PmN n (kas_rev p i j) := ⟨(mirror_perm p i j _).trans h.pm⟩
theorem PmN.bub {p : Array Nat} (h : PmN n p) (i j : Nat) : PmN n (bubble p i j) := ⟨(bubble_perm p i j).trans h.pm⟩
theorem SrtN.more {p : Array Nat} {m : Nat} (o : OrdN n lt) (P : PmN n p) (h : SrtN lt p m) (hm : 1 ≤ m) (hn : m < n) (c : lt (at_ p m) (at_ p (m - 1)) = false) : SrtN lt p (m + 1) := by
  intro i j hij hj
  by_cases e : j = m
  · subst e
    by_cases e2 : i = j
    · subst e2; exact o.irr (P.inn hn)
    · exact o.trans _ (at_ p (j - 1)) _ (P.inn (by omega)) (P.inn (by omega)) (P.inn hn) (h i (j - 1) (by omega) (by omega)) c
  · exact h i j hij (by omega)
theorem NonN.more {p : Array Nat} {m : Nat} (o : OrdN n lt) (P : PmN n p) (h : NonN lt p m) (hm : 1 ≤ m) (hn : m < n) (c : lt (at_ p (m - 1)) (at_ p m) = false) : NonN lt p (m + 1) := by
  intro i j hij hj
  by_cases e : j = m
  · subst e
    by_cases e2 : i = j
    · subst e2; exact o.irr (P.inn hn)
    · exact o.trans _ (at_ p (j - 1)) _ (P.inn hn) (P.inn (by omega)) (P.inn (by omega)) c (h i (j - 1) (by omega) (by omega))
  · exact h i j hij (by omega)
theorem asc_ok (o : OrdN n lt) (A : AsksN n lt cmp s) {p : Array Nat} (P : PmN n p) {Q : Nat → Shared → Prop} : ∀ (f m : Nat), 1 ≤ m → m + f ≤ n → SrtN lt p m → (∀ m', m ≤ m' → m' ≤ m + f → SrtN lt p m' → (m' = m + f ∨ lt (at_ p m') (at_ p (m' - 1)) = true) → Q m' s) → KasT.kasWp cmp (kas_asc p f m) Q s
  | 0, m, h1, h2, hs, q => kas_ret (q m (Nat.le_refl _) (Nat.le_refl _) hs (.inl rfl))
  | f + 1, m, h1, h2, hs, q => by
    rw [kas_asc.eq_2]
    refine kas_askN A (P.inn (by omega)) (P.inn (by omega)) ?_
    cases c : lt (at_ p m) (at_ p (m - 1)) with
    | true =>
      show KasT.kasWp cmp (if true = true then _ else _) Q s
      rw [if_pos rfl]
      exact kas_ret (q m (Nat.le_refl _) (by omega) hs (.inr c))
    | false =>
      show KasT.kasWp cmp (if false = true then _ else _) Q s
      rw [if_neg Bool.false_ne_true]
      exact asc_ok o A P f (m + 1) (by omega) (by omega) (hs.more o P h1 (by omega) c) fun m' a b d e => q m' (by omega) (by omega) d (by rcases e with e | e; exact .inl (by omega); exact .inr e)
def EqN (lt : Nat → Nat → Bool) (p : Array Nat) (m q : Nat) : Prop := ∀ k, m - (q + 1) ≤ k → k < m → lt (at_ p k) (at_ p (m - 1)) = false ∧ lt (at_ p (m - 1)) (at_ p k) = false
theorem rev_non {p : Array Nat} {m q : Nat} (o : OrdN n lt) (P : PmN n p) (hm : m ≤ n) (h : NonN lt p m) (e : EqN lt p m q) : NonN lt (kas_rev p (m - (q + 1)) m) m := by
  intro i j hij hj
  have hs := P.size
  rw [at_mirror (by omega), at_mirror (by omega)]
  by_cases cj : m - (q + 1) ≤ j ∧ j < m
  · rw [if_pos cj]
    by_cases ci : m - (q + 1) ≤ i ∧ i < m
    · rw [if_pos ci]
      have e1 := e (m - (q + 1) + m - 1 - i) (by omega) (by omega)
      have e2 := e (m - (q + 1) + m - 1 - j) (by omega) (by omega)
      exact o.trans _ (at_ p (m - 1)) _ (P.inn (by omega)) (P.inn (by omega)) (P.inn (by omega)) e2.2 e1.1
    · rw [if_neg ci]
      exact h i _ (by omega) (by omega)
  · rw [if_neg cj, if_neg (by omega)]
    exact h i j hij hj
theorem desc_ok (o : OrdN n lt) (A : AsksN n lt cmp s) {Q : Array Nat × Nat × Nat → Shared → Prop} : ∀ (f : Nat) (p : Array Nat) (m q : Nat), PmN n p → 1 ≤ m → m + f ≤ n → NonN lt p m → EqN lt p m q → q + 1 ≤ m → (∀ p' m' q', PmN n p' → m ≤ m' → m' ≤ m + f → NonN lt p' m' → EqN lt p' m' q' → q' + 1 ≤ m' → Q (p', m', q') s) → KasT.kasWp cmp (kas_desc f p m q) Q s
  | 0, p, m, q, P, h1, h2, hn, he, hq, k => by
    rw [kas_desc.eq_1]
    exact kas_ret (k p m q P (Nat.le_refl _) (Nat.le_refl _) hn he hq)
  | f + 1, p, m, q, P, h1, h2, hn, he, hq, k => by
    rw [kas_desc.eq_2]
    have hs := P.size
    refine kas_askN A (P.inn (by omega)) (P.inn (by omega)) ?_
    cases c : lt (at_ p m) (at_ p (m - 1)) with
    | true =>
      show KasT.kasWp cmp (if true = true then _ else _) Q s
      rw [if_pos rfl]
      have c2 := o.asym _ _ (P.inn (by omega)) (P.inn (by omega)) c
      have one : ∀ p', EqN lt p' (m + 1) 0 → True := fun _ _ => trivial
      by_cases hq0 : q > 0
      · rw [if_pos hq0]
        have P' := P.rev (m - (q + 1)) m
        have e1 : at_ (kas_rev p (m - (q + 1)) m) m = at_ p m := by rw [at_mirror (by omega), if_neg (by omega)]
        have e2 : at_ (kas_rev p (m - (q + 1)) m) (m - 1) = at_ p (m - (q + 1)) := by
          rw [at_mirror (by omega), if_pos (by omega)]
          congr 1
          omega
        refine desc_ok o A f _ (m + 1) 0 P' (by omega) (by omega) ((rev_non o P (by omega) hn he).more o P' h1 (by omega) ?_) ?_ (by omega) fun p' m' q' a b d g i j => k p' m' q' a (by omega) (by omega) g i j
        · rw [e1, e2]
          exact o.trans _ (at_ p (m - 1)) _ (P.inn (by omega)) (P.inn (by omega)) (P.inn (by omega)) c2 (he (m - (q + 1)) (Nat.le_refl _) (by omega)).1
        · intro x h3 h4
          have : x = m := by omega
          subst this
          exact ⟨o.irr (P'.inn (by omega)), o.irr (P'.inn (by omega))⟩
      · rw [if_neg hq0]
        refine desc_ok o A f p (m + 1) 0 P (by omega) (by omega) (hn.more o P h1 (by omega) c2) ?_ (by omega) fun p' m' q' a b d g i j => k p' m' q' a (by omega) (by omega) g i j
        intro x h3 h4
        have : x = m := by omega
        subst this
        exact ⟨o.irr (P.inn (by omega)), o.irr (P.inn (by omega))⟩
    | false =>
      show KasT.kasWp cmp (if false = true then _ else _) Q s
      rw [if_neg Bool.false_ne_true]
      refine kas_askN A (P.inn (by omega)) (P.inn (by omega)) ?_
      cases c2 : lt (at_ p (m - 1)) (at_ p m) with
      | true =>
        show KasT.kasWp cmp (if true = true then _ else _) Q s
        rw [if_pos rfl]
        exact kas_ret (k p m q P (Nat.le_refl _) (by omega) hn he hq)
      | false =>
        show KasT.kasWp cmp (if false = true then _ else _) Q s
        rw [if_neg Bool.false_ne_true]
        refine desc_ok o A f p (m + 1) (q + 1) P (by omega) (by omega) (hn.more o P h1 (by omega) c2) ?_ (by omega) fun p' m' q' a b d g i j => k p' m' q' a (by omega) (by omega) g i j
        intro x h3 h4
        have em : m + 1 - 1 = m := by omega
        rw [em]
        by_cases ex : x = m
        · subst ex
          exact ⟨o.irr (P.inn (by omega)), o.irr (P.inn (by omega))⟩
        · have e1 := he x (by omega) (by omega)
          exact ⟨o.trans _ (at_ p (m - 1)) _ (P.inn (by omega)) (P.inn (by omega)) (P.inn (by omega)) c2 e1.1, o.trans _ (at_ p (m - 1)) _ (P.inn (by omega)) (P.inn (by omega)) (P.inn (by omega)) e1.2 c⟩
theorem tail3_ok (o : OrdN n lt) (A : AsksN n lt cmp s) {p : Array Nat} {m nrem : Nat} {Q : Nat × Array Nat → Shared → Prop} (P : PmN n p) (h1 : 1 ≤ m) (h2 : m ≤ nrem) (h3 : nrem ≤ n) (hn : NonN lt p m) (q : ∀ m' p', PmN n p' → 1 ≤ m' → m' ≤ nrem → SrtN lt p' m' → Q (m', p') s) : KasT.kasWp cmp (kas_tail3 m nrem p) Q s := by
  have hs := P.size
  have P' := P.rev 0 m
  unfold kas_tail3
  refine kas_bindN (asc_ok o A P' (nrem - m) m h1 (by omega) ?_ fun m' a b c d => kas_ret (q m' _ P' (by omega) (by omega) c))
  intro i j hij hj
  rw [at_mirror (by omega), at_mirror (by omega), if_pos (by omega), if_pos (by omega)]
  exact hn _ _ (by omega) (by omega)
theorem descPart_ok (o : OrdN n lt) (A : AsksN n lt cmp s) {p : Array Nat} {m nrem : Nat} {Q : Nat × Array Nat → Shared → Prop} (P : PmN n p) (h2 : m + 1 ≤ nrem) (h3 : nrem ≤ n) (hn : NonN lt p (m + 1)) (q : ∀ m' p', PmN n p' → 1 ≤ m' → m' ≤ nrem → SrtN lt p' m' → Q (m', p') s) : KasT.kasWp cmp (kas_descPart m nrem p) Q s := by
  unfold kas_descPart
  refine kas_bindN (desc_ok o A (nrem - (m + 1)) p (m + 1) 0 P (by omega) (by omega) hn ?_ (by omega) fun p' m' q' P' a b hn' he' hq' => ?_)
  · intro x h4 h5
    have : x = m := by omega
    subst this
    exact ⟨o.irr (P.inn (by omega)), o.irr (P.inn (by omega))⟩
  · show KasT.kasWp cmp (if q' > 0 then kas_tail3 m' nrem (kas_rev p' (m' - (q' + 1)) m') else kas_tail3 m' nrem p') Q s
    split
    · exact tail3_ok o A (P'.rev _ _) (by omega) (by omega) h3 (rev_non o P' (by omega) hn' he') q
    · exact tail3_ok o A P' (by omega) (by omega) h3 hn' q
theorem count_ok (o : OrdN n lt) (A : AsksN n lt cmp s) {p : Array Nat} {Q : Nat × Array Nat → Shared → Prop} (P : PmN n p) (h1 : 1 ≤ n) (q : ∀ m' p', PmN n p' → 1 ≤ m' → m' ≤ n → SrtN lt p' m' → Q (m', p') s) : KasT.kasWp cmp (kas_count n p) Q s := by
  have hs := P.size
  unfold kas_count
  refine kas_bindN (asc_ok o A P (n - 1) 1 (Nat.le_refl _) (by omega) (fun i j a b => ?_) fun m a b hm hd => ?_)
  · have e1 : i = 0 := by omega
    have e2 : j = 0 := by omega
    subst e1; subst e2
    exact o.irr (P.inn (by omega))
  · show KasT.kasWp cmp (if (m == n) = true then _ else _) Q s
    by_cases e : m = n
    · rw [if_pos (by simp [e])]
      exact kas_ret (q m p P a (by omega) hm)
    · rw [if_neg (by simp [e])]
      have hlt : lt (at_ p m) (at_ p (m - 1)) = true := by
        rcases hd with hd | hd
        · omega
        · exact hd
      have hge := o.asym _ _ (P.inn (by omega)) (P.inn (by omega)) hlt
      split
      · rename_i h2
        refine kas_askN A (P.inn (by omega)) (P.inn (by omega)) ?_
        cases c : lt (at_ p 0) (at_ p (m - 1)) with
        | true =>
          show KasT.kasWp cmp (if true = true then _ else _) Q s
          rw [if_pos rfl]
          exact kas_ret (q m p P a (by omega) hm)
        | false =>
          show KasT.kasWp cmp (if false = true then _ else _) Q s
          rw [if_neg Bool.false_ne_true]
          refine descPart_ok o A (P.rev 0 m) (by omega) (Nat.le_refl _) ?_ q
          have al : ∀ i j, i < m → j < m → lt (at_ p i) (at_ p j) = false := fun i j hi hj => by
            have e1 : lt (at_ p i) (at_ p (m - 1)) = false := by
              have : lt (at_ p i) (at_ p (m - 1)) = false := by
                by_cases e0 : i = 0
                · rw [e0]; exact c
                · cases e2 : lt (at_ p i) (at_ p (m - 1)) with
                  | false => rfl
                  | true =>
                    have h5 : lt (at_ p i) (at_ p 0) = false := hm 0 i (by omega) hi
                    exact absurd (o.trans _ (at_ p 0) _ (P.inn (by omega)) (P.inn (by omega)) (P.inn (by omega)) c h5) (by rw [e2]; decide)
              exact this
            exact o.trans _ (at_ p (m - 1)) _ (P.inn (by omega)) (P.inn (by omega)) (P.inn (by omega)) (hm j (m - 1) (by omega) (by omega)) e1
          intro i j hij hj
          rw [at_mirror (by omega), at_mirror (by omega)]
          by_cases cj : j = m
          · subst cj
            by_cases ci : i = j
            · subst ci
              rw [if_neg (by omega)]
              exact o.irr (P.inn (by omega))
            · rw [if_pos (show 0 ≤ i ∧ i < j by omega), if_neg (show ¬ (0 ≤ j ∧ j < j) by omega)]
              exact o.trans _ (at_ p (j - 1)) _ (P.inn (by omega)) (P.inn (by omega)) (P.inn (by omega)) hge (al _ _ (by omega) (by omega))
          · rw [if_pos (by omega), if_pos (by omega)]
            exact al _ _ (by omega) (by omega)
      · rename_i h2
        have e1 : m = 1 := by omega
        subst e1
        refine descPart_ok o A P (by omega) (Nat.le_refl _) ?_ q
        intro i j hij hj
        by_cases ej : j = 0
        · have : i = 0 := by omega
          subst this; subst ej
          exact o.irr (P.inn (by omega))
        · have : j = 1 := by omega
          subst this
          by_cases ei : i = 1
          · subst ei; exact o.irr (P.inn (by omega))
          · have : i = 0 := by omega
            subst this
            exact hge
theorem place_ok (o : OrdN n lt) (A : AsksN n lt cmp s) {p : Array Nat} {k : Nat} {Q : Nat → Shared → Prop} (P : PmN n p) (hk : k < n) (hs : SrtN lt p k) : ∀ (f l r : Nat), l ≤ r → r ≤ k → r - l ≤ f → (∀ i, i < l → lt (at_ p k) (at_ p i) = false) → (∀ i, r ≤ i → i < k → lt (at_ p k) (at_ p i) = true) →
    (∀ l', l' ≤ k → (∀ i, i < l' → lt (at_ p k) (at_ p i) = false) → (∀ i, l' ≤ i → i < k → lt (at_ p k) (at_ p i) = true) → Q l' s) → KasT.kasWp cmp (kas_place p k f l r) Q s
  | 0, l, r, h1, h2, h3, ha, hb, q => by
    rw [kas_place.eq_def]
    have : l = r := by omega
    subst this
    exact kas_ret (q l h2 ha hb)
  | f + 1, l, r, h1, h2, h3, ha, hb, q => by
    rw [kas_place.eq_def]
    show KasT.kasWp cmp (if l ≥ r then _ else _) Q s
    split
    · have : l = r := by omega
      subst this
      exact kas_ret (q l h2 ha hb)
    · refine kas_askN A (P.inn hk) (P.inn (by omega)) ?_
      cases c : lt (at_ p k) (at_ p ((l + r) / 2)) with
      | true =>
        show KasT.kasWp cmp (if true = true then _ else _) Q s
        rw [if_pos rfl]
        refine place_ok o A P hk hs f l ((l + r) / 2) (by omega) (by omega) (by omega) ha (fun i hi hik => ?_) q
        cases e : lt (at_ p k) (at_ p i) with
        | true => rfl
        | false => exact absurd (o.trans _ (at_ p i) _ (P.inn (by omega)) (P.inn (by omega)) (P.inn hk) (hs _ i hi hik) e) (by rw [c]; decide)
      | false =>
        show KasT.kasWp cmp (if false = true then _ else _) Q s
        rw [if_neg Bool.false_ne_true]
        refine place_ok o A P hk hs f ((l + r) / 2 + 1) r (by omega) (by omega) (by omega) (fun i hi => ?_) hb q
        exact o.trans _ (at_ p ((l + r) / 2)) _ (P.inn (by omega)) (P.inn (by omega)) (P.inn hk) (hs i _ (by omega) (by omega)) c
theorem bin_ok (o : OrdN n lt) (A : AsksN n lt cmp s) {Q : Array Nat → Shared → Prop} : ∀ (f : Nat) (p : Array Nat) (k : Nat), PmN n p → k + f = n → SrtN lt p k → (∀ p', PmN n p' → SrtN lt p' n → Q p' s) → KasT.kasWp cmp (kas_bin f p k) Q s
  | 0, p, k, P, h, hs, q => by
    rw [kas_bin.eq_1]
    have : k = n := by omega
    subst this
    exact kas_ret (q p P hs)
  | f + 1, p, k, P, h, hs, q => by
    rw [kas_bin.eq_2]
    have hz := P.size
    refine kas_bindN (place_ok o A P (by omega) hs k 0 k (by omega) (Nat.le_refl _) (by omega) (fun i hi => by omega) (fun i a b => by omega) fun l hl ha hb => ?_)
    refine bin_ok o A f _ (k + 1) (P.bub _ _) (by omega) ?_ q
    intro i j hij hj
    have el : k - (k - l) = l := by omega
    rw [at_bubble (by omega) (by omega), at_bubble (by omega) (by omega), el]
    have hk : k < n := by omega
    by_cases j1 : j = l
    · rw [if_pos j1]
      by_cases i1 : i = l
      · rw [if_pos i1]; exact o.irr (P.inn hk)
      · rw [if_neg i1, if_neg (by omega)]
        exact ha i (by omega)
    · rw [if_neg j1]
      by_cases j2 : l < j ∧ j ≤ k
      · rw [if_pos j2]
        by_cases i1 : i = l
        · rw [if_pos i1]
          exact o.asym _ _ (P.inn hk) (P.inn (by omega)) (hb (j - 1) (by omega) (by omega))
        · rw [if_neg i1]
          by_cases i2 : l < i ∧ i ≤ k
          · rw [if_pos i2]
            exact hs _ _ (by omega) (by omega)
          · rw [if_neg i2]
            exact hs _ _ (by omega) (by omega)
      · rw [if_neg j2, if_neg (by omega), if_neg (by omega)]
        exact hs _ _ hij (by omega)
theorem sort_ok (o : OrdN n lt) (A : AsksN n lt cmp s) {Q : Array Nat → Shared → Prop} (h1 : 1 ≤ n) (q : ∀ p', PmN n p' → SrtN lt p' n → Q p' s) : KasT.kasWp cmp (kas_sort n) Q s := by
  unfold kas_sort
  refine kas_bindN (count_ok o A ⟨Array.Perm.refl _⟩ h1 fun m p P a b hs => ?_)
  show KasT.kasWp cmp (if m < n then _ else _) Q s
  split
  · have e : max m 1 = m := by omega
    rw [e]
    exact bin_ok o A (n - m) p m P (by omega) hs q
  · have : m = n := by omega
    subst this
    exact kas_ret (q p P hs)
end
end L2
namespace L2
open PySem PySem.Spec PyProof.Rows
theorem Inv.laidL {X : Cx} {pins : List (Addr × Obj)} {σ : St} {H : Hp} {s : Shared} {h' : Heap} {a : Addr} {o : HO} {t' : Nat} (I : Inv X pins σ H s) (k : ∀ b u, b ≠ X.env.locals → s.heap.get? b = some u → h'.get? b = some u)
    (ns : ∀ m, s.heap.Ns X.env.locals m → h'.Ns X.env.locals m) (hp : s.heap.get? a = none) (hn : H a = none) (new : ObjOk X.prog X.w (upd H a o) h' a o) : Inv X pins σ (upd H a o) { s with heap := h', toks := t' } := by
  have ne : ∀ b u, s.heap.get? b = some u → b ≠ a := fun b u q z => by rw [z, hp] at q; cases q
  refine I.step (g' := s.gens) (d' := s.drawn) (ch := []) (fun _ z => nomatch z) (fun b u hb _ _ e _ => k b u hb e) (fun b u hb _ _ e _ => ⟨u.slots, k b u hb e⟩) (fun b u _ e n => by rw [upd_ne (ne b u e)]; exact n)
    (fun b u _ e => ?_) (fun b xs q => by rw [upd_ne (ne_of_none q hn)]; exact q) (fun b u xs q => by rw [upd_ne (ne_of_none q hn)]; exact q) (fun b ps q => ⟨#[], by rw [upd_ne (ne_of_none q hn), q]; simp⟩) ns (fun b u e => ?_) I.bare
  · by_cases hb : b = X.env.locals
    · obtain ⟨m, hm, _⟩ := I.loc
      obtain ⟨o', _, _, ho', _⟩ := ns m hm
      exact ⟨o', by rw [hb]; exact ho'⟩
    · exact ⟨u, k b u hb e⟩
  · by_cases hb : b = a
    · subst hb; rw [upd_same] at e; cases e; exact new
    · rw [upd_ne hb] at e
      refine (I.hok b u e).stay (fun c v hc q => k c v ?_ q) (fun c q => by rw [upd_ne (ne_of_none q hn)]; exact q) fun c xs q => by rw [upd_ne (ne_of_none q hn)]; exact q
      rintro rfl
      rcases hc with rfl | hc
      · rw [I.free] at e; cases e
      · rw [I.free] at hc; cases hc
def ltL (x y : Str) : Bool := decide (x.cps.toList < y.cps.toList)
theorem ltL_neg {a b c : Str} (h : ltL a c = true) : ltL a b = true ∨ ltL b c = true := strKind.negTrans a.cps.toList b.cps.toList c.cps.toList h
theorem ltL_asym {a b : Str} (h : ltL a b = true) : ltL b a = false := by
  cases e : ltL b a with
  | false => rfl
  | true =>
    have h1 := strKind.trans a.cps.toList b.cps.toList a.cps.toList h e
    have h2 := strKind.irrefl a.cps.toList
    rw [h2] at h1
    cases h1
theorem ltL_total {a b : Str} (h : ltL a b = false) (k : ltL b a = false) : a = b := by
  have := strKind.total a.cps.toList b.cps.toList h k
  cases a with
  | mk x => cases b with
    | mk y => rw [show x = y from Array.toList_inj.mp this]
theorem ltL_irr (a : Str) : ltL a a = false := strKind.irrefl a.cps.toList
abbrev Pr := Str × Str
def prLt (a b : Pr) : Bool := if a.1 = b.1 then ltL a.2 b.2 else ltL a.1 b.1
theorem prLt_trans {a b c : Pr} (h1 : prLt b a = false) (h2 : prLt c b = false) : prLt c a = false := by
  unfold prLt at *
  by_cases e1 : c.1 = a.1
  · rw [if_pos e1]
    by_cases e2 : b.1 = a.1
    · rw [if_pos e2] at h1
      rw [if_pos (e1.trans e2.symm)] at h2
      cases e : ltL c.2 a.2 with
      | false => rfl
      | true => rcases ltL_neg (b := b.2) e with z | z <;> simp_all
    · rw [if_neg e2] at h1
      rw [if_neg (fun z => e2 (z.symm.trans e1)), e1] at h2
      exact absurd (ltL_total h1 h2) e2
  · rw [if_neg e1]
    cases e : ltL c.1 a.1 with
    | false => rfl
    | true =>
      by_cases e2 : b.1 = a.1
      · rw [if_neg (fun z => e1 (z.trans e2)), e2, e] at h2
        cases h2
      · rw [if_neg e2] at h1
        by_cases e3 : c.1 = b.1
        · rw [e3, h1] at e; cases e
        · rw [if_neg e3] at h2
          rcases ltL_neg (b := b.1) e with z | z <;> simp_all
theorem prLt_asym {a b : Pr} (h : prLt a b = true) : prLt b a = false := by
  unfold prLt at *
  by_cases e : a.1 = b.1
  · rw [if_pos e] at h
    rw [if_pos e.symm]
    exact ltL_asym h
  · rw [if_neg e] at h
    rw [if_neg (fun z => e z.symm)]
    exact ltL_asym h
theorem prLt_total {a b : Pr} (h : prLt a b = false) (k : prLt b a = false) : a = b := by
  unfold prLt at *
  by_cases e : a.1 = b.1
  · rw [if_pos e] at h
    rw [if_pos e.symm] at k
    exact Prod.ext e (ltL_total h k)
  · rw [if_neg e] at h
    rw [if_neg (fun z => e z.symm)] at k
    exact absurd (ltL_total h k) e
def SrtP (l : List Pr) : Prop := l.Pairwise fun x y => prLt y x = false
theorem srtP_unique : ∀ {l m : List Pr}, SrtP l → SrtP m → l.Perm m → l = m
  | [], m, _, _, p => by rw [List.nil_perm.mp p]
  | x :: r, [], _, _, p => absurd p.length_eq (by simp)
  | x :: r, y :: t, h, k, p => by
    have e : x = y := by
      have h1 := List.pairwise_cons.mp h
      have k1 := List.pairwise_cons.mp k
      rcases List.mem_cons.mp (p.mem_iff.mp (List.mem_cons_self (a := x) (l := r))) with e | e
      · exact e
      · rcases List.mem_cons.mp (p.mem_iff.mpr (List.mem_cons_self (a := y) (l := t))) with e2 | e2
        · exact e2.symm
        · exact prLt_total (k1.1 x e) (h1.1 y e2)
    subst e
    rw [srtP_unique (List.pairwise_cons.mp h).2 (List.pairwise_cons.mp k).2 (List.perm_cons x |>.mp p)]
theorem ask_pair {prog : Program} {w : World} {A : Around} {s : Shared} {x y : Addr} {ox oy : Obj} {a b c d : Str} {ta tb tc td : Tok} {n k : Nat} {Q : Bool → Shared → Prop} (hx : s.heap.get? x = some ox) (dx : ox.data = .seq #[.str a ta, .str b tb] n) (hy : s.heap.get? y = some oy) (dy : oy.data = .seq #[.str c tc, .str d td] k)
    (q : Q (prLt (a, b) (c, d)) s) : wpAny (model prog w) A (keyLt' (tuples' true) (.ref x) (.ref y)) Q (fun _ _ => False) s := by
  refine PySem.W.kat_lt hx dx hy dy ?_
  show PySem.W.KatLex prog w A true _ Q [(.str a ta, .str c tc), (.str b tb, .str d td)] 0 s
  refine PySem.W.kat_cons (SeqAt.EqAt.str_str a ta c tc prog w _ _ ?_)
  unfold prLt at q
  by_cases e : a = c
  · rw [if_pos e] at q
    rw [show (a == c) = true from by simp [e]]
    refine PySem.W.kat_yes (PySem.W.kat_cons (SeqAt.EqAt.str_str b tb d td prog w _ _ ?_))
    by_cases e2 : b = d
    · rw [show (b == d) = true from by simp [e2]]
      refine PySem.W.kat_yes (PySem.W.kat_nil ?_)
      have : ltL b d = false := by rw [e2]; exact ltL_irr d
      rw [show ltL (a, b).2 (c, d).2 = false from this] at q
      exact q
    · rw [show (b == d) = false from by simp [e2]]
      refine PySem.W.kat_no (PySem.W.kat_one _ _ (lt_str ?_))
      exact q
  · rw [if_neg e] at q
    rw [show (a == c) = false from by simp [e]]
    exact PySem.W.kat_no (oneLt_str q)
theorem ok_there {P : Program} {w : World} {H : Hp} {h : Heap} {a : Addr} {o : HO} (x : ObjOk P w H h a o) : ∃ u, h.get? a = some u := by
  cases o with
  | lst xs => obtain ⟨_, _, _, _, e⟩ := x; exact ⟨_, e⟩
  | tup xs => obtain ⟨_, _, _, ob, e, _⟩ := x; exact ⟨_, e⟩
  | dK kvs => obtain ⟨_, _, _, _, o, _, _, e, _⟩ := x; exact ⟨_, e⟩
  | dT kvs => obtain ⟨_, _, _, _, o, _, _, e, _⟩ := x; exact ⟨_, e⟩
  | set S n => obtain ⟨o, _, _, _, e, _⟩ := x; exact ⟨_, e⟩
  | ins C dx fs => obtain ⟨_, _, _, e, _⟩ := x; exact ⟨_, e⟩
  | own y => obtain ⟨_, e⟩ := x; exact ⟨_, e⟩
  | xd fs => obtain ⟨_, ⟨_, _, _, e, _⟩, _⟩ := x; exact ⟨_, e⟩
  | rng lo hi => obtain ⟨_, _, _, e⟩ := x; exact ⟨_, e⟩
  | frz ob u => obtain ⟨e, _⟩ := x; exact ⟨_, e⟩
  | tbl ps => exact ⟨_, (show h.get? a = some _ from x)⟩
  | met f y => exact ⟨_, (show h.get? a = some _ from x)⟩
  | ext φ => obtain ⟨_, ⟨_, e⟩, _⟩ := x; exact ⟨_, e⟩
def prRel (X : Cx) (H : Hp) (ts : List Addr) (prs : List Pr) : Prop := Paired (fun t (pr : Pr) => SqT X.K H t [.str pr.1, .str pr.2]) ts prs
theorem tups_of {X : Cx} {pins : List (Addr × Obj)} {σ : St} {H : Hp} {s : Shared} (I : Inv X pins σ H s) {h' : Heap} (k : ∀ b u, b ≠ X.env.locals → s.heap.get? b = some u → h'.get? b = some u) : ∀ {ts : List Addr} {prs : List Pr}, prRel X H ts prs →
    (∃ fs, PySem.W.KatTups h' (ts.map Value.ref) fs ∧ fs.length = ts.length ∧ ∀ v ∈ fs, ∃ x t, v = Value.str x t) ∧ ∀ (i : Nat) (pr : Pr), prs[i]? = some pr → ∃ t o ta tb n, ts[i]? = some t ∧ h'.get? t = some o ∧ o.data = .seq #[.str pr.1 ta, .str pr.2 tb] n
  | _, _, .nil => ⟨⟨[], trivial, rfl, fun v h => by cases h⟩, fun i pr h => by simp at h⟩
  | t :: ts, pr :: prs, .cons h r => by
    obtain ⟨⟨fs, h1, h2, h3⟩, h4⟩ := tups_of I k r
    obtain ⟨its, rv, ⟨ob, g, c, n, d⟩, hz⟩ := I.tuple h
    obtain ⟨u1, u2, e, r1, r2⟩ := vals2 rv
    obtain ⟨ta, rfl⟩ := r1
    obtain ⟨tb, rfl⟩ := r2
    subst e
    have ne : t ≠ X.env.locals := fun z => by
      obtain ⟨m, ⟨o, es, ep, ho, hdt, _⟩, _⟩ := I.loc
      rw [← z, g] at ho
      cases ho
      rw [d] at hdt
      cases hdt
    have g' := k _ _ ne g
    refine ⟨⟨.str pr.1 ta :: fs, ⟨⟨t, ob, _, n, rfl, g', c, d, rfl⟩, h1⟩, by simp [h2], fun v hv => ?_⟩, fun i pr' hi => ?_⟩
    · rcases List.mem_cons.mp hv with z | z
      · exact ⟨_, _, z⟩
      · exact h3 v z
    · cases i with
      | zero =>
        cases hi
        exact ⟨t, ob, ta, tb, n, rfl, g', d⟩
      | succ i => exact h4 i pr' hi
theorem getD_ref (ts : List Addr) (i : Nat) (h : i < ts.length) : (ts.map Value.ref).getD i Value.none = Value.ref (ts.getD i 0) := by
  simp [List.getD, h]
theorem refs_vals : ∀ {ts : List Addr} {its : List Value}, Vals (ts.map V.ref) its → its = ts.map Value.ref
  | [], [], _ => rfl
  | t :: r, u :: its, h => by
    cases h with
    | cons a b =>
      cases (show u = Value.ref t from a)
      rw [refs_vals b]
      rfl
theorem vals_refs : ∀ (ts : List Addr), Vals (ts.map V.ref) (ts.map Value.ref)
  | [] => .nil
  | t :: r => .cons rfl (vals_refs r)
theorem call_sortP2 {X : Cx} : CallR X (.builtin "sorted") (fun xs H Q => ∃ a ts prs, xs = [.ref a] ∧ SqL X.K H a (ts.map V.ref) ∧ prRel X H ts prs ∧ 2 ≤ ts.length ∧ ts.length < 64 ∧ ∀ l ts' prs', H l = none → prRel X H ts' prs' → prs'.Perm prs → SrtP prs' → Q (.ref l) (upd H l (.lst (ts'.map V.ref)))) := by
  intro pins s σ H xs us Q I r h
  obtain ⟨a, ts, prs, rfl, hq, hr, h2, h64, q⟩ := h
  obtain ⟨u, rfl, rx⟩ := vals1 r
  cases (show u = Value.ref a from rx)
  obtain ⟨its, r', pl, hz⟩ := I.list hq
  have ei := refs_vals r'
  subst ei
  have lp := Paired.length hr
  obtain ⟨m, hns, _⟩ := id I.loc
  have pl2 := pl.isList
  obtain ⟨oa, ga, ca, na, da⟩ := id pl2
  have neA : a ≠ X.env.locals := fun z => by
    obtain ⟨o, es, ep, ho, hdt, _⟩ := hns
    rw [← z, ga] at ho
    cases ho
    rw [da] at hdt
    cases hdt
  refine PySem.W.kat_sorted (h₀ := Att.noObjs s.heap) (L := X.env.locals) (m := m) (news := (a, oa) :: Att.ledger s.heap X.env.locals a) (Att.fr_all hns) (Att.news_ledger neA ga) pl2 (by rw [List.length_map]; exact h2) (by rw [List.length_map]; exact h64) fun D e1 h' F' N' lt' => ?_
  have keep : ∀ b u, b ≠ X.env.locals → s.heap.get? b = some u → h'.get? b = some u := fun b u nb hb => by
    by_cases e : b = a
    · subst e
      rw [ga] at hb
      cases hb
      exact (N' (b, oa) (by simp)).1
    · exact (N' (b, u) (List.mem_cons_of_mem _ (List.mem_cons_of_mem _ (Att.mem_ledger.mpr ⟨nb, e, hb⟩)))).1
  obtain ⟨⟨fs, k1, k2, k3⟩, k4⟩ := tups_of I keep hr
  refine PySem.W.kat_kind (T := .type "str") k1 (by omega) (fun v hv => ?_) (by decide) ?_
  · obtain ⟨x, t, rfl⟩ := k3 v hv
    intro A Q E s _ h
    exact wpAny_pure h
  · have hD : s.heap.get? D = none := by
      cases e : s.heap.get? D with
      | none => rfl
      | some o =>
        exfalso
        have nD : D ≠ X.env.locals := (N' (D, _) List.mem_cons_self).2.1
        by_cases ea : D = a
        · have := lt' (a, oa) List.mem_cons_self
          rw [ea] at this
          exact absurd this (Nat.lt_irrefl _)
        · exact absurd (lt' (D, o) (List.mem_cons_of_mem _ (Att.mem_ledger.mpr ⟨nD, ea, e⟩))) (Nat.lt_irrefl _)
    have fD : H D = none := by
      cases e : H D with
      | none => rfl
      | some u =>
        obtain ⟨ob, g⟩ := ok_there (I.hok D u e)
        rw [hD] at g
        cases g
    let pr0 : Pr := (Str.empty, Str.empty)
    rw [List.length_map]
    refine sort_ok (n := ts.length) (lt := fun i j => prLt (prs.getD i pr0) (prs.getD j pr0)) ⟨fun a b c _ _ _ h1 h2 => prLt_trans h1 h2, fun a b _ _ h => prLt_asym h⟩ (fun i j C hi hj hC => ?_) (by omega) fun p P S => ?_
    · obtain ⟨ti, oi, ta, tb, n, g1, g2, g3⟩ := k4 i (prs.getD i pr0) (by simp [List.getD, List.getElem?_eq_getElem (show i < prs.length by omega)])
      obtain ⟨tj, oj, tc, td, n2, g4, g5, g6⟩ := k4 j (prs.getD j pr0) (by simp [List.getD, List.getElem?_eq_getElem (show j < prs.length by omega)])
      show wpAny _ _ (keyLt' _ ((ts.map Value.ref).getD i Value.none) ((ts.map Value.ref).getD j Value.none)) C _ _
      have e1 : (ts.map Value.ref).getD i Value.none = .ref ti := by rw [List.getD, List.getElem?_map, g1]; rfl
      have e2 : (ts.map Value.ref).getD j Value.none = .ref tj := by rw [List.getD, List.getElem?_map, g4]; rfl
      rw [e1, e2]
      exact ask_pair g2 g3 g5 g6 hC
    · have hps := P.size
      have pin : ∀ i ∈ p.toList, i < ts.length := fun i hi => by
        have : i ∈ (List.range ts.length).toArray := P.pm.mem_iff.mp (by simpa using hi)
        simpa using this
      refine ⟨(D, seqObj "list" #[] e1) :: (a, oa) :: Att.ledger s.heap X.env.locals a, fun o' => (D, o') :: (a, oa) :: Att.ledger s.heap X.env.locals a, F', N', .head fun q hq => Nat.ne_of_lt (lt' q hq), fun h2 c F2 N2 => ?_⟩
      have eout : (p.toList.map fun i => (ts.map Value.ref).getD i Value.none) = (p.toList.map fun i => ts.getD i 0).map Value.ref := by
        rw [List.map_map]
        refine List.map_congr_left fun i hi => ?_
        exact getD_ref ts i (pin i hi)
      have keep2 : ∀ b u, b ≠ X.env.locals → s.heap.get? b = some u → h2.get? b = some u := fun b u nb hb => by
        by_cases e : b = a
        · subst e
          rw [ga] at hb
          cases hb
          exact (N2 (b, oa) (by simp)).1
        · exact (N2 (b, u) (List.mem_cons_of_mem _ (List.mem_cons_of_mem _ (Att.mem_ledger.mpr ⟨nb, e, hb⟩)))).1
      have gD := (N2 (D, _) List.mem_cons_self).1
      have perm : (p.toList.map fun i => prs.getD i pr0).Perm prs := by
        have e : prs = (List.range ts.length).map fun i => prs.getD i pr0 := by
          refine List.ext_getElem (by simp [lp]) fun i h1 h2 => ?_
          simp [List.getD, h1]
        have pp : p.toList.Perm (List.range ts.length) := by
          have := P.pm.toList
          simpa using this
        exact (pp.map _).trans (by rw [← e])
      refine ⟨.ref D, _, I.laidL (t' := s.toks) keep2 (fun m' hm => ?_) hD fD (show ObjOk X.prog X.w _ _ _ (.lst ((p.toList.map fun i => ts.getD i 0).map V.ref)) from ⟨by rw [List.length_map, List.length_map, Array.length_toList, hps]; exact fits (by omega), (p.toList.map fun i => ts.getD i 0).map Value.ref, c, vals_refs _, by rw [← eout]; exact gD⟩), rfl, q D _ (p.toList.map fun i => prs.getD i pr0) fD ?_ perm ?_⟩
      · have := F2.ns
        have e : m' = m := by
          obtain ⟨o, es, ep, ho, hdt, _, hf⟩ := hm
          obtain ⟨o2, es2, ep2, ho2, hdt2, _, hf2⟩ := hns
          rw [ho] at ho2
          cases ho2
          rw [hdt] at hdt2
          cases hdt2
          funext x
          rw [← hf x, ← hf2 x]
        rw [e]
        exact this
      · have key : ∀ l : List Nat, (∀ i ∈ l, i < ts.length) → prRel X H (l.map fun i => ts.getD i 0) (l.map fun i => prs.getD i pr0) := by
          intro l
          induction l with
          | nil => exact fun _ => .nil
          | cons i r ih =>
            intro hl
            have hi := hl i List.mem_cons_self
            obtain ⟨t, e1, e2⟩ := Paired.at_ hr i (prs.getD i pr0) (by simp [List.getD, List.getElem?_eq_getElem (show i < prs.length by omega)])
            refine .cons ?_ (ih fun j hj => hl j (List.mem_cons_of_mem _ hj))
            have e3 : ts.getD i 0 = t := by rw [List.getD, e1]; rfl
            show SqT X.K H (ts.getD i 0) _
            rw [e3]
            exact e2
        exact key _ pin
      · unfold SrtP
        rw [List.pairwise_map, List.pairwise_iff_getElem]
        intro i j hi hj hij
        have := S i j (by omega) (by simpa [hps] using hj)
        have e1 : at_ p i = p.toList[i] := by simp [at_, Array.getD, show i < p.size by simpa using hi]
        have e2 : at_ p j = p.toList[j] := by simp [at_, Array.getD, show j < p.size by simpa using hj]
        rw [e1, e2] at this
        exact this
end L2
namespace L2
open PySem PySem.Spec PyProof.Rows PySem.W
section
variable {X : Cx} {params : Arguments} {body : Expr} {scope : Scope} {pos : Pos} {c T : Addr}
end
end L2
namespace L2
open PySem PySem.Spec PyProof.Rows PySem.W
section
variable {P : Program} {w : World} {K : Frag} {mg : Str → Option Value} {base : Heap} {f c' : Addr} {q : Str} {params : Arguments} {body : Expr} {scope : Scope} {pm ctv : Value} {N ps : List Str} {k : Nat} {te : TE}
end
section
variable {X : Cx} {i : Nat} {x : Str} {e : Expr} {es : List Expr} {t : TA} {p pos : Pos} {q : Str} {params : Arguments} {body : Expr} {scope : Scope} {N ps : List Str} {k : Nat} {te : TE}
end
end L2
namespace L2
open PySem PySem.Spec PyProof.Rows PySem.W
end L2
namespace L2
open PySem PySem.Spec PyProof.Rows PySem.W
section
variable {P : Program} {w : World} {A : Around} {E : Value → Shared → Prop} {s : Shared}
end
section
variable {X : Cx} {params : Arguments} {body : Expr} {scope : Scope} {pos : Pos} {c T : Addr}
end
end L2
namespace L2
open PySem PySem.Spec PyProof.Rows PySem.W
section
variable {X : Cx} {i : Nat} {xs xh : Str} {params : Arguments} {scope : Scope} {p pos lpos kp p1 p2 p3 : Pos} {e : Expr} {ta : TA} {c T : Addr} {k : Nat}
end
end L2
namespace L2
open PySem PySem.Spec PyProof.Rows
def dedS (zs : List Str) : List Str := metS (fun i => zs.getD i "") zs.length
theorem metS_mem (val : Nat → Str) (z : Str) : ∀ n, z ∈ metS val n ↔ ∃ i, i < n ∧ val i = z
  | 0 => ⟨fun h => (by cases h), fun ⟨i, h, _⟩ => absurd h (Nat.not_lt_zero _)⟩
  | n + 1 => by
    have ih := metS_mem val z n
    show z ∈ (if val n ∈ metS val n then metS val n else metS val n ++ [val n]) ↔ _
    have key : z ∈ (if val n ∈ metS val n then metS val n else metS val n ++ [val n]) ↔ z ∈ metS val n ∨ z = val n := by
      by_cases c : val n ∈ metS val n
      · rw [if_pos c]
        exact ⟨.inl, fun h => h.elim id fun e => e ▸ c⟩
      · rw [if_neg c, List.mem_append, List.mem_singleton]
    rw [key, ih]
    constructor
    · rintro (⟨i, h, e⟩ | e)
      · exact ⟨i, Nat.lt_succ_of_lt h, e⟩
      · exact ⟨n, Nat.lt_succ_self _, e.symm⟩
    · rintro ⟨i, h, e⟩
      by_cases c : i < n
      · exact .inl ⟨i, c, e⟩
      · have : i = n := by omega
        exact .inr (by rw [← e, this])
theorem dedS_mem (zs : List Str) (z : Str) : z ∈ dedS zs ↔ z ∈ zs := by
  unfold dedS
  rw [metS_mem]
  constructor
  · rintro ⟨i, h, e⟩
    rw [List.getD_eq_getElem?_getD, List.getElem?_eq_getElem h] at e
    rw [← e]
    exact List.getElem_mem h
  · intro h
    obtain ⟨i, hi⟩ := List.getElem?_of_mem h
    exact ⟨i, (List.getElem?_eq_some_iff.mp hi).1, by rw [List.getD_eq_getElem?_getD, hi]; rfl⟩
theorem metS_nd (val : Nat → Str) : ∀ n, (metS val n).Nodup
  | 0 => List.nodup_nil
  | n + 1 => by
    have ih := metS_nd val n
    show (if val n ∈ metS val n then metS val n else metS val n ++ [val n]).Nodup
    by_cases c : val n ∈ metS val n
    · rw [if_pos c]; exact ih
    · rw [if_neg c, List.nodup_append]
      refine ⟨ih, by simp, fun a ha b hb => ?_⟩
      rw [List.mem_singleton.mp hb]
      exact fun e => c (e ▸ ha)
theorem dedS_nd (zs : List Str) : (dedS zs).Nodup := metS_nd _ _
theorem dedS_len (zs : List Str) : (dedS zs).length ≤ zs.length := metS_len _ _
def tSS (K : PySem.W.Frag) (te : TE) : TE := fun σ H Q => te σ H fun x H1 => ∃ a zs, x = .ref a ∧ SqL K H1 a (List.map V.str zs) ∧ zs.length < 64 ∧ ∀ l zs', H1 l = none → zs'.Perm (dedS zs) → sortedS zs' = true → Q (.ref l) (upd H1 l (.lst (List.map V.str zs')))
theorem strs_ix : ∀ {its : List Value} {zs : List Str}, StrsAre its zs → ∀ (i : Nat) (v : Value), its[i]? = some v → ∃ t, v = Value.str (zs.getD i "") t
  | _, _, .nil, i, v, h => by cases h
  | _, _, .cons z t r, 0, v, h => by cases h; exact ⟨t, rfl⟩
  | _, _, .cons z t r, i + 1, v, h => strs_ix r i v h
theorem boot_setX : bootBuiltins "set" = some (.type "set") := by decide +kernel
theorem Inv.drawn {X : Cx} {pins : List (Addr × Obj)} {σ : List (Option V)} {H : Hp} {s : Shared} (d : Drawn) (I : Inv X pins σ H s) : Inv X pins σ H { s with drawn := d } := ⟨I.ok, I.os, I.bare, I.base, I.loc, I.cell, I.free, I.freeC, I.pin, I.hok, I.len⟩
theorem pe_sortedSet {X : Cx} {e : Expr} {te : TE} {p1 p2 q1 q2 : Pos} (hc : X.calm = true) (hg : Gl X "sorted") (hm : X.mg "sorted" = none) (hg2 : Gl X "set") (hm2 : X.mg "set" = none) (he : PE X e te)
    (h1 : starEach [.Call (.Name "set" p2) [e] [] q2] X.env = (false, eval (.Call (.Name "set" p2) [e] [] q2) X.env) :: starEach [] X.env := by rfl) (h2 : starEach [e] X.env = (false, eval e X.env) :: starEach [] X.env := by rfl) :
    PE X (.Call (.Name "sorted" p1) [.Call (.Name "set" p2) [e] [] q2] [] q1) (tSS X.K te) := by
  intro pins s σ H Q I h
  have hh := I.ok.hd hc
  refine wpAny_Call_Name_kw (ld_blt I hg hm boot_sorted ?_)
  refine PyProof.Rows.callWith_builtin1 ?_ h1 rfl
  rw [h1]
  show wpAny _ _ (spliced ((false, eval (.Call (.Name "set" p2) [e] [] q2) X.env) :: backTo q1 (starEach [] X.env))) _ _ s
  refine Calls.spliced_cons ?_
  refine wpAny_Call_Name_kw (ld_blt I hg2 hm2 boot_setX ?_)
  refine PyProof.Rows.callWith_type1 ?_ h2 rfl
  rw [h2]
  show wpAny _ _ (spliced ((false, eval e X.env) :: backTo q2 (starEach [] X.env))) _ _ s
  refine Calls.spliced_cons (thn (he pins s σ H _ I h) fun u s1 ⟨x, H1, I1, r1, q1⟩ => ?_)
  obtain ⟨a, zs, rfl, hq, h64, q1⟩ := q1
  cases (show u = Value.ref a from r1)
  refine Calls.spliced_nil ?_
  obtain ⟨its, rv, pl, hz⟩ := I1.list hq
  have sa := strs_are rv
  have hlen := rv.length
  rw [List.length_map] at hlen
  refine call_set_txt (val := fun i => zs.getD i "") hh pl.isList (fun i v hv => ?_) (by simp only [List.size_toArray]; unfold scanBound; omega) fun h' tk T kp => ?_
  · have hv2 : its[i]? = some v := by rw [List.getElem?_toArray] at hv; exact hv
    exact strs_ix sa i v hv2
  · refine Calls.spliced_nil ?_
    have eds : metS (fun i => zs.getD i "") its.toArray.size = dedS zs := by unfold dedS; simp only [List.size_toArray]; rw [← hlen]
    rw [eds] at T
    have ldd := dedS_len zs
    refine sorted_set hh T (by omega) fun h2 d tk2 l ee out ss kp2 le2 he2 b1 b2 b3 tk3 => ?_
    have kall : ∀ b u, s1.heap.get? b = some u → h2.get? b = some u := fun b u hb => kp2 b u (kp b u (Heap.lt_size hb) hb)
    have v := vals_strs b1
    have lss : ss.length ≤ zs.length := by rw [b2.length_eq]; exact ldd
    have lel : s1.heap.objs.size ≤ l := by
      obtain ⟨oT, _, _, _, hoT, _⟩ := T
      exact Nat.le_trans (Nat.le_of_lt (Heap.lt_size hoT)) le2
    refine ⟨.ref l, _, (I1.laid (t' := tk2) kall lel (show ObjOk X.prog X.w _ _ _ (.lst (List.map V.str ss)) from ⟨?_, out.toList, ee, v, ?_⟩)).drawn d, rfl, q1 _ ss (I1.hok.fresh lel) b2 b3⟩
    · rw [List.length_map]
      rw [List.length_map] at hz
      omega
    · rw [he2]
end L2
namespace L2
open PySem PySem.W
section
variable {X : Cx} {pins : List (Addr × Obj)} {σ : St} {H : Hp} {s : Shared} {a : Addr} {kvs : List (Key × V)} {k : Key} {u : Value} {A : Around} {E : Value → Shared → Prop}
end
section
variable {X : Cx} {o e f : Expr} {apos cpos : Pos} {td ty tx : TE}
end
end L2
namespace L2
open PySem PySem.Spec PyProof.Rows
section
variable {prog : Program} {w : World} {A : Around} {E : Value → Shared → Prop}
theorem tk_keep {h h' : Heap} {ks : List Key} {a : Addr} (p : (tupleKind (mixKind prog w)).is h ks a) (k : ∀ b o, o.cls = .type "tuple" → h.get? b = some o → h'.get? b = some o) : (tupleKind (mixKind prog w)).is h' ks a :=
  let ⟨o, its, n, h1, h2, h3, h4⟩ := p; ⟨o, its, n, k a o h2 h1, h2, h3, h4⟩
def PairAtH (prog : Program) (w : World) (h : Heap) (u : Value) (kv : List Key × Addr × Value) : Prop :=
  ∃ t n o, u = .ref t ∧ (tupleKind (mixKind prog w)).is h kv.1 kv.2.1 ∧ h.get? t = some o ∧ o.cls = .type "tuple" ∧ o.data = .seq #[.ref kv.2.1, kv.2.2] n
theorem PairAtH.keep {h h' : Heap} {u : Value} {kv : List Key × Addr × Value} (p : PairAtH prog w h u kv) (k : ∀ b o, o.cls = .type "tuple" → h.get? b = some o → h'.get? b = some o) : PairAtH prog w h' u kv :=
  let ⟨t, n, o, a, b, c, d, e⟩ := p; ⟨t, n, o, a, tk_keep b k, k t o d c, d, e⟩
end
def fillT (kvs acc : List (List Key × V)) : List (List Key × V) := kvs.foldl (fun a p => putK a p.1 p.2) acc
section
variable {X : Cx} {pins : List (Addr × Obj)} {σ : St} {H : Hp} {s : Shared}
end
end L2
namespace L2
open PySem
theorem caps_of {X : Cx} {scope : Scope} {js : List (Nat × Str)} (h : (js.all fun p => X.N[p.1]? == some p.2 && X.env.scope.names.lookup p.2 == some .cell && scope.names.lookup p.2 == some .free) = true)
    (h2 : (scope.names.all fun y => y.2 != .free || X.env.scope.names.lookup y.1 == some .cell) = true) : Caps X scope js := by
  refine ⟨fun p hp => ?_, fun y hy => ?_⟩
  · have := List.all_eq_true.mp h p hp
    simp only [Bool.and_eq_true, beq_iff_eq] at this
    exact ⟨this.1.1, this.1.2, this.2⟩
  · have := List.all_eq_true.mp h2 _ hy
    simpa using this
theorem goT {σ : St} {H : Hp} {A B : Hp → Prop} (h : A H) : tTrue σ H fun b H3 => if b = true then A H3 else B H3 := by
  show if true = true then A H else B H
  exact iteT h
theorem goN {i : Nat} {v : V} {σ : St} {H : Hp} {Q : St → Hp → Prop} (h : Q (σ.set i (some v)) H) : gName i v σ H Q := h
end L2
namespace L2
open PySem
theorem ix_tupK {X : Cx} (K : PySem.W.Frag) (hK : X.K = K := by rfl) : IxR X (rIxT K) := by
  subst hK
  exact ix_tup
theorem pg_tupK {X : Cx} {es : List Expr} {k : Nat} {t : TGs} {n : Nat} {pos : Pos} (K : PySem.W.Frag) (hc : X.calm = true) (h : PGs X es t) (hK : X.K = K := by rfl)
    (hn : (assignEach es X.env).length = n := by rfl) (hst : (assignEach es X.env).findIdx? (·.1) = none := by rfl) : PG X (.Tuple es k pos) (gTup K n t) := by
  subst hK
  exact pg_tup hc h hn hst
end L2
namespace K11
open PySem L2
def top (i : Nat) : Stmt := PySem.Challenge.pw_wright_k24_whole_begins_let_by.main.body.getD i (.Pass ⟨0, 0, 0, 0⟩)
abbrev sHeads : Stmt := top 1
structure Txt (mg : Str → Option Value) : Prop where
  len : mg "len" = none
  rng : mg "range" = none
  isi : mg "isinstance" = none
  tup : mg "tuple" = none
  lst : mg "list" = none
  dct : mg "dict" = none
  all : mg "all" = none
  any : mg "any" = none
  str : mg "str" = none
  int : mg "int" = none
  boo : mg "bool" = none
  enu : mg "enumerate" = none
  sum : mg "sum" = none
  max : mg "max" = none
  min : mg "min" = none
section
variable {P : Program} {w : World} {K : PySem.W.Frag} {mg : Str → Option Value} {base : Heap} {f : Addr} {fd : FuncData}
theorem boot_all : bootBuiltins "all" = some (.builtin "all") := by decide +kernel
theorem boot_lst : bootBuiltins "list" = some (.type "list") := by decide +kernel
theorem boot_dct : bootBuiltins "dict" = some (.type "dict") := by decide +kernel
theorem kit_ib : PySem.W.kitOne K (.type "int") (.type "bool") = some false := by kernel_rfl
end
end K11
namespace L2
open PySem
theorem sqt_upd {K : PySem.W.Frag} {H : Hp} {D a : Addr} {xs ys : List V} {o : HO} (hD : H D = some (.lst ys)) (h : SqT K H a xs) : SqT K (upd H D o) a xs := by
  rcases h with (h | ⟨u, h⟩) | h
  · exact .inl (.inl (by rw [upd_ne (fun z => by rw [z, hD] at h; cases h)]; exact h))
  · exact .inl (.inr ⟨u, by rw [upd_ne (fun z => by rw [z, hD] at h; cases h)]; exact h⟩)
  · exact .inr h
theorem any_key (kvs : List (Key × V)) (k : Key) : (kvs.any fun kv => decide (kv.1 = k)) = true ↔ k ∈ kvs.map (·.1) := by
  rw [List.any_eq_true, List.mem_map]
  constructor
  · rintro ⟨x, h1, h2⟩; exact ⟨x, h1, of_decide_eq_true h2⟩
  · rintro ⟨x, h1, h2⟩; exact ⟨x, h1, decide_eq_true h2⟩
theorem put_in {kvs : List (Key × V)} {k : Key} {v : V} (h : k ∈ kvs.map (·.1)) : (putK kvs k v).map (·.1) = kvs.map (·.1) := by
  unfold putK
  rw [if_pos ((any_key kvs k).mpr h), List.map_map]
  refine List.map_congr_left fun x hx => ?_
  show (if x.1 = k then (x.1, v) else x).1 = x.1
  split <;> rfl
theorem put_out {kvs : List (Key × V)} {k : Key} {v : V} (h : ¬ k ∈ kvs.map (·.1)) : (putK kvs k v).map (·.1) = kvs.map (·.1) ++ [k] := by
  unfold putK
  rw [if_neg (fun z => h ((any_key kvs k).mp z)), List.map_append]
  rfl
theorem val_mem (kvs : List (Key × V)) (k : Key) : (valV kvs k).isSome = true ↔ k ∈ kvs.map (·.1) := by
  rw [← valV_any]
  exact any_key kvs k
theorem paired_mapR {α β γ : Type} {F : α → β → Prop} {G : α → γ → Prop} {φ : β → γ} : ∀ {xs : List α} {ys : List β}, Paired F xs ys → (∀ a b, F a b → G a (φ b)) → Paired G xs (ys.map φ)
  | _, _, .nil, _ => .nil
  | _, _, .cons h t, k => .cons (k _ _ h) (paired_mapR t k)
theorem inr_mem {z : Str} {l : List Str} : (Sum.inr z : Key) ∈ l.map Sum.inr ↔ z ∈ l := by
  rw [List.mem_map]
  constructor
  · rintro ⟨x, h1, h2⟩; rw [← Sum.inr.inj h2]; exact h1
  · intro h; exact ⟨z, h, rfl⟩
end L2
namespace M11
abbrev Rule := PySem.Str × List PySem.Str
def add1 (a : List PySem.Str) (h : PySem.Str) : List PySem.Str := if h ∈ a then a else a ++ [h]
def ded (acc hs : List PySem.Str) : List PySem.Str := hs.foldl add1 acc
def addW (heads a : List PySem.Str) (p : PySem.Str) : List PySem.Str := if p ∈ heads then a else add1 a p
def wds (heads acc ps : List PySem.Str) : List PySem.Str := ps.foldl (addW heads) acc
theorem add1_len (a : List PySem.Str) (h : PySem.Str) : (add1 a h).length ≤ a.length + 1 := by
  unfold add1; split <;> simp
theorem ded_len : ∀ (hs acc : List PySem.Str), (ded acc hs).length ≤ acc.length + hs.length
  | [], acc => by simp [ded]
  | h :: r, acc => by
    have := ded_len r (add1 acc h)
    have := add1_len acc h
    show (ded (add1 acc h) r).length ≤ _
    rw [List.length_cons]; omega
end M11
namespace K11
open PySem L2 M11
theorem keys_add {acc : List (Key × V)} {as : List Str} (e : acc.map (·.1) = as.map Sum.inr) (h : Str) {v : V} : (putK acc (Sum.inr h) v).map (·.1) = (add1 as h).map Sum.inr := by
  unfold add1
  by_cases q : h ∈ as
  · rw [if_pos q, put_in (by rw [e]; exact inr_mem.mpr q), e]
  · rw [if_neg q, put_out (by rw [e]; exact fun z => q (inr_mem.mp z)), e, List.map_append]; rfl
theorem keys_ded : ∀ (hs : List Str) (acc : List (Key × V)) (as : List Str), acc.map (·.1) = as.map Sum.inr → (fillK (hs.map fun h => ((Sum.inr h : Key), V.bl true)) acc).map (·.1) = (ded as hs).map Sum.inr
  | [], acc, as, e => e
  | h :: r, acc, as, e => by
    refine keys_ded r (putK acc (Sum.inr h) (.bl true)) (add1 as h) ?_
    exact keys_add e h
theorem keys_str {kvs : List (Key × V)} {zs : List Str} (e : kvs.map (·.1) = zs.map Sum.inr) : (kvs.map fun p => kV p.1) = zs.map V.str := by
  have e2 : (kvs.map fun p => kV p.1) = (kvs.map (·.1)).map kV := by rw [List.map_map]; rfl
  rw [e2, e, List.map_map]
  rfl
section
variable {P : Program} {w : World} {K : PySem.W.Frag} {mg : Str → Option Value} {base : Heap} {f : Addr} {fd : FuncData}
def RuleV (K : PySem.W.Frag) (H : Hp) (r : Addr) (ru : Rule) : Prop := ∃ p, SqT K H r [.str ru.1, .ref p] ∧ SqT K H p (ru.2.map V.str)
def Rules (K : PySem.W.Frag) (H : Hp) (rs : List Addr) (rules : List Rule) : Prop := Paired (fun r ru => RuleV K H r ru) rs rules
theorem Rules.keep {H H' : Hp} {rs : List Addr} {rules : List Rule} (h : Rules K H rs rules) (k : ∀ a xs, SqT K H a xs → SqT K H' a xs) : Rules K H' rs rules := Paired.mapP h fun r ru ⟨p, a, b⟩ => ⟨p, k _ _ a, k _ _ b⟩
theorem Rules.same {H H' : Hp} {rs : List Addr} {rules : List Rule} (h : Rules K H rs rules) (s : Same H H') : Rules K H' rs rules := h.keep fun _ _ z => s.tup z
theorem Rules.get {H : Hp} {rs : List Addr} {rules : List Rule} (h : Rules K H rs rules) {i : Nat} {r : Addr} (e : rs[i]? = some r) : ∃ ru, rules[i]? = some ru ∧ RuleV K H r ru := by
  have l := Paired.length h
  have li := (List.getElem?_eq_some_iff.mp e).1
  have e2 : rules[i]? = some (rules[i]'(by omega)) := List.getElem?_eq_getElem (by omega)
  obtain ⟨x, e3, e4⟩ := Paired.at_ h i _ e2
  rw [e] at e3
  cases e3
  exact ⟨_, e2, e4⟩
theorem comp_pairs {H : Hp} {R D : Addr} {rs : List Addr} {rules : List Rule} {σ : St} {Qp : Hp → Prop} (hR : SqL K H R (rs.map V.ref)) (hrl : Rules K H rs rules) (hlen : rules.length ≤ 1000) (hD : H D = none)
    (q : ∀ ts H2, Same H H2 → H2 D = some (.lst (ts.map V.ref)) → Paired (fun t h => SqT K H2 t [.str h, .bl true]) ts (rules.map (·.1)) → Qp H2) :
    ∃ W : Nat → Nat → List V → St → Hp → Prop, (∃ m, W 0 m [] (capS ["head", "parts"] [] σ) (upd H D (.lst []))) ∧
  ∀ i m ys σ' H, W i m ys σ' H → ((Itl K R).stop i H ∧ Qp H) ∨ ((Itl K R).go i H ∧ ∃ m', m' < m ∧ ∀ x H', (Itl K R).yld i H x H' → gTup K 2 (gCons (gName 0) (gCons (gName 1) gNil)) x σ' H' fun σ2 H2 => tTrue σ2 H2 fun b H3 =>
    if b = true then tTup (tCons (tVar 0) (tCons (tC (.bl true)) tNil)) σ2 H3 fun y H4 => H4 D = some (.lst ys) ∧ ys.length < sizeLine ∧ W (i + 1) m' (ys ++ [y]) σ2 (upd H4 D (.lst (ys ++ [y]))) else W (i + 1) m' ys σ2 H3) := by
  have ll := Paired.length hrl
  refine compG_list (xs := rs.map V.ref) (fun i ys σ2 H2 => ∃ ts : List Addr, ys = ts.map V.ref ∧ ts.length = i ∧ Paired (fun t h => SqT K H2 t [.str h, .bl true]) ts ((rules.take i).map (·.1)) ∧ (∃ y0 y1, σ2 = [y0, y1]) ∧ Same H H2 ∧ H2 D = some (.lst ys))
    ⟨[], rfl, rfl, .nil, ⟨none, none, rfl⟩, same_laid hD _, upd_same⟩ (fun i ys σ2 H2 _ h => ?_) (fun i x ys σ2 H2 ex h => ?_) (fun ys σ2 H2 h => ?_)
  · obtain ⟨_, _, _, _, _, sm, _⟩ := h
    exact sm.seq hR
  · obtain ⟨ts, rfl, ht, hp, ⟨y0, y1, rfl⟩, sm, hd⟩ := h
    rw [List.getElem?_map] at ex
    obtain ⟨r, er, rfl⟩ := Option.map_eq_some_iff.mp ex
    obtain ⟨ru, e1, p, v1, v2⟩ := hrl.get er
    have li := (List.getElem?_eq_some_iff.mp e1).1
    refine ⟨r, _, rfl, sm.tup v1, rfl, _, _, rfl, _, _, rfl, rfl, ?_⟩
    refine goT ?_
    refine ⟨_, rfl, (by show 2 ≤ sizeLine; decide), fun t ht2 => ⟨?_, fits' (by rw [List.length_map]; omega), ts ++ [t], ?_, ?_, ?_, ⟨_, _, rfl⟩, ?_, upd_same⟩⟩
    · rw [upd_ne (ne_of_none hd ht2)]; exact hd
    · rw [List.map_append]; rfl
    · rw [List.length_append, ht]; rfl
    · rw [List.take_add_one, e1, List.map_append]
      have hd3 : upd H2 t (.tup [.str ru.1, .bl true]) D = some (.lst (ts.map V.ref)) := by rw [upd_ne (ne_of_none hd ht2)]; exact hd
      exact Paired.snoc (Paired.mapP hp fun t' h' z => sqt_upd hd3 ((same_laid ht2 _).tup z)) (sqt_upd hd3 (SqT.of upd_same))
    · intro b o hb
      rw [upd_ne (fun z => by rw [z, hD] at hb; cases hb)]
      exact same_laid ht2 _ _ _ (sm b o hb)
  · obtain ⟨ts, rfl, ht, hp, _, sm, hd⟩ := h
    rw [List.length_map, ll, List.take_length] at hp
    exact q ts H2 sm hd hp
def spHeads (K : PySem.W.Frag) : Sp := fun vs H Q _ => ∃ (R : Addr) (rs : List Addr) (rules : List Rule), vs = [.ref R] ∧ SqL K H R (rs.map V.ref) ∧ Rules K H rs rules ∧ rules.length ≤ 1000 ∧
  ∀ D H', H D = none → Same H H' → H' D = some (.lst ((ded [] (rules.map (·.1))).map V.str)) → Q (.ref D) H'
theorem scHeads : FnScope ["rules"] ["rules"] (defScope sHeads) := ⟨rfl, rfl, rfl, by decide +kernel, rfl, by decide +kernel, by decide +kernel⟩
theorem ok_heads (F : Fun K "heads_of" "heads_of" sHeads f fd) (T : Txt mg) : FnOk P w K mg base CX0 1 f fd ["rules"] (spHeads K) := by
  refine F.ok scHeads (fun vs H Q E h => ?_) (fun cdv A outer s H vs Q E hr h => ?_)
  · obtain ⟨R, rs, rules, rfl, _⟩ := h; rfl
  · obtain ⟨R, rs, rules, rfl, hR, hrl, hlen, q⟩ := h
    refine ⟨_, pss_one (ps_ret (pe_callTy (call_listD rfl) rfl T.lst boot_lst (pa_cons (pe_callTy (call_dictP rfl) rfl T.dct boot_dct (pa_cons
      (pe_compG ["head", "parts"] [] rfl (pi_list (pv 0)) (caps_of rfl rfl) (by decide +kernel) rfl (by decide +kernel)
        (fun _ _ _ _ _ => pg_tupK (n := 2) K rfl (pgs_cons (pg_name (i := 0) (show (["head", "parts"] : List Str).Nodup by decide +kernel) rfl (Or.inl rfl)) (pgs_cons (pg_name (i := 1) (show (["head", "parts"] : List Str).Nodup by decide +kernel) rfl (Or.inl rfl)) pgs_nil))) (fun _ _ _ _ _ => pif_nil)
        (fun _ _ _ _ _ => pe_tup (pa_cons (pv 0) (pa_cons pe_bl pa_nil)))) pa_nil)) pa_nil))), ?_⟩
    refine ⟨_, rfl, R, rfl, ⟨_, hR⟩, fun D hD => comp_pairs hR hrl hlen hD fun ts H2 sm hd hp => ?_⟩
    have kp : Paired (fun t (kv : Key × V) => SqT K H2 t [kV kv.1, kv.2]) ts ((rules.map (·.1)).map fun h => ((Sum.inr h : Key), V.bl true)) := paired_mapR hp fun _ _ z => z
    refine ⟨D, ts, _, rfl, hd, kp, fun d hd2 => ?_⟩
    refine ⟨d, _, rfl, upd_same, fun D2 hD2 => ?_⟩
    rw [keys_str (keys_ded (rules.map (·.1)) [] [] rfl)]
    have nd : D2 ≠ d := fun z => by rw [z, upd_same] at hD2; cases hD2
    exact q D2 _ (sm.free (by rw [upd_ne nd] at hD2; exact hD2)) (sm.trans ((same_laid hd2 _).trans (same_laid hD2 _))) upd_same
end
end K11
namespace K11
open PySem L2 M11
section
variable {P : Program} {w : World} {K : PySem.W.Frag} {mg : Str → Option Value} {base : Heap} {f : Addr} {fd : FuncData}
def hd (rules : List Rule) : List Str := ded [] (rules.map (·.1))
end
end K11
namespace M11
open PySem
abbrev Pr := Str × Str
def stepG (c : List Str → Rule → Bool) (e : List Str) (ru : Rule) : List Str := if (c e ru && !decide (ru.1 ∈ e)) = true then e ++ [ru.1] else e
def roundG (c : List Str → Rule → Bool) (rules : List Rule) (e : List Str) : List Str := rules.foldl (stepG c) e
def passes {α : Type} (f : α → α) : Nat → α → α
  | 0, a => a
  | n + 1, a => f (passes f n a)
theorem stepG_pre (c : List Str → Rule → Bool) (e : List Str) (ru : Rule) : stepG c e ru = e ∨ e.length < (stepG c e ru).length := by
  unfold stepG
  split
  · right; simp
  · left; rfl
theorem foldG_len (c : List Str → Rule → Bool) : ∀ (rs : List Rule) (e : List Str), e.length ≤ (rs.foldl (stepG c) e).length
  | [], _ => Nat.le_refl _
  | ru :: rs, e => by
    have h1 := foldG_len c rs (stepG c e ru)
    show _ ≤ (rs.foldl (stepG c) (stepG c e ru)).length
    rcases stepG_pre c e ru with h | h
    · rw [h] at h1 ⊢; exact h1
    · omega
theorem foldG_fix (c : List Str → Rule → Bool) : ∀ (rs : List Rule) (e : List Str), (rs.foldl (stepG c) e = e ∧ ∀ ru ∈ rs, stepG c e ru = e) ∨ e.length < (rs.foldl (stepG c) e).length
  | [], _ => .inl ⟨rfl, fun _ h => by cases h⟩
  | ru :: rs, e => by
    show (rs.foldl (stepG c) (stepG c e ru) = e ∧ _) ∨ _ < (rs.foldl (stepG c) (stepG c e ru)).length
    rcases stepG_pre c e ru with h | h
    · rw [h]
      rcases foldG_fix c rs e with ⟨a, b⟩ | d
      · refine .inl ⟨a, fun r hr => ?_⟩
        rcases List.mem_cons.mp hr with rfl | hr
        · exact h
        · exact b r hr
      · exact .inr d
    · right
      have := foldG_len c rs (stepG c e ru)
      omega
theorem nodup_len {α : Type} [DecidableEq α] : ∀ (l m : List α), l.Nodup → (∀ z ∈ l, z ∈ m) → l.length ≤ m.length
  | [], m, _, _ => Nat.zero_le _
  | x :: r, m, hn, hs => by
    have hx := hs x List.mem_cons_self
    have hn2 := List.nodup_cons.mp hn
    have := nodup_len r (m.erase x) hn2.2 fun z hz => (List.mem_erase_of_ne (fun e => hn2.1 (by rw [← e]; exact hz))).mpr (hs z (List.mem_cons_of_mem _ hz))
    rw [List.length_erase_of_mem hx] at this
    have : 0 < m.length := List.length_pos_of_mem hx
    rw [List.length_cons]
    omega
theorem nodup_snoc {α : Type} {l : List α} {x : α} (h : l.Nodup) (n : x ∉ l) : (l ++ [x]).Nodup := List.nodup_append.mpr ⟨h, by simp, fun a ha b hb z => n (by rw [← List.mem_singleton.mp hb, ← z]; exact ha)⟩
theorem stepG_inv {c : List Str → Rule → Bool} {I : List Str → Prop} {rules : List Rule} (h : ∀ e ru, I e → ru ∈ rules → c e ru = true → ru.1 ∉ e → I (e ++ [ru.1])) : ∀ (rs : List Rule) (e : List Str), (∀ ru ∈ rs, ru ∈ rules) → I e → I (rs.foldl (stepG c) e)
  | [], _, _, i => i
  | ru :: rs, e, hs, i => by
    refine stepG_inv h rs _ (fun r hr => hs r (List.mem_cons_of_mem _ hr)) ?_
    unfold stepG
    split
    · rename_i d
      obtain ⟨d1, d2⟩ := Bool.and_eq_true_iff.mp d
      exact h e ru i (hs ru List.mem_cons_self) d1 (by simpa using d2)
    · exact i
theorem passG_inv {c : List Str → Rule → Bool} {I : List Str → Prop} {rules : List Rule} (h : ∀ e ru, I e → ru ∈ rules → c e ru = true → ru.1 ∉ e → I (e ++ [ru.1])) (i0 : I []) : ∀ n, I (passes (roundG c rules) n [])
  | 0 => i0
  | n + 1 => stepG_inv h rules _ (fun _ h => h) (passG_inv h i0 n)
theorem fixG (c : List Str → Rule → Bool) (rules : List Rule) : ∀ ru ∈ rules, stepG c (passes (roundG c rules) rules.length []) ru = passes (roundG c rules) rules.length [] := by
  have key : ∀ n, (passes (roundG c rules) (n + 1) [] = passes (roundG c rules) n [] ∧ ∀ ru ∈ rules, stepG c (passes (roundG c rules) n []) ru = passes (roundG c rules) n []) ∨ n < (passes (roundG c rules) (n + 1) []).length := by
    intro n
    induction n with
    | zero =>
      rcases foldG_fix c rules [] with h | h
      · exact .inl h
      · exact .inr h
    | succ n ih =>
      rcases ih with ⟨a, b⟩ | d
      · left
        rw [show passes (roundG c rules) (n + 1 + 1) [] = roundG c rules (passes (roundG c rules) (n + 1) []) from rfl, a]
        exact ⟨a, b⟩
      · rcases foldG_fix c rules (passes (roundG c rules) (n + 1) []) with h | h
        · exact .inl h
        · right
          have h2 : (passes (roundG c rules) (n + 1) []).length < (passes (roundG c rules) (n + 1 + 1) []).length := h
          omega
  rcases key rules.length with ⟨_, b⟩ | d
  · exact b
  · have nd := passG_inv (c := c) (rules := rules) (I := fun e => e.Nodup ∧ ∀ x ∈ e, x ∈ rules.map (fun r : Rule => r.1)) (fun e ru i hr _ n => ⟨nodup_snoc i.1 n, fun x hx => (List.mem_append.mp hx).elim (i.2 x) fun y => by rw [List.mem_singleton.mp y]; exact List.mem_map.mpr ⟨ru, hr, rfl⟩⟩) ⟨List.nodup_nil, fun _ h => by cases h⟩ (rules.length + 1)
    have := nodup_len _ _ nd.1 nd.2
    rw [List.length_map] at this
    omega
theorem restG {c : List Str → Rule → Bool} {e : List Str} {ru : Rule} (h : stepG c e ru = e) (d : c e ru = true) : ru.1 ∈ e := by
  by_cases m : ru.1 ∈ e
  · exact m
  · unfold stepG at h
    rw [if_pos (Bool.and_eq_true_iff.mpr ⟨d, by simpa using m⟩)] at h
    have := congrArg List.length h
    simp at this
def stepE (words : Bool) (heads e : List Str) (ru : Rule) : List Str := if ((ru.2.all fun p => decide (p ∈ e) || (words && !decide (p ∈ heads))) && !decide (ru.1 ∈ e)) = true then e ++ [ru.1] else e
def passE (words : Bool) (heads e : List Str) (rules : List Rule) : List Str := rules.foldl (stepE words heads) e
def endedM (words : Bool) (rules : List Rule) : List Str := passes (fun e => passE words (rules.map (·.1)) e rules) rules.length []
def cE (e : List Str) (ru : Rule) : Bool := ru.2.all fun p => decide (p ∈ e)
theorem stepE_G (heads : List Str) : stepE false heads = stepG cE := by
  funext e ru
  unfold stepE stepG cE
  simp only [Bool.false_and, Bool.or_false]
theorem ended_G (rules : List Rule) : endedM false rules = passes (roundG cE rules) rules.length [] := by
  unfold endedM passE roundG
  rw [stepE_G]
inductive Em (rules : List Rule) : Str → Prop
  | mk {h : Str} {parts : List Str} : (h, parts) ∈ rules → (∀ p ∈ parts, Em rules p) → Em rules h
def Cl (rules : List Rule) (ns : List Str) : Prop := ∀ ru ∈ rules, (∀ p ∈ ru.2, p ∈ ns) → ru.1 ∈ ns
theorem Em.in_ {rules : List Rule} {ns : List Str} (h : Cl rules ns) {x : Str} (e : Em rules x) : x ∈ ns := by
  induction e with
  | mk hr _ ih => exact h _ hr ih
theorem passE_em {rules rs : List Rule} (hs : ∀ ru ∈ rs, ru ∈ rules) (n : Nat) : (passes (roundG cE rs) n []).Nodup ∧ ∀ x ∈ passes (roundG cE rs) n [], Em rules x :=
  passG_inv (c := cE) (rules := rs) (I := fun e => e.Nodup ∧ ∀ x ∈ e, Em rules x) (fun e ru i hr d n => ⟨nodup_snoc i.1 n, fun x hx => (List.mem_append.mp hx).elim (i.2 x) fun y => by
    rw [List.mem_singleton.mp y]
    exact .mk (hs ru hr) fun p hp => i.2 p (of_decide_eq_true (List.all_eq_true.mp d p hp))⟩) ⟨List.nodup_nil, fun _ h => by cases h⟩ n
theorem passE_cl {rules rs : List Rule} (hs : ∀ ru ∈ rules, ru ∈ rs) : Cl rules (passes (roundG cE rs) rs.length []) := fun ru hr h => restG (fixG cE rs ru (hs ru hr)) (List.all_eq_true.mpr fun p hp => decide_eq_true (h p hp))
theorem ended_em (rules : List Rule) (x : Str) : x ∈ endedM false rules ↔ Em rules x := by
  rw [ended_G]
  exact ⟨(passE_em (fun _ h => h) _).2 x, Em.in_ (passE_cl fun _ h => h)⟩
theorem ended_nd (rules : List Rule) : (endedM false rules).Nodup := by
  rw [ended_G]
  exact (passE_em (fun _ h => h) _).1
def hk (rules : List Rule) (k : Nat) : Str := ((rules[k]?).map (·.1)).getD ""
def stE (rules : List Rule) : List Nat → List Str → Bool
  | [], _ => true
  | k :: r, a => match rules[k]? with
    | none => false
    | some ru => !decide (ru.1 ∈ a) && (cE a ru && stE rules r (a ++ [ru.1]))
theorem hk_of {rules : List Rule} {k : Nat} {ru : Rule} (e : rules[k]? = some ru) : hk rules k = ru.1 := by unfold hk; rw [e]; rfl
theorem stE_cons {rules : List Rule} {k : Nat} {r : List Nat} {a : List Str} (h : stE rules (k :: r) a = true) : ∃ ru, rules[k]? = some ru ∧ ru.1 ∉ a ∧ cE a ru = true ∧ stE rules r (a ++ [ru.1]) = true := by
  unfold stE at h
  cases e : rules[k]? with
  | none => rw [e] at h; cases h
  | some ru =>
    rw [e] at h
    have h : (!decide (ru.1 ∈ a) && (cE a ru && stE rules r (a ++ [ru.1]))) = true := h
    obtain ⟨h1, h2⟩ := Bool.and_eq_true_iff.mp h
    obtain ⟨h3, h4⟩ := Bool.and_eq_true_iff.mp h2
    exact ⟨ru, rfl, by simpa using h1, h3, h4⟩
theorem stE_ok {rules : List Rule} : ∀ (ks : List Nat) (a : List Str), stE rules ks a = true → a.Nodup → (∀ x ∈ a, Em rules x) → (a ++ ks.map (hk rules)).Nodup ∧ ∀ x ∈ a ++ ks.map (hk rules), Em rules x
  | [], a, _, nd, em => by simpa using ⟨nd, em⟩
  | k :: r, a, h, nd, em => by
    obtain ⟨ru, e, n, d, h2⟩ := stE_cons h
    have e2 : a ++ (k :: r).map (hk rules) = (a ++ [ru.1]) ++ r.map (hk rules) := by
      rw [List.map_cons, hk_of e, List.append_assoc]
      rfl
    rw [e2]
    refine stE_ok r _ h2 (nodup_snoc nd n) fun x hx => ?_
    rcases List.mem_append.mp hx with y | y
    · exact em x y
    · rw [List.mem_singleton.mp y]
      exact .mk (List.mem_of_getElem? e) fun p hp => em p (of_decide_eq_true (List.all_eq_true.mp d p hp))
theorem stE_snoc {rules : List Rule} {k : Nat} {ru : Rule} (e : rules[k]? = some ru) : ∀ (ks : List Nat) (a : List Str), stE rules ks a = true → ru.1 ∉ a ++ ks.map (hk rules) → cE (a ++ ks.map (hk rules)) ru = true → stE rules (ks ++ [k]) a = true
  | [], a, _, n, d => by
    rw [List.map_nil, List.append_nil] at n d
    show (match rules[k]? with | none => false | some ru => !decide (ru.1 ∈ a) && (cE a ru && stE rules [] (a ++ [ru.1]))) = true
    rw [e]
    show (!decide (ru.1 ∈ a) && (cE a ru && true)) = true
    rw [decide_eq_false n, d]
    rfl
  | j :: r, a, h, n, d => by
    obtain ⟨rj, ej, nj, dj, h2⟩ := stE_cons h
    have e2 : a ++ (j :: r).map (hk rules) = (a ++ [rj.1]) ++ r.map (hk rules) := by
      rw [List.map_cons, hk_of ej, List.append_assoc]
      rfl
    rw [e2] at n d
    show (match rules[j]? with | none => false | some ru => !decide (ru.1 ∈ a) && (cE a ru && stE rules (r ++ [k]) (a ++ [ru.1]))) = true
    rw [ej]
    show (!decide (rj.1 ∈ a) && (cE a rj && stE rules (r ++ [k]) (a ++ [rj.1]))) = true
    rw [decide_eq_false nj, dj, stE_snoc e r _ h2 n d]
    rfl
theorem told_all {rules : List Rule} {ks : List Nat} (h : stE rules ks [] = true) (c : Cl rules (ks.map (hk rules))) : (ks.map (hk rules)).Nodup ∧ ∀ x, x ∈ ks.map (hk rules) ↔ x ∈ endedM false rules := by
  have := stE_ok ks [] h List.nodup_nil (fun _ h => by cases h)
  rw [List.nil_append] at this
  exact ⟨this.1, fun x => ⟨fun y => (ended_em rules x).mpr (this.2 x y), fun y => Em.in_ c ((ended_em rules x).mp y)⟩⟩
end M11
namespace M11
open PySem
abbrev hm (rules : List Rule) : List Str := rules.map (·.1)
def Op (ns : List Str) (ru : Rule) (pl : Nat) : Prop := ∀ x ∈ ru.2.take pl, x ∈ ns
inductive Beg (rules : List Rule) (ns : List Str) (w : Str) : Str → Prop
  | word {ru : Rule} {pl : Nat} : ru ∈ rules → Op ns ru pl → ru.2[pl]? = some w → w ∉ hm rules → Beg rules ns w ru.1
  | name {ru : Rule} {pl : Nat} {p : Str} : ru ∈ rules → Op ns ru pl → ru.2[pl]? = some p → Beg rules ns w p → Beg rules ns w ru.1
theorem Beg.head {rules : List Rule} {ns : List Str} {w h : Str} (b : Beg rules ns w h) : h ∈ hm rules := by
  cases b with
  | word hr _ _ _ => exact List.mem_map.mpr ⟨_, hr, rfl⟩
  | name hr _ _ _ => exact List.mem_map.mpr ⟨_, hr, rfl⟩
theorem Beg.text {rules : List Rule} {ns : List Str} {w h : Str} (b : Beg rules ns w h) : w ∉ hm rules ∧ ∃ ru ∈ rules, w ∈ ru.2 := by
  induction b with
  | word hr _ e n => exact ⟨n, _, hr, List.mem_of_getElem? e⟩
  | name _ _ _ _ ih => exact ih
theorem Beg.congr {rules : List Rule} {ns ms : List Str} {w h : Str} (c : ∀ x, x ∈ ns → x ∈ ms) (b : Beg rules ns w h) : Beg rules ms w h := by
  induction b with
  | word hr o e n => exact .word hr (fun x hx => c x (o x hx)) e n
  | name hr o e _ ih => exact .name hr (fun x hx => c x (o x hx)) e ih
def ClB (rules : List Rule) (ns : List Str) (P : List Pr) : Prop := ∀ ru ∈ rules, ∀ pl p, ru.2[pl]? = some p → Op ns ru pl → (p ∉ hm rules → (ru.1, p) ∈ P) ∧ (p ∈ hm rules → ∀ w, (p, w) ∈ P → (ru.1, w) ∈ P)
theorem Beg.in_ {rules : List Rule} {ns : List Str} {P : List Pr} (c : ClB rules ns P) {w h : Str} (b : Beg rules ns w h) : (h, w) ∈ P := by
  induction b with
  | word hr o e n => exact (c _ hr _ _ e o).1 n
  | name hr o e b ih => exact (c _ hr _ _ e o).2 b.head _ ih
theorem ClB.of {rules : List Rule} {ns : List Str} {P : List Pr} (h : ∀ a w, (a, w) ∈ P ↔ Beg rules ns w a) : ClB rules ns P := fun ru hr pl p e o => ⟨fun n => (h _ _).mpr (.word hr o e n), fun _ w hw => (h _ _).mpr (.name hr o e ((h _ _).mp hw))⟩
def Did (rules : List Rule) (ns : List Str) (ru : Rule) (P P' : List Pr) : Prop := ∀ pl p, ru.2[pl]? = some p → Op ns ru pl → (p ∉ hm rules → (ru.1, p) ∈ P') ∧ (p ∈ hm rules → ∀ w, (p, w) ∈ P → (ru.1, w) ∈ P')
theorem Did.mono {rules : List Rule} {ns : List Str} {ru : Rule} {P0 P P' P2 : List Pr} (d : Did rules ns ru P P') (h1 : ∀ x ∈ P0, x ∈ P) (h2 : ∀ x ∈ P', x ∈ P2) : Did rules ns ru P0 P2 := fun pl p e o => ⟨fun n => h2 _ ((d pl p e o).1 n), fun m w hw => h2 _ ((d pl p e o).2 m w (h1 _ hw))⟩
def cW (hs ns : List Str) (w : Str) (e : List Str) (ru : Rule) : Bool := (List.range ru.2.length).any fun pl => (ru.2.take pl).all (fun x => decide (x ∈ ns)) && ((decide (ru.2.getD pl "" = w) && !decide (w ∈ hs)) || decide (ru.2.getD pl "" ∈ e))
theorem cW_iff {hs ns : List Str} {w : Str} {e : List Str} {ru : Rule} : cW hs ns w e ru = true ↔ ∃ pl p, ru.2[pl]? = some p ∧ Op ns ru pl ∧ ((p = w ∧ w ∉ hs) ∨ p ∈ e) := by
  unfold cW
  rw [List.any_eq_true]
  constructor
  · rintro ⟨pl, h1, h2⟩
    have l := List.mem_range.mp h1
    obtain ⟨a, b⟩ := Bool.and_eq_true_iff.mp h2
    have eg : ru.2.getD pl "" = ru.2[pl] := by rw [List.getD_eq_getElem?_getD, List.getElem?_eq_getElem l]; rfl
    rw [eg] at b
    refine ⟨pl, ru.2[pl], List.getElem?_eq_getElem l, fun x hx => of_decide_eq_true (List.all_eq_true.mp a x hx), ?_⟩
    rcases Bool.or_eq_true_iff.mp b with c | c
    · obtain ⟨c1, c2⟩ := Bool.and_eq_true_iff.mp c
      exact .inl ⟨of_decide_eq_true c1, by simpa using c2⟩
    · exact .inr (of_decide_eq_true c)
  · rintro ⟨pl, p, e1, o, h⟩
    have l := (List.getElem?_eq_some_iff.mp e1).1
    have eg : ru.2.getD pl "" = p := by rw [List.getD_eq_getElem?_getD, e1]; rfl
    refine ⟨pl, List.mem_range.mpr l, Bool.and_eq_true_iff.mpr ⟨List.all_eq_true.mpr fun x hx => decide_eq_true (o x hx), ?_⟩⟩
    rw [eg]
    rcases h with ⟨a, b⟩ | a
    · rw [decide_eq_true a, decide_eq_false b]; rfl
    · rw [decide_eq_true a, Bool.or_true]
def Ew (rules rs : List Rule) (ns : List Str) (w : Str) (n : Nat) : List Str := passes (roundG (cW (hm rules) ns w) rs) n []
theorem beg_Ew {rules rs : List Rule} {ns : List Str} (hs : ∀ ru ∈ rules, ru ∈ rs) {w h : Str} (b : Beg rules ns w h) : h ∈ Ew rules rs ns w rs.length := by
  induction b with
  | word hr o e n => exact restG (fixG _ rs _ (hs _ hr)) (cW_iff.mpr ⟨_, _, e, o, .inl ⟨rfl, n⟩⟩)
  | name hr o e _ ih => exact restG (fixG _ rs _ (hs _ hr)) (cW_iff.mpr ⟨_, _, e, o, .inr ih⟩)
theorem did_step {rules : List Rule} {ns : List Str} {ru : Rule} {P P' : List Pr} {w : Str} {e : List Str} (d : Did rules ns ru P P') (sub : ∀ x ∈ P, x ∈ P') (em : ∀ x ∈ e, x ∈ hm rules) (hr : ru ∈ rules) (h : ∀ x ∈ e, (x, w) ∈ P) : (∀ x ∈ stepG (cW (hm rules) ns w) e ru, (x, w) ∈ P') ∧ ∀ x ∈ stepG (cW (hm rules) ns w) e ru, x ∈ hm rules := by
  unfold stepG
  split
  · rename_i c
    obtain ⟨c1, c2⟩ := Bool.and_eq_true_iff.mp c
    refine ⟨fun x hx => ?_, fun x hx => ?_⟩
    · rcases List.mem_append.mp hx with y | y
      · exact sub _ (h x y)
      · rw [List.mem_singleton.mp y]
        obtain ⟨pl, p, e1, o, z⟩ := cW_iff.mp c1
        rcases z with ⟨rfl, n⟩ | z
        · exact (d pl p e1 o).1 n
        · exact (d pl p e1 o).2 (em p z) w (h p z)
    · rcases List.mem_append.mp hx with y | y
      · exact em x y
      · rw [List.mem_singleton.mp y]; exact List.mem_map.mpr ⟨ru, hr, rfl⟩
  · exact ⟨fun x hx => sub _ (h x hx), em⟩
abbrev Tb := Nat × Str × Nat
def tbP (rules : List Rule) (t : Tb) : Pr := (hk rules t.1, t.2.1)
def okB (rules : List Rule) (ns : List Str) (a : List Pr) (ru : Rule) (w : Str) (pl : Nat) : Bool := !decide ((ru.1, w) ∈ a) && (decide (pl < ru.2.length) && ((ru.2.take pl).all (fun x => decide (x ∈ ns)) && ((decide (ru.2.getD pl "" = w) && !decide (w ∈ hm rules)) || decide ((ru.2.getD pl "", w) ∈ a))))
def stB (rules : List Rule) (ns : List Str) : List Tb → List Pr → Bool
  | [], _ => true
  | t :: r, a => match rules[t.1]? with
    | none => false
    | some ru => okB rules ns a ru t.2.1 t.2.2 && stB rules ns r (a ++ [(ru.1, t.2.1)])
theorem okB_iff {rules : List Rule} {ns : List Str} {a : List Pr} {ru : Rule} {w : Str} {pl : Nat} : okB rules ns a ru w pl = true ↔ (ru.1, w) ∉ a ∧ ∃ p, ru.2[pl]? = some p ∧ Op ns ru pl ∧ ((p = w ∧ w ∉ hm rules) ∨ (p, w) ∈ a) := by
  unfold okB
  constructor
  · intro h
    obtain ⟨h1, h2⟩ := Bool.and_eq_true_iff.mp h
    obtain ⟨h3, h4⟩ := Bool.and_eq_true_iff.mp h2
    obtain ⟨h5, h6⟩ := Bool.and_eq_true_iff.mp h4
    have l := of_decide_eq_true h3
    have eg : ru.2.getD pl "" = ru.2[pl] := by rw [List.getD_eq_getElem?_getD, List.getElem?_eq_getElem l]; rfl
    rw [eg] at h6
    refine ⟨by simpa using h1, ru.2[pl], List.getElem?_eq_getElem l, fun x hx => of_decide_eq_true (List.all_eq_true.mp h5 x hx), ?_⟩
    rcases Bool.or_eq_true_iff.mp h6 with c | c
    · obtain ⟨c1, c2⟩ := Bool.and_eq_true_iff.mp c
      exact .inl ⟨of_decide_eq_true c1, by simpa using c2⟩
    · exact .inr (of_decide_eq_true c)
  · rintro ⟨n, p, e1, o, h⟩
    have l := (List.getElem?_eq_some_iff.mp e1).1
    have eg : ru.2.getD pl "" = p := by rw [List.getD_eq_getElem?_getD, e1]; rfl
    rw [decide_eq_false n, decide_eq_true l, eg, List.all_eq_true.mpr fun x hx => decide_eq_true (o x hx)]
    rcases h with ⟨a, b⟩ | a
    · rw [decide_eq_true a, decide_eq_false b]; rfl
    · rw [decide_eq_true a, Bool.or_true]; rfl
theorem stB_cons {rules : List Rule} {ns : List Str} {t : Tb} {r : List Tb} {a : List Pr} (h : stB rules ns (t :: r) a = true) : ∃ ru, rules[t.1]? = some ru ∧ okB rules ns a ru t.2.1 t.2.2 = true ∧ stB rules ns r (a ++ [(ru.1, t.2.1)]) = true := by
  unfold stB at h
  cases e : rules[t.1]? with
  | none => rw [e] at h; cases h
  | some ru =>
    rw [e] at h
    obtain ⟨h1, h2⟩ := Bool.and_eq_true_iff.mp (show (okB rules ns a ru t.2.1 t.2.2 && stB rules ns r (a ++ [(ru.1, t.2.1)])) = true from h)
    exact ⟨ru, rfl, h1, h2⟩
theorem stB_ok {rules : List Rule} {ns : List Str} : ∀ (ts : List Tb) (a : List Pr), stB rules ns ts a = true → a.Nodup → (∀ x ∈ a, Beg rules ns x.2 x.1) → (a ++ ts.map (tbP rules)).Nodup ∧ ∀ x ∈ a ++ ts.map (tbP rules), Beg rules ns x.2 x.1
  | [], a, _, nd, em => by simpa using ⟨nd, fun x y h => em (x, y) h⟩
  | t :: r, a, h, nd, em => by
    obtain ⟨ru, e, ok, h2⟩ := stB_cons h
    obtain ⟨n, p, e1, o, z⟩ := okB_iff.mp ok
    have e2 : a ++ (t :: r).map (tbP rules) = (a ++ [(ru.1, t.2.1)]) ++ r.map (tbP rules) := by
      rw [List.map_cons, List.append_assoc]
      unfold tbP
      rw [hk_of e]
      rfl
    rw [e2]
    refine stB_ok r _ h2 (nodup_snoc nd n) fun x hx => ?_
    rcases List.mem_append.mp hx with y | y
    · exact em x y
    · rw [List.mem_singleton.mp y]
      rcases z with ⟨rfl, nw⟩ | z
      · exact .word (List.mem_of_getElem? e) o e1 nw
      · exact .name (List.mem_of_getElem? e) o e1 (em _ z)
theorem stB_snoc {rules : List Rule} {ns : List Str} {t : Tb} {ru : Rule} (e : rules[t.1]? = some ru) : ∀ (ts : List Tb) (a : List Pr), stB rules ns ts a = true → okB rules ns (a ++ ts.map (tbP rules)) ru t.2.1 t.2.2 = true → stB rules ns (ts ++ [t]) a = true
  | [], a, _, d => by
    rw [List.map_nil, List.append_nil] at d
    show (match rules[t.1]? with | none => false | some ru => okB rules ns a ru t.2.1 t.2.2 && stB rules ns [] (a ++ [(ru.1, t.2.1)])) = true
    rw [e]
    show (okB rules ns a ru t.2.1 t.2.2 && true) = true
    rw [d]
    rfl
  | j :: r, a, h, d => by
    obtain ⟨rj, ej, dj, h2⟩ := stB_cons h
    have e2 : a ++ (j :: r).map (tbP rules) = (a ++ [(rj.1, j.2.1)]) ++ r.map (tbP rules) := by
      rw [List.map_cons, List.append_assoc]
      unfold tbP
      rw [hk_of ej]
      rfl
    rw [e2] at d
    show (match rules[j.1]? with | none => false | some ru => okB rules ns a ru j.2.1 j.2.2 && stB rules ns (r ++ [t]) (a ++ [(ru.1, j.2.1)])) = true
    rw [ej]
    show (okB rules ns a rj j.2.1 j.2.2 && stB rules ns (r ++ [t]) (a ++ [(rj.1, j.2.1)])) = true
    rw [dj, stB_snoc e r _ h2 d]
    rfl
theorem toldB_all {rules : List Rule} {ns : List Str} {ts : List Tb} (h : stB rules ns ts [] = true) (c : ClB rules ns (ts.map (tbP rules))) : (ts.map (tbP rules)).Nodup ∧ ∀ x, x ∈ ts.map (tbP rules) ↔ Beg rules ns x.2 x.1 := by
  have := stB_ok ts [] h List.nodup_nil (fun _ h => by cases h)
  rw [List.nil_append] at this
  exact ⟨this.1, fun x => ⟨this.2 x, fun y => Beg.in_ c y⟩⟩
theorem pairs_few {rules : List Rule} {ns ts : List Str} {P : List Pr} (nd : P.Nodup) (b : ∀ x ∈ P, Beg rules ns x.2 x.1) (ht : ∀ ru ∈ rules, ∀ x ∈ ru.2, x ∈ ts) : P.length ≤ rules.length * ts.length := by
  have h := nodup_len P ((hm rules).flatMap fun a => ts.map fun w => (a, w)) nd fun x hx => by
    have bx := b x hx
    obtain ⟨_, ru, hr, hw⟩ := bx.text
    exact List.mem_flatMap.mpr ⟨x.1, bx.head, List.mem_map.mpr ⟨x.2, ht ru hr _ hw, rfl⟩⟩
  have l : ∀ l : List Str, (l.flatMap fun a => ts.map fun w => (a, w)).length = l.length * ts.length := fun l => by
    induction l with
    | nil => simp
    | cons a r ih => rw [List.flatMap_cons, List.length_append, ih, List.length_map, List.length_cons, Nat.succ_mul, Nat.add_comm]
  rw [l, List.length_map] at h
  exact h
end M11
namespace L2
open PySem
theorem op_notIn_seqK {X : Cx} (K : PySem.W.Frag) (hK : X.K = K := by rfl) : OpR X (compareOp .NotIn) (rIn K true) := by
  subst hK
  exact op_notIn_seq
theorem inV_str (h : Str) (zs : List Str) : inV (.str h) (zs.map V.str) = decide (h ∈ zs) := by
  have : inV (.str h) (zs.map V.str) = true ↔ h ∈ zs := by
    unfold inV
    rw [List.any_eq_true]
    constructor
    · rintro ⟨x, h1, h2⟩
      obtain ⟨z, hz, rfl⟩ := List.mem_map.mp h1
      have : z = h := by simpa [eqV] using h2
      rw [← this]; exact hz
    · intro hm
      exact ⟨.str h, List.mem_map.mpr ⟨h, hm, rfl⟩, by simp [eqV]⟩
  by_cases c : h ∈ zs
  · rw [decide_eq_true c]; exact this.mpr c
  · rw [decide_eq_false c]
    cases e : inV (.str h) (zs.map V.str) with
    | false => rfl
    | true => exact absurd (this.mp e) c
theorem flat_strs (zs : List Str) : (zs.map V.str).all flatV = true := by
  rw [List.all_eq_true]
  intro x hx
  obtain ⟨z, _, rfl⟩ := List.mem_map.mp hx
  rfl
section
variable {K : PySem.W.Frag} {H : Hp} {p D : Addr} {zs : List Str} {σ : St} {x : Str} {js : List (Nat × Str)} {te : TE} {Qp : Hp → Prop}
theorem comp_boolsT (rest : St) (pr : Str → Bool) (hc : capS [x] js σ = none :: rest) (hp : SqT K H p (zs.map V.str)) (hz : zs.length ≤ 1000) (hD : H D = none)
    (hte : ∀ z ∈ zs, ∀ (H' : Hp) (Qy : VK), Same H H' → Qy (.bl (pr z)) H' → te (some (.str z) :: rest) H' Qy)
    (q : ∀ H2, Same H H2 → H2 D = some (.lst ((zs.map pr).map V.bl)) → Qp H2) :
    ∃ W : Nat → Nat → List V → St → Hp → Prop, (∃ m, W 0 m [] (capS [x] js σ) (upd H D (.lst []))) ∧
  ∀ i m ys σ' H, W i m ys σ' H → ((Itt K p).stop i H ∧ Qp H) ∨ ((Itt K p).go i H ∧ ∃ m', m' < m ∧ ∀ x H', (Itt K p).yld i H x H' → gName 0 x σ' H' fun σ2 H2 => tTrue σ2 H2 fun b H3 =>
    if b = true then te σ2 H3 fun y H4 => H4 D = some (.lst ys) ∧ ys.length < sizeLine ∧ W (i + 1) m' (ys ++ [y]) σ2 (upd H4 D (.lst (ys ++ [y]))) else W (i + 1) m' ys σ2 H3) := by
  refine compG_tup (xs := zs.map V.str) (fun i ys σ2 H2 => ys = ((zs.take i).map pr).map V.bl ∧ (∃ y0, σ2 = y0 :: rest) ∧ Same H H2 ∧ H2 D = some (.lst ys))
    ⟨rfl, ⟨none, hc⟩, same_laid hD _, upd_same⟩ (fun i ys σ2 H2 _ h => ?_) (fun i v ys σ2 H2 ex h => ?_) (fun ys σ2 H2 h => ?_)
  · obtain ⟨_, _, sm, _⟩ := h
    exact sm.tup hp
  · obtain ⟨rfl, ⟨y0, rfl⟩, sm, hd⟩ := h
    rw [List.getElem?_map] at ex
    obtain ⟨z, ez, rfl⟩ := Option.map_eq_some_iff.mp ex
    have li := (List.getElem?_eq_some_iff.mp ez).1
    refine goN (goT (hte z (List.mem_of_getElem? ez) _ _ sm ⟨hd, fits' (by rw [List.length_map, List.length_map, List.length_take]; omega), ?_, ⟨_, rfl⟩, fun b o hb => ?_, upd_same⟩))
    · rw [List.take_add_one, ez, List.map_append, List.map_append]; rfl
    · rw [upd_ne (fun z => by rw [z, hD] at hb; cases hb)]
      exact sm b o hb
  · obtain ⟨rfl, _, sm, hd⟩ := h
    rw [List.length_map, List.take_length] at hd
    exact q H2 sm hd
end
theorem all_map (zs : List Str) (pr : Str → Bool) : (zs.map pr).all id = zs.all pr := by
  rw [List.all_map]; rfl
end L2
namespace L2
open PySem
theorem comp_isin {K : PySem.W.Frag} {H : Hp} {p D d : Addr} {zs : List Str} {kvs : List (Key × V)} {σ : St} {js : List (Nat × Str)} {Qp : Hp → Prop} (hσ : capS ["part"] js σ = [none, some (.ref d)]) (hp : SqT K H p (zs.map V.str)) (hz : zs.length ≤ 1000)
    (hd : H d = some (.dK kvs)) (hD : H D = none) (q : ∀ H2, Same H H2 → H2 D = some (.lst ((zs.map fun z => (valV kvs (Sum.inr z)).isSome).map V.bl)) → Qp H2) :
    ∃ W : Nat → Nat → List V → St → Hp → Prop, (∃ m, W 0 m [] (capS ["part"] js σ) (upd H D (.lst []))) ∧
  ∀ i m ys σ' H, W i m ys σ' H → ((Itt K p).stop i H ∧ Qp H) ∨ ((Itt K p).go i H ∧ ∃ m', m' < m ∧ ∀ x H', (Itt K p).yld i H x H' → gName 0 x σ' H' fun σ2 H2 => tTrue σ2 H2 fun b H3 =>
    if b = true then tDIn (tVar 0) (tVar 1) σ2 H3 fun y H4 => H4 D = some (.lst ys) ∧ ys.length < sizeLine ∧ W (i + 1) m' (ys ++ [y]) σ2 (upd H4 D (.lst (ys ++ [y]))) else W (i + 1) m' ys σ2 H3) := by
  refine compG_tup (xs := zs.map V.str) (fun i ys σ2 H2 => ys = (((zs.take i).map fun z => (valV kvs (Sum.inr z)).isSome).map V.bl) ∧ (∃ y0, σ2 = [y0, some (.ref d)]) ∧ Same H H2 ∧ H2 D = some (.lst ys))
    ⟨rfl, ⟨none, hσ⟩, same_laid hD _, upd_same⟩ (fun i ys σ2 H2 _ h => h.2.2.1.tup hp) (fun i x ys σ2 H2 ex h => ?_) (fun ys σ2 H2 h => ?_)
  · obtain ⟨rfl, ⟨y0, rfl⟩, sm, hd2⟩ := h
    rw [List.getElem?_map] at ex
    obtain ⟨z, ez, rfl⟩ := Option.map_eq_some_iff.mp ex
    have li := (List.getElem?_eq_some_iff.mp ez).1
    refine goN (goT ?_)
    refine ⟨_, rfl, _, rfl, d, _, rfl, DGet.k (k := Sum.inr z) (sm _ _ hd), hd2, fits' (by rw [List.length_map, List.length_map, List.length_take]; omega), ?_, ⟨_, rfl⟩, ?_, upd_same⟩
    · rw [List.take_add_one, ez, List.map_append, List.map_append]; rfl
    · intro b o hb
      rw [upd_ne (fun z => by rw [z, hD] at hb; cases hb)]
      exact sm b o hb
  · obtain ⟨rfl, _, sm, hd2⟩ := h
    rw [List.length_map, List.take_length] at hd2
    exact q H2 sm hd2
theorem nodup_len {α : Type} [DecidableEq α] : ∀ (l m : List α), l.Nodup → (∀ x ∈ l, x ∈ m) → l.length ≤ m.length
  | [], m, _, _ => Nat.zero_le _
  | a :: l, m, hn, h => by
    have hm := h a List.mem_cons_self
    have := nodup_len l (m.erase a) (List.nodup_cons.mp hn).2 fun x hx => (List.mem_erase_of_ne (fun z : x = a => (List.nodup_cons.mp hn).1 (by rw [← z]; exact hx))).mpr (h x (List.mem_cons_of_mem _ hx))
    rw [List.length_erase_of_mem hm] at this
    have := List.length_pos_of_mem hm
    rw [List.length_cons]; omega
end L2
namespace K11
open PySem L2 M11
section
variable {P : Program} {w : World} {K : PySem.W.Frag} {mg : Str → Option Value} {base : Heap} {f : Addr} {fd : FuncData}
theorem comp_heads {H : Hp} {R D : Addr} {rs : List Addr} {rules : List Rule} {σ : St} {Qp : Hp → Prop} (hR : SqL K H R (rs.map V.ref)) (hrl : Rules K H rs rules) (hlen : rules.length ≤ 1000) (hD : H D = none)
    (q : ∀ H2, Same H H2 → H2 D = some (.lst ((hm rules).map V.str)) → Qp H2) :
    ∃ W : Nat → Nat → List V → St → Hp → Prop, (∃ m, W 0 m [] (capS ["_law_head", "_law_parts"] [] σ) (upd H D (.lst []))) ∧
  ∀ i m ys σ' H, W i m ys σ' H → ((Itl K R).stop i H ∧ Qp H) ∨ ((Itl K R).go i H ∧ ∃ m', m' < m ∧ ∀ x H', (Itl K R).yld i H x H' → gTup K 2 (gCons (gName 0) (gCons (gName 1) gNil)) x σ' H' fun σ2 H2 => tTrue σ2 H2 fun b H3 =>
    if b = true then tVar 0 σ2 H3 fun y H4 => H4 D = some (.lst ys) ∧ ys.length < sizeLine ∧ W (i + 1) m' (ys ++ [y]) σ2 (upd H4 D (.lst (ys ++ [y]))) else W (i + 1) m' ys σ2 H3) := by
  have ll := Paired.length hrl
  refine compG_list (xs := rs.map V.ref) (fun i ys σ2 H2 => ys = ((hm rules).take i).map V.str ∧ (∃ y0 y1, σ2 = [y0, y1]) ∧ Same H H2 ∧ H2 D = some (.lst ys))
    ⟨rfl, ⟨none, none, rfl⟩, same_laid hD _, upd_same⟩ (fun i ys σ2 H2 _ h => ?_) (fun i x ys σ2 H2 ex h => ?_) (fun ys σ2 H2 h => ?_)
  · obtain ⟨_, _, sm, _⟩ := h
    exact sm.seq hR
  · obtain ⟨rfl, ⟨y0, y1, rfl⟩, sm, hd1⟩ := h
    rw [List.getElem?_map] at ex
    obtain ⟨r, er, rfl⟩ := Option.map_eq_some_iff.mp ex
    obtain ⟨ru, e1, p, v1, v2⟩ := hrl.get er
    have li := (List.getElem?_eq_some_iff.mp e1).1
    refine ⟨r, _, rfl, sm.tup v1, rfl, _, _, rfl, _, _, rfl, rfl, ?_⟩
    refine goT ?_
    refine ⟨_, rfl, hd1, fits' (by rw [List.length_map, List.length_take]; omega), ?_, ⟨_, _, rfl⟩, fun b o hb => ?_, upd_same⟩
    · have : (hm rules)[i]? = some ru.1 := by unfold hm; rw [List.getElem?_map, e1]; rfl
      rw [List.take_add_one, this, List.map_append]; rfl
    · rw [upd_ne (fun z => by rw [z, hD] at hb; cases hb)]
      exact sm b o hb
  · obtain ⟨rfl, _, sm, hd1⟩ := h
    rw [List.length_map, ll, List.take_of_length_le (by unfold hm; rw [List.length_map]; exact Nat.le_refl _)] at hd1
    exact q H2 sm hd1
end
end K11
namespace K11
open PySem L2 M11
abbrev sRuleOf : Stmt := top 2
abbrev sBelow : Stmt := top 3
abbrev sEStand : Stmt := top 5
abbrev sELack : Stmt := top 6
section
variable {P : Program} {w : World} {K : PySem.W.Frag} {mg : Str → Option Value} {base : Heap} {f : Addr} {fd : FuncData}
def spBelow : Sp := fun vs H Q _ => ∃ (k m : Nat), vs = [.int (k : Int), .int (m : Int)] ∧ Q (.bl (decide (k < m))) H
theorem scBelow : FnScope ["number", "many"] ["number", "many"] (defScope sBelow) := ⟨rfl, rfl, rfl, by decide +kernel, rfl, by decide +kernel, by decide +kernel⟩
theorem ok_below (F : Fun K "is_number_below" "is_number_below" sBelow f fd) (T : Txt mg) : FnOk P w K mg base CX0 1 f fd ["number", "many"] spBelow := by
  refine F.ok scBelow (fun vs H Q E h => ?_) (fun cdv A outer s H vs Q E hr h => ?_)
  · obtain ⟨k, m, rfl, _⟩ := h; rfl
  · obtain ⟨k, m, rfl, q⟩ := h
    refine ⟨_, pss_one (ps_ret (pe_and (pe_callB call_isinst rfl T.isi PyProof.Rows.boot_isinstance (pa_cons (pv 0) (pa_cons (pe_bltn (v := .ty "int") rfl T.int PyProof.Rows.boot_int rfl) pa_nil)))
      (pe_and (pe_not (pe_callB call_isinst rfl T.isi PyProof.Rows.boot_isinstance (pa_cons (pv 0) (pa_cons (pe_bltn (v := .ty "bool") rfl T.boo PyProof.Rows.boot_bool rfl) pa_nil))))
      (pe_one (pe_chain op_le op_lt pe_int (pv 0) (pv 1)))))), ?_⟩
    refine ⟨_, rfl, .int k, "int", "int", true, rfl, .int k, kit_self, true, rfl, ?_⟩
    refine iteT ?_
    refine ⟨_, rfl, .int k, "int", "bool", false, rfl, .int k, kit_ib, false, rfl, true, rfl, ?_⟩
    refine iteT ?_
    refine ⟨_, rfl, _, _, rfl, rfl, _, rfl, ?_⟩
    refine ite2 (fun _ => ?_) (fun c => absurd (decide_eq_true (by omega)) c)
    refine ⟨_, rfl, _, _, rfl, rfl, ?_⟩
    show Q (.bl (decide ((k : Int) < (m : Int)))) H
    have e : decide ((k : Int) < (m : Int)) = decide (k < m) := by
      by_cases c : k < m
      · rw [decide_eq_true c, decide_eq_true (by omega)]
      · rw [decide_eq_false c, decide_eq_false (by omega)]
    rw [e]
    exact q
def spRuleOf (K : PySem.W.Frag) : Sp := fun vs H Q _ => ∃ (R : Addr) (rs : List Addr) (rules : List Rule) (k : Nat) (ru : Rule), vs = [.ref R, .int (k : Int), .str ru.1] ∧ SqL K H R (rs.map V.ref) ∧ Rules K H rs rules ∧ rules[k]? = some ru ∧ Q (.bl true) H
theorem scRuleOf : FnScope ["rules", "number", "name"] ["rules", "number", "name"] (defScope sRuleOf) := ⟨rfl, rfl, rfl, by decide +kernel, rfl, by decide +kernel, by decide +kernel⟩
theorem ok_ruleOf (F : Fun K "is_rule_of" "is_rule_of" sRuleOf f fd) (T : Txt mg) (GB : CalleeD P w K mg base 1 "is_number_below" ["number", "many"] spBelow) : FnOk P w K mg base CX0 2 f fd ["rules", "number", "name"] (spRuleOf K) := by
  refine F.ok scRuleOf (fun vs H Q E h => ?_) (fun cdv A outer s H vs Q E hr h => ?_)
  · obtain ⟨R, rs, rules, k, ru, rfl, _⟩ := h; rfl
  · obtain ⟨R, rs, rules, k, ru, rfl, hR, hrl, hk, q⟩ := h
    refine ⟨_, pss_one (ps_ret (pe_and (pe_fn GB hr rfl (pa_cons (pv 1) (pa_cons (pe_callB call_len_seq rfl T.len PySem.boot_len (pa_cons (pv 0) pa_nil)) pa_nil)))
      (pe_one (pe_cmpR op_eq (pe_ix ix_tup (pe_ix ix_list (pv 0) (pv 1) (fun _ _ => rfl)) pe_int (fun _ _ => rfl)) (pv 2) (nomark _))))), ?_⟩
    have ll := Paired.length hrl
    have lk := (List.getElem?_eq_some_iff.mp hk).1
    obtain ⟨r, er, p, v1, v2⟩ := Paired.at_ hrl k ru hk
    have atk : atI (rs.map V.ref) (k : Int) = some (.ref r) := atI_nat (by rw [List.getElem?_map, er]; rfl)
    refine ⟨_, rfl, _, rfl, R, _, rfl, .inl hR, k, (rs.map V.ref).length, rfl, decide (k < (rs.map V.ref).length), rfl, ?_⟩
    rw [decide_eq_true (by rw [List.length_map]; omega)]
    refine iteT ?_
    refine ⟨_, rfl, _, rfl, R, _, _, _, rfl, rfl, hR, atk, r, _, _, _, rfl, rfl, v1, rfl, _, rfl, rfl, ?_⟩
    rw [decide_eq_true rfl]
    exact q
def TkV (K : PySem.W.Frag) (rules : List Rule) (H : Hp) (t : Addr) (k : Nat) : Prop := ∃ ru, rules[k]? = some ru ∧ SqT K H t [.str ru.1, .int (k : Int)]
theorem TkV.same {rules : List Rule} {H H' : Hp} {t : Addr} {k : Nat} (s : Same H H') (h : TkV K rules H t k) : TkV K rules H' t k := by obtain ⟨ru, e, z⟩ := h; exact ⟨ru, e, s.tup z⟩
def spEStand (K : PySem.W.Frag) : Sp := fun vs H Q _ => ∃ (R L : Addr) (rs ts : List Addr) (rules : List Rule) (ks : List Nat), vs = [.ref R, .ref L] ∧ SqL K H R (rs.map V.ref) ∧ Rules K H rs rules ∧ rules.length ≤ 1000 ∧ (∀ ru ∈ rules, ru.2.length ≤ 8) ∧ SqL K H L (ts.map V.ref) ∧ Paired (TkV K rules H) ts ks ∧ ks.length ≤ 1000 ∧ ∀ H', Same H H' → Q (.bl (stE rules ks [])) H'
theorem scEStand : FnScope ["rules", "told", "ahead", "name", "number"] ["rules", "told"] (defScope sEStand) := ⟨rfl, rfl, rfl, by decide +kernel, rfl, by decide +kernel, by decide +kernel⟩
theorem stE_take {rules : List Rule} {ks : List Nat} {i k : Nat} (e : ks[i]? = some k) {a : List Str} : stE rules (ks.drop i) a = match rules[k]? with | none => false | some ru => !decide (ru.1 ∈ a) && (cE a ru && stE rules (ks.drop (i + 1)) (a ++ [ru.1])) := by
  have li := (List.getElem?_eq_some_iff.mp e).1
  have e2 : ks.drop i = k :: ks.drop (i + 1) := by
    rw [List.drop_eq_getElem_cons li]
    congr 1
    exact (List.getElem?_eq_some_iff.mp e).2
  rw [e2]
  rfl
theorem mem_keys {kvs : List (Key × V)} {a : List Str} (h : kvs.map (·.1) = a.map Sum.inr) (z : Str) : (valV kvs (Sum.inr z)).isSome = decide (z ∈ a) := by
  rw [Bool.eq_iff_iff, val_mem, decide_eq_true_iff, h]
  exact inr_mem
theorem ok_eStand (F : Fun K "empties_stand" "empties_stand" sEStand f fd) (T : Txt mg) (GR : CalleeD P w K mg base 2 "is_rule_of" ["rules", "number", "name"] (spRuleOf K)) : FnOk P w K mg base CX0 3 f fd ["rules", "told"] (spEStand K) := by
  refine F.ok scEStand (fun vs H Q E h => ?_) (fun cdv A outer s H vs Q E hr h => ?_)
  · obtain ⟨R, L, rs, ts, rules, ks, rfl, _⟩ := h; rfl
  · obtain ⟨R, L, rs, ts, rules, ks, rfl, hR, hrl, hlen, h8, hL, htk, hkl, q⟩ := h
    have hu := hu_of hr
    refine ⟨_, pss_cons (ps_set (i := 2) scEStand.nd rfl (Or.inr rfl) pe_dnewK)
      (pss_cons (ps_for PassesOwn.never rfl (pi_list (pv 1)) (pg_tup rfl (pgs_cons (pg_name (i := 3) scEStand.nd rfl (Or.inl rfl)) (pgs_cons (pg_name (i := 4) scEStand.nd rfl (Or.inl rfl)) pgs_nil)))
        (pss_cons (ps_if (PW.pt (pw_or (pt_cmp (pc_din hu (pv 3) (pv 2))) (pw_or1 (pt_not (pt_val (pe_fn GR hr rfl (pa_cons (pv 0) (pa_cons (pv 4) (pa_cons (pv 3) pa_nil))))))))) (pss_one (ps_ret pe_bl)) pss_nil)
        (pss_cons (ps_if (pt_not (pt_val (pe_callB (call_allB rfl) rfl T.all boot_all (pa_cons (pe_compG ["part"] [(2, "ahead")] rfl (pi_tup (pe_ix ix_tup (pe_ix ix_list (pv 0) (pv 4) (fun _ _ => rfl)) pe_int (fun _ _ => rfl))) (caps_of rfl rfl) (by decide +kernel) rfl (by decide +kernel)
            (fun _ _ _ _ _ => pg_name (i := 0) (show (["part", "ahead"] : List Str).Nodup by decide +kernel) rfl (Or.inl rfl)) (fun _ _ _ _ _ => pif_nil) (fun _ _ _ _ _ => pe_cmp (pc_din hu (pv 0) (pv 1)))) pa_nil)))) (pss_one (ps_ret pe_bl)) pss_nil)
        (pss_one (ps_dput hu (pv 2) (pv 3) pe_bl rfl)))))
      (pss_one (ps_ret pe_bl))), ?_⟩
    have ll := Paired.length hrl
    have ltk := Paired.length htk
    intro d hd
    have k1 := same_laid hd (.dK [])
    have e1 : upd H d (.dK []) d = some (.dK []) := upd_same
    generalize upd H d (.dK []) = H1 at k1 e1
    refine ⟨_, rfl, L, rfl, ⟨_, k1.seq hL⟩, ?_⟩
    refine for_list (xs := ts.map V.ref) (fun i σ H5 => ∃ (a : List Str) (kvs : List (Key × V)) (y3 y4 : Option V), σ = [some (.ref R), some (.ref L), some (.ref d), y3, y4] ∧ Same H H5 ∧ H5 d = some (.dK kvs) ∧ kvs.map (·.1) = a.map Sum.inr ∧ kvs.length ≤ i ∧ stE rules ks [] = stE rules (ks.drop i) a) ⟨[], [], none, none, rfl, k1, e1, rfl, Nat.le_refl _, rfl⟩ ?_ ?_ ?_
    · rintro i σ H5 _ ⟨a, kvs, y3, y4, rfl, s5, _⟩
      exact s5.seq hL
    · rintro i x σ H5 ex ⟨a, kvs, y3, y4, rfl, s5, ed, hk, lk, inv⟩
      rw [List.getElem?_map] at ex
      obtain ⟨t, et, rfl⟩ := Option.map_eq_some_iff.mp ex
      have li := (List.getElem?_eq_some_iff.mp et).1
      obtain ⟨k, ek⟩ : ∃ k, ks[i]? = some k := ⟨ks[i]'(by omega), List.getElem?_eq_getElem (by omega)⟩
      obtain ⟨t', et', ru, eru, vt⟩ := Paired.at_ htk i k ek
      rw [et] at et'
      cases et'
      have st := stE_take (rules := rules) ek (a := a)
      rw [eru] at st
      have st : stE rules (ks.drop i) a = (!decide (ru.1 ∈ a) && (cE a ru && stE rules (ks.drop (i + 1)) (a ++ [ru.1]))) := st
      obtain ⟨r, er, p, v1, v2⟩ := Paired.at_ hrl k ru eru
      have h8r := h8 ru (List.mem_of_getElem? eru)
      have atk : atI (rs.map V.ref) (k : Int) = some (.ref r) := atI_nat (by rw [List.getElem?_map, er]; rfl)
      refine ⟨t, _, rfl, s5.tup vt, rfl, _, _, rfl, _, _, rfl, rfl, ?_⟩
      refine ⟨_, rfl, _, rfl, d, _, rfl, DGet.k (k := Sum.inr ru.1) ed, _, rfl, ?_⟩
      rw [mem_keys hk]
      refine ite2 (fun c => ?_) (fun c => ?_)
      · refine iteT ?_
        rw [inv, st, c] at q
        exact q H5 s5
      have c' : decide (ru.1 ∈ a) = false := by simpa using c
      refine ⟨_, rfl, _, rfl, _, rfl, R, rs, rules, k, ru, rfl, s5.seq hR, hrl.same s5, eru, true, rfl, ?_⟩
      refine iteF ?_
      refine ⟨_, rfl, _, rfl, R, _, _, _, rfl, rfl, s5.seq hR, atk, r, _, _, _, rfl, rfl, s5.tup v1, rfl, p, rfl, ⟨_, s5.tup v2⟩, fun D2 hD2 => comp_isin rfl (s5.tup v2) (by omega) ed hD2 fun H6 s6 e6 => ?_⟩
      have ce : (List.map (fun z => (valV kvs (Sum.inr z)).isSome) ru.2).all id = cE a ru := by
        rw [all_map]
        unfold cE
        congr 1
        funext z
        exact mem_keys hk z
      refine ⟨D2, _, rfl, SqL.of e6, _, rfl, ?_⟩
      rw [ce]
      have s56 := s5.trans s6
      cases hc : cE a ru with
      | false =>
        refine iteT ?_
        rw [inv, st, hc, Bool.false_and, Bool.and_false] at q
        exact q H6 s56
      | true =>
        refine iteF ?_
        refine ⟨_, rfl, _, rfl, d, _, rfl, DPut.k (k := Sum.inr ru.1) (s6 _ _ ed) (fits' (by omega)), ?_⟩
        refine ⟨a ++ [ru.1], _, _, _, rfl, fun b o hb => ?_, upd_same, ?_, ?_, ?_⟩
        · rw [upd_ne (fun z => by rw [z, hd] at hb; cases hb)]; exact s56 b o hb
        · rw [put_out (by rw [hk]; exact fun z => (by simpa using c' : ru.1 ∉ a) (inr_mem.mp z)), hk, List.map_append]; rfl
        · have := congrArg List.length (put_out (kvs := kvs) (k := Sum.inr ru.1) (v := .bl true) (by rw [hk]; exact fun z => (by simpa using c' : ru.1 ∉ a) (inr_mem.mp z)))
          rw [List.length_map, List.length_append, List.length_map, List.length_singleton] at this
          omega
        · rw [inv, st, c', hc]; rfl
    · rintro σ H5 ⟨a, kvs, y3, y4, rfl, s5, ed, hk, lk, inv⟩
      rw [List.length_map, ltk, List.drop_length] at inv
      rw [inv] at q
      exact q H5 s5
def clE (rules : List Rule) (ns : List Str) : Bool := rules.all fun ru => decide (ru.1 ∈ ns) || !(ru.2.all fun p => decide (p ∈ ns))
theorem clE_iff {rules : List Rule} {ns : List Str} : clE rules ns = true ↔ Cl rules ns := by
  unfold clE
  rw [List.all_eq_true]
  constructor
  · intro h ru hr hp
    rcases Bool.or_eq_true_iff.mp (h ru hr) with c | c
    · exact of_decide_eq_true c
    · rw [List.all_eq_true.mpr fun p hpp => decide_eq_true (hp p hpp)] at c
      cases c
  · intro h ru hr
    by_cases c : ru.1 ∈ ns
    · rw [decide_eq_true c]; rfl
    · rw [Bool.or_eq_true_iff]
      right
      cases e : ru.2.all fun p => decide (p ∈ ns) with
      | false => rfl
      | true => exact absurd (h ru hr fun p hp => of_decide_eq_true (List.all_eq_true.mp e p hp)) c
def spELack (K : PySem.W.Frag) : Sp := fun vs H Q _ => ∃ (R N : Addr) (rs : List Addr) (rules : List Rule) (ns : List Str), vs = [.ref R, .ref N] ∧ SqL K H R (rs.map V.ref) ∧ Rules K H rs rules ∧ rules.length ≤ 1000 ∧ (∀ ru ∈ rules, ru.2.length ≤ 8) ∧ SqL K H N (ns.map V.str) ∧ ns.length ≤ 1000 ∧ ∀ H', Same H H' → (clE rules ns = true → Q .non H') ∧ (clE rules ns = false → ∀ k : Int, Q (.int k) H')
theorem scELack : FnScope ["rules", "names", "empty", "number", "rule"] ["rules", "names"] (defScope sELack) := ⟨rfl, rfl, rfl, by decide +kernel, rfl, by decide +kernel, by decide +kernel⟩
theorem comp_true {H : Hp} {p D : Addr} {zs : List Str} {σ : St} {x : Str} {Qp : Hp → Prop} (hp : SqL K H p (zs.map V.str)) (hz : zs.length ≤ 1000) (hD : H D = none)
    (q : ∀ (ts : List Addr) (H2 : Hp), Same H H2 → H2 D = some (.lst (ts.map V.ref)) → Paired (fun t (kv : Key × V) => SqT K H2 t [kV kv.1, kv.2]) ts (zs.map fun z => ((Sum.inr z : Key), V.bl true)) → Qp H2) :
    ∃ W : Nat → Nat → List V → St → Hp → Prop, (∃ m, W 0 m [] (capS [x] [] σ) (upd H D (.lst []))) ∧
  ∀ i m ys σ' H, W i m ys σ' H → ((Itl K p).stop i H ∧ Qp H) ∨ ((Itl K p).go i H ∧ ∃ m', m' < m ∧ ∀ x H', (Itl K p).yld i H x H' → gName 0 x σ' H' fun σ2 H2 => tTrue σ2 H2 fun b H3 =>
    if b = true then tTup (tCons (tVar 0) (tCons (tC (.bl true)) tNil)) σ2 H3 fun y H4 => H4 D = some (.lst ys) ∧ ys.length < sizeLine ∧ W (i + 1) m' (ys ++ [y]) σ2 (upd H4 D (.lst (ys ++ [y]))) else W (i + 1) m' ys σ2 H3) := by
  refine compG_list (xs := zs.map V.str) (fun i ys σ2 H2 => (∃ y0, σ2 = [y0]) ∧ Same H H2 ∧ ∃ ts : List Addr, ys = ts.map V.ref ∧ ts.length = i ∧ H2 D = some (.lst ys) ∧ Paired (fun t (kv : Key × V) => SqT K H2 t [kV kv.1, kv.2]) ts ((zs.take i).map fun z => ((Sum.inr z : Key), V.bl true)))
    ⟨⟨none, rfl⟩, same_laid hD _, [], rfl, rfl, upd_same, .nil⟩ (fun i ys σ2 H2 _ h => ?_) (fun i v ys σ2 H2 ex h => ?_) (fun ys σ2 H2 h => ?_)
  · obtain ⟨_, sm, _⟩ := h
    exact sm.seq hp
  · obtain ⟨⟨y0, rfl⟩, sm, ts, rfl, lt, eD, pr⟩ := h
    rw [List.getElem?_map] at ex
    obtain ⟨z, ez, rfl⟩ := Option.map_eq_some_iff.mp ex
    have li := (List.getElem?_eq_some_iff.mp ez).1
    refine goN (goT ?_)
    refine ⟨_, rfl, (by show 2 ≤ sizeLine; decide), fun t ht => ?_⟩
    have k3 := same_laid ht (.tup [V.str z, V.bl true])
    have e3 : SqT K (upd H2 t (.tup [V.str z, V.bl true])) t [.str z, .bl true] := SqT.of upd_same
    have eD3 := k3 _ _ eD
    generalize upd H2 t (.tup [V.str z, V.bl true]) = H3 at k3 e3 eD3
    refine ⟨eD3, fits' (by rw [List.length_map]; omega), ⟨_, rfl⟩, fun b o hb => ?_, ts ++ [t], by rw [List.map_append]; rfl, by rw [List.length_append, lt]; rfl, upd_same, ?_⟩
    · rw [upd_ne (fun z => by rw [z, hD] at hb; cases hb)]
      exact (sm.trans k3) b o hb
    · rw [List.take_add_one, ez, List.map_append]
      exact Paired.snoc (Paired.mapP pr fun _ _ y => sqt_upd eD3 (k3.tup y)) (sqt_upd eD3 e3)
  · obtain ⟨_, sm, ts, rfl, lt, eD, pr⟩ := h
    rw [List.length_map, List.take_length] at pr
    exact q ts H2 sm eD pr
theorem ded_memB : ∀ (hs acc : List Str) (x : Str), x ∈ ded acc hs ↔ x ∈ acc ∨ x ∈ hs
  | [], acc, x => by unfold ded; simp
  | h :: hs, acc, x => by
    show x ∈ ded (add1 acc h) hs ↔ _
    rw [ded_memB hs (add1 acc h) x]
    unfold add1
    by_cases c : h ∈ acc
    · rw [if_pos c, List.mem_cons]
      exact ⟨fun z => z.elim .inl fun y => .inr (.inr y), fun z => z.elim .inl fun y => y.elim (fun e => .inl (e ▸ c)) .inr⟩
    · rw [if_neg c, List.mem_append, List.mem_singleton, List.mem_cons]
      exact ⟨fun z => z.elim (fun y => y.elim .inl fun e => .inr (.inl e)) fun y => .inr (.inr y), fun z => z.elim (fun y => .inl (.inl y)) fun y => y.elim (fun e => .inl (.inr e)) .inr⟩
theorem ok_eLack (F : Fun K "empties_lack" "empties_lack" sELack f fd) (T : Txt mg) : FnOk P w K mg base CX0 1 f fd ["rules", "names"] (spELack K) := by
  refine F.ok scELack (fun vs H Q E h => ?_) (fun cdv A outer s H vs Q E hr h => ?_)
  · obtain ⟨R, N, rs, rules, ns, rfl, _⟩ := h; rfl
  · obtain ⟨R, N, rs, rules, ns, rfl, hR, hrl, hlen, h8, hN, hnl, q⟩ := h
    have hu := hu_of hr
    refine ⟨_, pss_cons (ps_set (i := 2) scELack.nd rfl (Or.inr rfl) (pe_callTy (call_dictP rfl) rfl T.dct boot_dct (pa_cons (pe_compG ["name"] [] rfl (pi_list (pv 1)) (caps_of rfl rfl) (by decide +kernel) rfl (by decide +kernel)
          (fun _ _ _ _ _ => pg_name (i := 0) (show (["name"] : List Str).Nodup by decide +kernel) rfl (Or.inl rfl)) (fun _ _ _ _ _ => pif_nil) (fun _ _ _ _ _ => pe_tup (pa_cons (pv 0) (pa_cons pe_bl pa_nil)))) pa_nil)))
      (pss_cons (ps_for PassesOwn.never rfl (pi_enum rfl T.enu (pa_cons (pv 0) pa_nil)) (pg_tup rfl (pgs_cons (pg_name (i := 3) scELack.nd rfl (Or.inl rfl)) (pgs_cons (pg_name (i := 4) scELack.nd rfl (Or.inl rfl)) pgs_nil)))
        (pss_one (ps_if (PW.pt (pw_and (pt_cmp (pc_dnotin hu (pe_ix ix_tup (pv 4) pe_int (fun _ _ => rfl)) (pv 2)))
            (pw_and1 (pt_val (pe_callB (call_allB rfl) rfl T.all boot_all (pa_cons (pe_compG ["part"] [(2, "empty")] rfl (pi_tup (pe_ix ix_tup (pv 4) pe_int (fun _ _ => rfl))) (caps_of rfl rfl) (by decide +kernel) rfl (by decide +kernel)
              (fun _ _ _ _ _ => pg_name (i := 0) (show (["part", "empty"] : List Str).Nodup by decide +kernel) rfl (Or.inl rfl)) (fun _ _ _ _ _ => pif_nil) (fun _ _ _ _ _ => pe_cmp (pc_din hu (pv 0) (pv 1)))) pa_nil)))))) (pss_one (ps_ret (pv 3))) pss_nil)))
      (pss_one (ps_ret pe_non))), ?_⟩
    have ll := Paired.length hrl
    refine ⟨_, rfl, N, rfl, ⟨_, hN⟩, fun D1 hD1 => comp_true hN hnl hD1 fun ts H1 s1 eD1 pr => ?_⟩
    refine ⟨D1, ts, _, rfl, eD1, pr, fun d hd0 => ?_⟩
    have hk := keys_ded ns [] [] rfl
    generalize fillK (ns.map fun z => ((Sum.inr z : Key), V.bl true)) [] = kvs at hk
    have mk : ∀ z, (valV kvs (Sum.inr z)).isSome = decide (z ∈ ns) := fun z => by
      rw [mem_keys hk]
      rw [Bool.eq_iff_iff, decide_eq_true_iff, decide_eq_true_iff, ded_memB]
      simp
    have s2 := s1.trans (same_laid hd0 (.dK kvs))
    have e2 : upd H1 d (.dK kvs) d = some (.dK kvs) := upd_same
    generalize upd H1 d (.dK kvs) = H2 at s2 e2
    refine ⟨_, rfl, R, _, rfl, s2.seq hR, ?_⟩
    refine for_enum (xs := rs.map V.ref) (fun i σ H5 => ∃ (y3 y4 : Option V), σ = [some (.ref R), some (.ref N), some (.ref d), y3, y4] ∧ Same H H5 ∧ H5 d = some (.dK kvs) ∧ clE (rules.take i) ns = true) ⟨none, none, rfl, s2, e2, rfl⟩ ?_ ?_ ?_
    · rintro i σ H5 _ ⟨y3, y4, rfl, s5, _⟩
      exact s5.seq hR
    · rintro i x σ H5 t ex ⟨y3, y4, rfl, s5, ed, inv⟩ ht
      rw [List.getElem?_map] at ex
      obtain ⟨r, er, rfl⟩ := Option.map_eq_some_iff.mp ex
      obtain ⟨ru, e1, p, v1, v2⟩ := hrl.get er
      have h8r := h8 ru (List.mem_of_getElem? e1)
      have k6 := same_laid ht (.tup [.int (i : Int), .ref r])
      have v6 : SqT K (upd H5 t (.tup [.int (i : Int), .ref r])) t [.int (i : Int), .ref r] := SqT.of upd_same
      generalize upd H5 t (.tup [.int (i : Int), .ref r]) = H6 at k6 v6
      have s6 := s5.trans k6
      have ed6 := k6 _ _ ed
      have tk : clE (rules.take (i + 1)) ns = (clE (rules.take i) ns && (decide (ru.1 ∈ ns) || !(ru.2.all fun p => decide (p ∈ ns)))) := by
        unfold clE
        rw [List.take_add_one, e1, List.all_append]
        simp
      have ce : (List.map (fun z => (valV kvs (Sum.inr z)).isSome) ru.2).all id = ru.2.all fun p => decide (p ∈ ns) := by
        rw [all_map]
        congr 1
        funext z
        exact mk z
      refine ⟨t, _, rfl, v6, rfl, _, _, rfl, _, _, rfl, rfl, ?_⟩
      refine ⟨_, rfl, r, _, _, _, rfl, rfl, s6.tup v1, rfl, ?_⟩
      refine ⟨_, rfl, d, _, rfl, DGet.k (k := Sum.inr ru.1) ed6, _, rfl, ?_⟩
      rw [mk]
      refine ite2 (fun c => ?_) (fun c => ?_)
      · have c' : decide (ru.1 ∈ ns) = false := by simpa using c
        refine ⟨_, rfl, r, _, _, _, rfl, rfl, s6.tup v1, rfl, p, rfl, ⟨_, s6.tup v2⟩, fun D2 hD2 => comp_isin rfl (s6.tup v2) (by omega) ed6 hD2 fun H7 s7 e7 => ?_⟩
        refine ⟨D2, _, rfl, SqL.of e7, _, rfl, ?_⟩
        rw [ce]
        cases hc : ru.2.all fun p => decide (p ∈ ns) with
        | true =>
          refine iteT ?_
          refine ⟨_, rfl, (q H7 (s6.trans s7)).2 ?_ _⟩
          unfold clE
          rw [List.all_eq_false]
          exact ⟨ru, List.mem_of_getElem? e1, by rw [c', hc]; decide⟩
        | false =>
          refine iteF ?_
          exact ⟨_, _, rfl, s6.trans s7, s7 _ _ ed6, by rw [tk, inv, hc]; simp⟩
      · have c' : decide (ru.1 ∈ ns) = true := by simpa using c
        refine iteF ?_
        exact ⟨_, _, rfl, s6, ed6, by rw [tk, inv, c']; rfl⟩
    · rintro σ H5 ⟨y3, y4, rfl, s5, ed, inv⟩
      rw [List.length_map, ll, List.take_length] at inv
      exact (q H5 s5).1 inv
end
end K11
namespace L2
open PySem
section
variable {κ : Type} [DecidableEq κ]
theorem any_keyG (kvs : List (κ × V)) (k : κ) : (kvs.any fun kv => decide (kv.1 = k)) = true ↔ k ∈ kvs.map (·.1) := by
  rw [List.any_eq_true]
  constructor
  · rintro ⟨kv, h, e⟩
    exact List.mem_map.mpr ⟨kv, h, of_decide_eq_true e⟩
  · intro h
    obtain ⟨kv, h, e⟩ := List.mem_map.mp h
    exact ⟨kv, h, decide_eq_true e⟩
theorem put_outG {kvs : List (κ × V)} {k : κ} {v : V} (h : ¬ k ∈ kvs.map (·.1)) : (putK kvs k v).map (·.1) = kvs.map (·.1) ++ [k] := by
  unfold putK
  rw [if_neg (fun z => h ((any_keyG kvs k).mp z)), List.map_append]
  rfl
theorem val_memG (kvs : List (κ × V)) (k : κ) : (valV kvs k).isSome = true ↔ k ∈ kvs.map (·.1) := by
  unfold valV
  rw [Option.isSome_map, List.find?_isSome]
  constructor
  · rintro ⟨kv, h, e⟩
    exact List.mem_map.mpr ⟨kv, h, of_decide_eq_true e⟩
  · intro h
    obtain ⟨kv, h, e⟩ := List.mem_map.mp h
    exact ⟨kv, h, decide_eq_true e⟩
end
end L2
namespace K11
open PySem L2 M11
abbrev sBStand : Stmt := top 7
def kP (p : Str × Str) : List Key := [Sum.inr p.1, Sum.inr p.2]
theorem kP_mem {a : List (Str × Str)} {x w : Str} : ([Sum.inr x, Sum.inr w] : List Key) ∈ a.map kP ↔ (x, w) ∈ a := by
  rw [List.mem_map]
  constructor
  · rintro ⟨p, h, e⟩
    unfold kP at e
    injection e with e1 e2
    injection e2 with e2 _
    injection e1 with e1
    injection e2 with e2
    rw [← e1, ← e2]
    exact h
  · exact fun h => ⟨_, h, rfl⟩
theorem mem_keysT {kvs : List (List Key × V)} {a : List (Str × Str)} (h : kvs.map (·.1) = a.map kP) (x w : Str) : (valV kvs [Sum.inr x, Sum.inr w]).isSome = decide ((x, w) ∈ a) := by
  rw [Bool.eq_iff_iff, val_memG, decide_eq_true_iff, h]
  exact kP_mem
section
variable {P : Program} {w : World} {K : PySem.W.Frag} {mg : Str → Option Value} {base : Heap} {f : Addr} {fd : FuncData}
def TbV (K : PySem.W.Frag) (rules : List Rule) (H : Hp) (t : Addr) (b : Tb) : Prop := ∃ ru, rules[b.1]? = some ru ∧ SqT K H t [.str ru.1, .str b.2.1, .int (b.1 : Int), .int (b.2.2 : Int)]
theorem TbV.same {rules : List Rule} {H H' : Hp} {t : Addr} {b : Tb} (s : Same H H') (h : TbV K rules H t b) : TbV K rules H' t b := by obtain ⟨ru, e, z⟩ := h; exact ⟨ru, e, s.tup z⟩
def spBStand (K : PySem.W.Frag) : Sp := fun vs H Q _ => ∃ (R N L : Addr) (rs ts : List Addr) (rules : List Rule) (ns : List Str) (bs : List Tb), vs = [.ref R, .ref N, .ref L] ∧ SqL K H R (rs.map V.ref) ∧ Rules K H rs rules ∧ rules.length ≤ 1000 ∧ (∀ ru ∈ rules, ru.2.length ≤ 8) ∧ SqL K H N (ns.map V.str) ∧ ns.length ≤ 1000 ∧ SqL K H L (ts.map V.ref) ∧ Paired (TbV K rules H) ts bs ∧ bs.length ≤ 1000 ∧ ∀ H', Same H H' → Q (.bl (stB rules ns bs [])) H'
theorem scBStand : FnScope ["rules", "names", "told", "heads", "empty", "ahead", "name", "word", "number", "place", "parts", "itself"] ["rules", "names", "told"] (defScope sBStand) := ⟨rfl, rfl, rfl, by decide +kernel, rfl, by decide +kernel, by decide +kernel⟩
theorem stB_take {rules : List Rule} {ns : List Str} {bs : List Tb} {i : Nat} {b : Tb} (e : bs[i]? = some b) {a : List (Str × Str)} : stB rules ns (bs.drop i) a = match rules[b.1]? with | none => false | some ru => okB rules ns a ru b.2.1 b.2.2 && stB rules ns (bs.drop (i + 1)) (a ++ [(ru.1, b.2.1)]) := by
  have li := (List.getElem?_eq_some_iff.mp e).1
  have e2 : bs.drop i = b :: bs.drop (i + 1) := by
    rw [List.drop_eq_getElem_cons li]
    congr 1
    exact (List.getElem?_eq_some_iff.mp e).2
  rw [e2]
  rfl
theorem ok_bStand (F : Fun K "begins_stand" "begins_stand" sBStand f fd) (T : Txt mg) (GH : CalleeD P w K mg base 2 "heads_of" ["rules"] (spHeads K)) (GR : CalleeD P w K mg base 2 "is_rule_of" ["rules", "number", "name"] (spRuleOf K)) (GB : CalleeD P w K mg base 2 "is_number_below" ["number", "many"] spBelow) : FnOk P w K mg base CX0 3 f fd ["rules", "names", "told"] (spBStand K) := by
  refine F.ok scBStand (fun vs H Q E h => ?_) (fun cdv A outer s H vs Q E hr h => ?_)
  · obtain ⟨R, N, L, rs, ts, rules, ns, bs, rfl, _⟩ := h; rfl
  · obtain ⟨R, N, L, rs, ts, rules, ns, bs, rfl, hR, hrl, hlen, h8, hN, hnl, hL, htb, hbl, q⟩ := h
    have hu := hu_of hr
    refine ⟨_, pss_cons (ps_set (i := 3) scBStand.nd rfl (Or.inl rfl) (pe_callTy (call_dictP rfl) rfl T.dct boot_dct (pa_cons (pe_compG ["name"] [] rfl (pi_list (pe_fn GH hr rfl (pa_cons (pv 0) pa_nil))) (caps_of rfl rfl) (by decide +kernel) rfl (by decide +kernel)
          (fun _ _ _ _ _ => pg_name (i := 0) (show (["name"] : List Str).Nodup by decide +kernel) rfl (Or.inl rfl)) (fun _ _ _ _ _ => pif_nil) (fun _ _ _ _ _ => pe_tup (pa_cons (pv 0) (pa_cons pe_bl pa_nil)))) pa_nil)))
      (pss_cons (ps_set (i := 4) scBStand.nd rfl (Or.inr rfl) (pe_callTy (call_dictP rfl) rfl T.dct boot_dct (pa_cons (pe_compG ["name"] [] rfl (pi_list (pv 1)) (caps_of rfl rfl) (by decide +kernel) rfl (by decide +kernel)
          (fun _ _ _ _ _ => pg_name (i := 0) (show (["name"] : List Str).Nodup by decide +kernel) rfl (Or.inl rfl)) (fun _ _ _ _ _ => pif_nil) (fun _ _ _ _ _ => pe_tup (pa_cons (pv 0) (pa_cons pe_bl pa_nil)))) pa_nil)))
      (pss_cons (ps_set (i := 5) scBStand.nd rfl (Or.inl rfl) pe_dnewT)
      (pss_cons (ps_for PassesOwn.never rfl (pi_list (pv 2)) (pg_tup rfl (pgs_cons (pg_name (i := 6) scBStand.nd rfl (Or.inl rfl)) (pgs_cons (pg_name (i := 7) scBStand.nd rfl (Or.inl rfl)) (pgs_cons (pg_name (i := 8) scBStand.nd rfl (Or.inl rfl)) (pgs_cons (pg_name (i := 9) scBStand.nd rfl (Or.inl rfl)) pgs_nil)))))
        (pss_cons (ps_if (PW.pt (pw_or (pt_cmp (pc_din hu (pe_tup (pa_cons (pv 6) (pa_cons (pv 7) pa_nil))) (pv 5))) (pw_or1 (pt_not (pt_val (pe_fn GR hr rfl (pa_cons (pv 0) (pa_cons (pv 8) (pa_cons (pv 6) pa_nil))))))))) (pss_one (ps_ret pe_bl)) pss_nil)
        (pss_cons (ps_set (i := 10) scBStand.nd rfl (Or.inl rfl) (pe_ix ix_tup (pe_ix ix_list (pv 0) (pv 8) (fun _ _ => rfl)) pe_int (fun _ _ => rfl)))
        (pss_cons (ps_if (PW.pt (pw_or (pt_not (pt_val (pe_fn GB hr rfl (pa_cons (pv 9) (pa_cons (pe_callB call_len_seq rfl T.len PySem.boot_len (pa_cons (pv 10) pa_nil)) pa_nil))))) (pw_or1 (pt_not (pt_val (pe_callB (call_allB rfl) rfl T.all boot_all (pa_cons (pe_compG ["part"] [(4, "empty")] rfl (pi_tup (pe_slice sl_tupG (pv 10) po_none (po_some (pv 9)))) (caps_of rfl rfl) (by decide +kernel) rfl (by decide +kernel)
            (fun _ _ _ _ _ => pg_name (i := 0) (show (["part", "empty"] : List Str).Nodup by decide +kernel) rfl (Or.inl rfl)) (fun _ _ _ _ _ => pif_nil) (fun _ _ _ _ _ => pe_cmp (pc_din hu (pv 0) (pv 1)))) pa_nil))))))) (pss_one (ps_ret pe_bl)) pss_nil)
        (pss_cons (ps_cutS (ps_set (i := 11) scBStand.nd rfl (Or.inl rfl) (pe_and (pe_cmpR op_eq (pe_ix ix_tup (pv 10) (pv 9) (fun _ _ => rfl)) (pv 7) (nomark _)) (pe_one (pe_cmp (pc_dnotin hu (pv 7) (pv 3)))))))
        (pss_cons (ps_if (PW.pt (pw_and (pt_not (pt_val (pv 11))) (pw_and1 (pt_cmp (pc_dnotin hu (pe_tup (pa_cons (pe_ix ix_tup (pv 10) (pv 9) (fun _ _ => rfl)) (pa_cons (pv 7) pa_nil))) (pv 5)))))) (pss_one (ps_ret pe_bl)) pss_nil)
        (pss_one (ps_dput hu (pv 5) (pe_tup (pa_cons (pv 6) (pa_cons (pv 7) pa_nil))) pe_bl rfl))))))))
      (pss_one (ps_ret pe_bl))))), ?_⟩
    have ll := Paired.length hrl
    have ltb := Paired.length htb
    refine ⟨_, rfl, R, rs, rules, rfl, hR, hrl, hlen, fun D0 H0 f0 s0 e0 => ?_⟩
    have lded := ded_len (rules.map (·.1)) []
    rw [List.length_nil, List.length_map] at lded
    refine ⟨D0, rfl, ⟨_, SqL.of e0⟩, fun D1 hD1 => comp_true (SqL.of e0) (by omega) hD1 fun t1 H1 s1 eD1 pr1 => ?_⟩
    refine ⟨D1, t1, _, rfl, eD1, pr1, fun d1 hd1 => ?_⟩
    have hk1 := keys_ded (ded [] (rules.map (·.1))) [] [] rfl
    generalize fillK ((ded [] (rules.map (·.1))).map fun z => ((Sum.inr z : Key), V.bl true)) [] = kv1 at hk1
    have mk1 : ∀ z, (valV kv1 (Sum.inr z)).isSome = decide (z ∈ M11.hm rules) := fun z => by
      rw [mem_keys hk1, Bool.eq_iff_iff, decide_eq_true_iff, decide_eq_true_iff, ded_memB, ded_memB]
      simp
    have s2 := (s0.trans s1).trans (same_laid hd1 (.dK kv1))
    have e2 : upd H1 d1 (.dK kv1) d1 = some (.dK kv1) := upd_same
    generalize upd H1 d1 (.dK kv1) = H2 at s2 e2
    refine ⟨_, rfl, N, rfl, ⟨_, s2.seq hN⟩, fun D3 hD3 => comp_true (s2.seq hN) hnl hD3 fun t3 H3 s3 eD3 pr3 => ?_⟩
    refine ⟨D3, t3, _, rfl, eD3, pr3, fun d2 hd2 => ?_⟩
    have hk2 := keys_ded ns [] [] rfl
    generalize fillK (ns.map fun z => ((Sum.inr z : Key), V.bl true)) [] = kv2 at hk2
    have mk2 : ∀ z, (valV kv2 (Sum.inr z)).isSome = decide (z ∈ ns) := fun z => by
      rw [mem_keys hk2, Bool.eq_iff_iff, decide_eq_true_iff, decide_eq_true_iff, ded_memB]
      simp
    have k4 := s3.trans (same_laid hd2 (.dK kv2))
    have e4 : upd H3 d2 (.dK kv2) d2 = some (.dK kv2) := upd_same
    generalize upd H3 d2 (.dK kv2) = H4 at k4 e4
    have s4 := s2.trans k4
    have e42 := k4 _ _ e2
    intro d hd
    have k5 := same_laid hd (.dT [])
    have e5 : upd H4 d (.dT []) d = some (.dT []) := upd_same
    have e51 := k5 _ _ e42
    have e52 := k5 _ _ e4
    generalize upd H4 d (.dT []) = H5 at k5 e5 e51 e52
    have s5 := s4.trans k5
    have fd0 : H d = none := s4.free hd
    have nd1 : d1 ≠ d := fun z => by rw [← z, e42] at hd; cases hd
    have nd2 : d2 ≠ d := fun z => by rw [← z, e4] at hd; cases hd
    refine ⟨_, rfl, L, rfl, ⟨_, s5.seq hL⟩, ?_⟩
    refine for_list (xs := ts.map V.ref) (fun i σ H6 => ∃ (a : List (Str × Str)) (kvs : List (List Key × V)) (y6 y7 y8 y9 y10 y11 : Option V), σ = [some (.ref R), some (.ref N), some (.ref L), some (.ref d1), some (.ref d2), some (.ref d), y6, y7, y8, y9, y10, y11] ∧ Same H H6 ∧ H6 d1 = some (.dK kv1) ∧ H6 d2 = some (.dK kv2) ∧ H6 d = some (.dT kvs) ∧ kvs.map (·.1) = a.map kP ∧ kvs.length ≤ i ∧ stB rules ns bs [] = stB rules ns (bs.drop i) a) ⟨[], [], none, none, none, none, none, none, rfl, s5, e51, e52, e5, rfl, Nat.le_refl _, rfl⟩ ?_ ?_ ?_
    · rintro i σ H6 _ ⟨a, kvs, y6, y7, y8, y9, y10, y11, rfl, s6, _⟩
      exact s6.seq hL
    · rintro i x σ H6 ex ⟨a, kvs, y6, y7, y8, y9, y10, y11, rfl, s6, ed1, ed2, ed, hk, lk, inv⟩
      rw [List.getElem?_map] at ex
      obtain ⟨t, et, rfl⟩ := Option.map_eq_some_iff.mp ex
      have li := (List.getElem?_eq_some_iff.mp et).1
      obtain ⟨b, eb⟩ : ∃ b, bs[i]? = some b := ⟨bs[i]'(by omega), List.getElem?_eq_getElem (by omega)⟩
      obtain ⟨t', et', ru, eru, vt⟩ := Paired.at_ htb i b eb
      rw [et] at et'
      cases et'
      have st := stB_take (rules := rules) (ns := ns) eb (a := a)
      rw [eru] at st
      have st : stB rules ns (bs.drop i) a = (okB rules ns a ru b.2.1 b.2.2 && stB rules ns (bs.drop (i + 1)) (a ++ [(ru.1, b.2.1)])) := st
      obtain ⟨r, er, p, v1, v2⟩ := Paired.at_ hrl b.1 ru eru
      have h8r := h8 ru (List.mem_of_getElem? eru)
      have atk : atI (rs.map V.ref) (b.1 : Int) = some (.ref r) := atI_nat (by rw [List.getElem?_map, er]; rfl)
      have no : okB rules ns a ru b.2.1 b.2.2 = false → ∀ H', Same H H' → Q (.bl false) H' := fun z H' s' => by
        rw [inv, st, z, Bool.false_and] at q
        exact q H' s'
      refine ⟨t, _, rfl, s6.tup vt, rfl, _, _, rfl, _, _, rfl, _, _, rfl, _, _, rfl, rfl, ?_⟩
      refine ⟨_, rfl, _, rfl, (by show 2 ≤ sizeLine; decide), fun u1 hu1 => ?_⟩
      have k7 := same_laid hu1 (.tup [V.str ru.1, V.str b.2.1])
      have eu1 : upd H6 u1 (.tup [V.str ru.1, V.str b.2.1]) u1 = some (.tup ([Sum.inr ru.1, Sum.inr b.2.1].map kV)) := upd_same
      generalize upd H6 u1 (.tup [V.str ru.1, V.str b.2.1]) = H7 at k7 eu1
      have s7 := s6.trans k7
      refine ⟨_, rfl, d, _, rfl, DGet.t (k7 _ _ ed) eu1, _, rfl, ?_⟩
      rw [mem_keysT hk]
      refine ite2 (fun c => ?_) (fun c => ?_)
      · refine iteT ?_
        exact no (by unfold okB; rw [c]; rfl) H7 s7
      have c' : decide ((ru.1, b.2.1) ∈ a) = false := by simpa using c
      refine ⟨_, rfl, _, rfl, _, rfl, R, rs, rules, b.1, ru, rfl, s7.seq hR, hrl.same s7, eru, true, rfl, ?_⟩
      refine iteF ?_
      refine ⟨_, rfl, _, rfl, R, _, _, _, rfl, rfl, s7.seq hR, atk, r, _, _, _, rfl, rfl, s7.tup v1, rfl, ?_⟩
      refine ⟨_, rfl, _, rfl, p, _, rfl, .inr (s7.tup v2), b.2.2, (ru.2.map V.str).length, rfl, decide (b.2.2 < (ru.2.map V.str).length), rfl, ?_⟩
      rw [List.length_map]
      cases cl : decide (b.2.2 < ru.2.length) with
      | false =>
        refine iteT ?_
        refine iteT ?_
        exact no (by unfold okB; rw [cl]; simp) H7 s7
      | true =>
      have lb := of_decide_eq_true cl
      refine iteF ?_
      refine ⟨_, rfl, _, rfl, _, rfl, p, _, rfl, s7.tup v2, fun p2 H8 s8 ep2 => ?_⟩
      have cut : cutV (ru.2.map V.str) none (some (b.2.2 : Int)) = (ru.2.take b.2.2).map V.str := by
        unfold cutV
        rw [show HT.sIx (ru.2.map V.str).length 0 none = 0 from rfl, HT.sIx_nat, List.drop_zero, Nat.sub_zero, List.map_take, ← List.take_eq_take_min]
      rw [cut] at ep2
      have s78 := s7.trans s8
      have ed8 := s8 _ _ (k7 _ _ ed)
      have ed18 := s8 _ _ (k7 _ _ ed1)
      have ed28 := s8 _ _ (k7 _ _ ed2)
      refine ⟨p2, rfl, ⟨_, ep2⟩, fun D9 hD9 => comp_isin rfl ep2 (by rw [List.length_take]; omega) ed28 hD9 fun H9 s9 e9 => ?_⟩
      have ce : (List.map (fun z => (valV kv2 (Sum.inr z)).isSome) (ru.2.take b.2.2)).all id = (ru.2.take b.2.2).all fun x => decide (x ∈ ns) := by
        rw [all_map]
        congr 1
        funext z
        exact mk2 z
      have s79 := s78.trans s9
      have ed9 := s9 _ _ ed8
      have ed19 := s9 _ _ ed18
      have ed29 := s9 _ _ ed28
      refine ⟨D9, _, rfl, SqL.of e9, _, rfl, ?_⟩
      rw [ce]
      cases ca : (ru.2.take b.2.2).all fun x => decide (x ∈ ns) with
      | false =>
        refine iteT ?_
        exact no (by unfold okB; rw [ca]; simp) H9 s79
      | true =>
      refine iteF ?_
      have gd : ru.2.getD b.2.2 "" = ru.2[b.2.2] := by rw [List.getD_eq_getElem?_getD, List.getElem?_eq_getElem lb]; rfl
      have atp : atI (ru.2.map V.str) (b.2.2 : Int) = some (.str ru.2[b.2.2]) := atI_nat (by rw [List.getElem?_map, List.getElem?_eq_getElem lb]; rfl)
      have okq : okB rules ns a ru b.2.1 b.2.2 = ((decide (ru.2[b.2.2] = b.2.1) && !decide (b.2.1 ∈ M11.hm rules)) || decide ((ru.2[b.2.2], b.2.1) ∈ a)) := by
        unfold okB
        rw [c', cl, ca, gd]
        rfl
      generalize ru.2[b.2.2] = pt at atp okq
      have fin : ∀ (y : V) (HA : Hp), Same H9 HA → okB rules ns a ru b.2.1 b.2.2 = true → HA d = some (.dT kvs) → HA d1 = some (.dK kv1) → HA d2 = some (.dK kv2) → ∀ u2, HA u2 = none → ∃ (a2 : List (Str × Str)) (kvs2 : List (List Key × V)) (y6 y7 y8 y9 y10 y11 : Option V), [some (.ref R), some (.ref N), some (.ref L), some (.ref d1), some (.ref d2), some (.ref d), some (.str ru.1), some (.str b.2.1), some (.int (b.1 : Int)), some (.int (b.2.2 : Int)), some (.ref p), some y] = [some (.ref R), some (.ref N), some (.ref L), some (.ref d1), some (.ref d2), some (.ref d), y6, y7, y8, y9, y10, y11] ∧ Same H (upd (upd HA u2 (.tup [V.str ru.1, V.str b.2.1])) d (.dT (putK kvs [Sum.inr ru.1, Sum.inr b.2.1] (.bl true)))) ∧ upd (upd HA u2 (.tup [V.str ru.1, V.str b.2.1])) d (.dT (putK kvs [Sum.inr ru.1, Sum.inr b.2.1] (.bl true))) d1 = some (.dK kv1) ∧ upd (upd HA u2 (.tup [V.str ru.1, V.str b.2.1])) d (.dT (putK kvs [Sum.inr ru.1, Sum.inr b.2.1] (.bl true))) d2 = some (.dK kv2) ∧ upd (upd HA u2 (.tup [V.str ru.1, V.str b.2.1])) d (.dT (putK kvs [Sum.inr ru.1, Sum.inr b.2.1] (.bl true))) d = some (.dT kvs2) ∧ kvs2.map (·.1) = a2.map kP ∧ kvs2.length ≤ i + 1 ∧ stB rules ns bs [] = stB rules ns (bs.drop (i + 1)) a2 := fun y HA sA okt eA eA1 eA2 u2 hu2 => by
        have kk := same_laid hu2 (.tup [V.str ru.1, V.str b.2.1])
        have nin : ¬ ([Sum.inr ru.1, Sum.inr b.2.1] : List Key) ∈ kvs.map (·.1) := by rw [hk]; exact fun z => (by simpa using c' : (ru.1, b.2.1) ∉ a) (kP_mem.mp z)
        refine ⟨a ++ [(ru.1, b.2.1)], _, _, _, _, _, _, _, rfl, fun c o hb => ?_, ?_, ?_, upd_same, ?_, ?_, ?_⟩
        · rw [upd_ne (fun z => by rw [z, fd0] at hb; cases hb)]; exact kk _ _ (sA _ _ (s79 c o hb))
        · rw [upd_ne nd1]; exact kk _ _ eA1
        · rw [upd_ne nd2]; exact kk _ _ eA2
        · rw [put_outG nin, hk, List.map_append]; rfl
        · have := congrArg List.length (put_outG (v := .bl true) nin)
          rw [List.length_map, List.length_append, List.length_map, List.length_singleton] at this
          omega
        · rw [inv, st, okt]; rfl
      refine ⟨fun σ HA => ∃ itb : Bool, H9 = HA ∧ itb = (decide (pt = b.2.1) && !decide (b.2.1 ∈ M11.hm rules)) ∧ σ = [some (.ref R), some (.ref N), some (.ref L), some (.ref d1), some (.ref d2), some (.ref d), some (.str ru.1), some (.str b.2.1), some (.int (b.1 : Int)), some (.int (b.2.2 : Int)), some (.ref p), some (.bl itb)], ?_, ?_⟩
      · refine ⟨_, rfl, _, rfl, p, _, _, _, rfl, rfl, s79.tup v2, atp, _, rfl, rfl, decide (V.str pt = V.str b.2.1), rfl, ?_⟩
        have dv : decide (V.str pt = V.str b.2.1) = decide (pt = b.2.1) := by
          by_cases c : pt = b.2.1
          · rw [c, decide_eq_true rfl, decide_eq_true rfl]
          · rw [decide_eq_false c, decide_eq_false (fun z => c (by injection z))]
        rw [dv]
        refine ite2 (fun c1 => ?_) (fun c1 => ?_)
        · refine ⟨_, rfl, _, rfl, d1, _, rfl, DGet.k (k := Sum.inr b.2.1) ed19, ?_⟩
          refine ⟨_, rfl, ?_, rfl⟩
          rw [c1, mk1]
          rfl
        · refine ⟨_, rfl, ?_, rfl⟩
          have c1' : decide (pt = b.2.1) = false := by simpa using c1
          rw [c1']
          rfl
      rintro σ HA ⟨itb, rfl, eit, rfl⟩
      refine ⟨_, rfl, itb, rfl, ?_⟩
      cases itb with
      | true =>
        refine iteF ?_
        refine iteF ?_
        have okt : okB rules ns a ru b.2.1 b.2.2 = true := by rw [okq, ← eit]; rfl
        refine ⟨_, rfl, _, rfl, _, rfl, (by show 2 ≤ sizeLine; decide), fun u2 hu2 => ?_⟩
        refine ⟨d, _, rfl, DPut.t (k := [Sum.inr ru.1, Sum.inr b.2.1]) ((same_laid hu2 _) _ _ ed9) upd_same (fits' (by omega)), ?_⟩
        exact fin _ H9 (Same.refl _) okt ed9 ed19 ed29 u2 hu2
      | false =>
        refine iteT ?_
        refine ⟨_, rfl, _, rfl, p, _, _, _, rfl, rfl, s79.tup v2, atp, _, rfl, (by show 2 ≤ sizeLine; decide), fun u2 hu2 => ?_⟩
        have kA := same_laid hu2 (.tup [V.str pt, V.str b.2.1])
        have eu2 : upd H9 u2 (.tup [V.str pt, V.str b.2.1]) u2 = some (.tup ([Sum.inr pt, Sum.inr b.2.1].map kV)) := upd_same
        generalize upd H9 u2 (.tup [V.str pt, V.str b.2.1]) = HA at kA eu2
        refine ⟨_, rfl, d, _, rfl, DGet.t (kA _ _ ed9) eu2, _, rfl, ?_⟩
        rw [mem_keysT hk]
        cases cm : decide ((pt, b.2.1) ∈ a) with
        | false =>
          refine iteT ?_
          exact no (by rw [okq, ← eit, cm]; rfl) HA (s79.trans kA)
        | true =>
          refine iteF ?_
          have okt : okB rules ns a ru b.2.1 b.2.2 = true := by rw [okq, cm, Bool.or_true]
          refine ⟨_, rfl, _, rfl, _, rfl, (by show 2 ≤ sizeLine; decide), fun u3 hu3 => ?_⟩
          refine ⟨d, _, rfl, DPut.t (k := [Sum.inr ru.1, Sum.inr b.2.1]) ((same_laid hu3 _) _ _ (kA _ _ ed9)) upd_same (fits' (by omega)), ?_⟩
          exact fin _ HA kA okt (kA _ _ ed9) (kA _ _ ed19) (kA _ _ ed29) u3 hu3
    · rintro σ H6 ⟨a, kvs, y6, y7, y8, y9, y10, y11, rfl, s6, ed1, ed2, ed, hk, lk, inv⟩
      rw [List.length_map, ltb, List.drop_length] at inv
      rw [inv] at q
      exact q H6 s6
end
end K11
namespace L2
open PySem
theorem comp_freshD {K : PySem.W.Frag} {H : Hp} {p D : Addr} {zs : List Str} {σ : St} {x : Str} {Qp : Hp → Prop} (hp : SqL K H p (zs.map V.str)) (hz : zs.length ≤ 10000) (hD : H D = none)
    (q : ∀ ts (ps : List (Str × Addr)) H2, Same H H2 → H2 D = some (.lst (ts.map V.ref)) → ps.map (·.1) = zs → Paired (fun t (p : Str × Addr) => SqT K H2 t [.str p.1, .ref p.2]) ts ps → (∀ p ∈ ps, H2 p.2 = some (.dK []) ∧ H p.2 = none ∧ p.2 ≠ D) → (ps.map (·.2)).Nodup → Qp H2) :
    ∃ W : Nat → Nat → List V → St → Hp → Prop, (∃ m, W 0 m [] (capS [x] [] σ) (upd H D (.lst []))) ∧
  ∀ i m ys σ' H, W i m ys σ' H → ((Itl K p).stop i H ∧ Qp H) ∨ ((Itl K p).go i H ∧ ∃ m', m' < m ∧ ∀ x H', (Itl K p).yld i H x H' → gName 0 x σ' H' fun σ2 H2 => tTrue σ2 H2 fun b H3 =>
    if b = true then tTup (tCons (tVar 0) (tCons (tDNewK) tNil)) σ2 H3 fun y H4 => H4 D = some (.lst ys) ∧ ys.length < sizeLine ∧ W (i + 1) m' (ys ++ [y]) σ2 (upd H4 D (.lst (ys ++ [y]))) else W (i + 1) m' ys σ2 H3) := by
  refine compG_list (xs := zs.map V.str) (fun i ys σ2 H2 => ∃ (ts : List Addr) (ps : List (Str × Addr)), ys = ts.map V.ref ∧ ts.length = i ∧ ps.map (·.1) = zs.take i ∧ Paired (fun t (p : Str × Addr) => SqT K H2 t [.str p.1, .ref p.2]) ts ps ∧
      (∀ p ∈ ps, H2 p.2 = some (.dK []) ∧ H p.2 = none ∧ p.2 ≠ D) ∧ (ps.map (·.2)).Nodup ∧ (∃ y0, σ2 = [y0]) ∧ Same H H2 ∧ H2 D = some (.lst ys))
    ⟨[], [], rfl, rfl, rfl, .nil, by simp, by simp, ⟨none, rfl⟩, same_laid hD _, upd_same⟩ (fun i ys σ2 H2 _ h => ?_) (fun i x ys σ2 H2 ex h => ?_) (fun ys σ2 H2 h => ?_)
  · obtain ⟨_, _, _, _, _, _, _, _, _, sm, _⟩ := h
    exact sm.seq hp
  · obtain ⟨ts, ps, rfl, ht, hm, hpp, hl, hn, ⟨y0, rfl⟩, sm, hd⟩ := h
    rw [List.getElem?_map] at ex
    obtain ⟨z, ez, rfl⟩ := Option.map_eq_some_iff.mp ex
    have li := (List.getElem?_eq_some_iff.mp ez).1
    refine goN (goT ?_)
    refine ⟨_, rfl, fun l hl2 => ⟨(by show 2 ≤ sizeLine; decide), fun t ht2 => ?_⟩⟩
    have nlD : l ≠ D := (ne_of_none hd hl2).symm
    have nt : t ≠ l := fun e => by rw [e, upd_same] at ht2; cases ht2
    have ht3 : H2 t = none := by rw [upd_ne nt] at ht2; exact ht2
    have ntD : t ≠ D := (ne_of_none hd ht3).symm
    have sm2 : Same H2 (upd (upd H2 l (.dK [])) t (.tup [.str z, .ref l])) := (same_laid hl2 _).trans (same_laid ht2 _)
    have hd3 := sm2 _ _ hd
    have el : upd (upd H2 l (.dK [])) t (.tup [.str z, .ref l]) l = some (.dK []) := by rw [upd_ne nt.symm, upd_same]
    have et : SqT K (upd (upd H2 l (.dK [])) t (.tup [.str z, .ref l])) t [.str z, .ref l] := SqT.of upd_same
    generalize upd (upd H2 l (.dK [])) t (.tup [.str z, .ref l]) = H4 at sm2 hd3 el et
    refine ⟨hd3, fits' (by rw [List.length_map]; omega), ts ++ [t], ps ++ [(z, l)], by rw [List.map_append]; rfl, by rw [List.length_append, ht]; rfl, by rw [List.map_append, hm, List.take_add_one, ez]; rfl, ?_, ?_, ?_, ⟨_, rfl⟩, ?_, upd_same⟩
    · exact Paired.snoc (Paired.mapP hpp fun t' h' z => sqt_upd hd3 (sm2.tup z)) (sqt_upd hd3 et)
    · intro p' hp'
      rcases List.mem_append.mp hp' with h | h
      · obtain ⟨a1, a2, a3⟩ := hl p' h
        exact ⟨by rw [upd_ne a3]; exact sm2 _ _ a1, a2, a3⟩
      · rw [List.mem_singleton.mp h]
        exact ⟨by rw [upd_ne nlD]; exact el, sm.free hl2, nlD⟩
    · rw [List.map_append]
      refine List.nodup_append.mpr ⟨hn, by simp, fun a ha b hb e => ?_⟩
      rw [List.map_singleton, List.mem_singleton] at hb
      obtain ⟨p', hp', rfl⟩ := List.mem_map.mp ha
      have := (hl p' hp').1
      rw [e, hb] at this
      rw [show H2 l = none from hl2] at this
      cases this
    · intro b o hb
      rw [upd_ne (fun z => by rw [z, hD] at hb; cases hb)]
      exact sm2 _ _ (sm b o hb)
  · obtain ⟨ts, ps, rfl, ht, hm, hpp, hl, hn, _, sm, hd⟩ := h
    rw [List.length_map, List.take_length] at hm
    exact q ts ps H2 sm hd hm hpp hl hn
end L2
namespace K11
open PySem L2 M11
def kvA (p : Str × Addr) : Key × V := (Sum.inr p.1, .ref p.2)
theorem fill_nd : ∀ (ps acc : List (Key × V)), ((acc ++ ps).map (·.1)).Nodup → fillK ps acc = acc ++ ps
  | [], acc, _ => by simp [fillK]
  | p :: r, acc, h => by
    have n : valV acc p.1 = none := by
      cases e : valV acc p.1 with
      | none => rfl
      | some v =>
        have hm := (val_mem acc p.1).mp (by rw [e]; rfl)
        rw [List.map_append, List.map_cons] at h
        exact absurd rfl ((List.nodup_append.mp h).2.2 p.1 hm p.1 List.mem_cons_self)
    show fillK r (putK acc p.1 p.2) = _
    rw [putK_new p.2 n, fill_nd r (acc ++ [(p.1, p.2)]) (by rw [List.append_assoc]; exact h), List.append_assoc]
    rfl
theorem val_ps : ∀ (ps : List (Str × Addr)), (ps.map (·.1)).Nodup → ∀ p ∈ ps, valV (ps.map kvA) (Sum.inr p.1) = some (.ref p.2)
  | q :: r, h, p, hp => by
    rw [List.map_cons] at h ⊢
    rcases List.mem_cons.mp hp with z | z
    · rw [z]; exact valV_pos rfl
    · rw [valV_neg, val_ps r (List.nodup_cons.mp h).2 p z]
      intro e
      have e' : q.1 = p.1 := Sum.inr.inj e
      exact (List.nodup_cons.mp h).1 (by rw [e']; exact List.mem_map_of_mem z)
theorem keys_ps (ps : List (Str × Addr)) : (ps.map kvA).map (·.1) = (ps.map (·.1)).map Sum.inr := by
  rw [List.map_map, List.map_map]; rfl
theorem nd_inr {l : List Str} (h : l.Nodup) : (l.map (Sum.inr : Str → Key)).Nodup := List.Pairwise.map _ (fun a b hab e => hab (Sum.inr.inj e)) h
theorem ded_ndB : ∀ (hs : List Str) {acc : List Str}, acc.Nodup → (ded acc hs).Nodup
  | [], _, h => h
  | x :: hs, acc, h => by
    show (ded (add1 acc x) hs).Nodup
    refine ded_ndB hs ?_
    unfold add1
    by_cases c : x ∈ acc
    · rw [if_pos c]; exact h
    · rw [if_neg c]; exact nodup_snoc h c
theorem nd_fst {ps : List (Str × Addr)} (h : (ps.map (·.1)).Nodup) {p q : Str × Addr} (hp : p ∈ ps) (hq : q ∈ ps) (e : p.1 = q.1) : p = q := by
  obtain ⟨i, hi⟩ := List.getElem?_of_mem hp
  obtain ⟨j, hj⟩ := List.getElem?_of_mem hq
  have li := (List.getElem?_eq_some_iff.mp hi).1
  have h1 : (ps.map (·.1))[i]? = some p.1 := by rw [List.getElem?_map, hi]; rfl
  have h2 : (ps.map (·.1))[j]? = some p.1 := by rw [List.getElem?_map, hj, e]; rfl
  have := (List.getElem?_inj (by rw [List.length_map]; exact li) h).mp (h1.trans h2.symm)
  rw [this, hj] at hi
  exact (Option.some.inj hi).symm
theorem nd_snd {ps : List (Str × Addr)} (h : (ps.map (·.2)).Nodup) {p q : Str × Addr} (hp : p ∈ ps) (hq : q ∈ ps) (e : p.2 = q.2) : p = q := by
  obtain ⟨i, hi⟩ := List.getElem?_of_mem hp
  obtain ⟨j, hj⟩ := List.getElem?_of_mem hq
  have li := (List.getElem?_eq_some_iff.mp hi).1
  have h1 : (ps.map (·.2))[i]? = some p.2 := by rw [List.getElem?_map, hi]; rfl
  have h2 : (ps.map (·.2))[j]? = some p.2 := by rw [List.getElem?_map, hj, e]; rfl
  have := (List.getElem?_inj (by rw [List.length_map]; exact li) h).mp (h1.trans h2.symm)
  rw [this, hj] at hi
  exact (Option.some.inj hi).symm
abbrev sTold : Stmt := top 9
section
variable {P : Program} {w : World} {K : PySem.W.Frag} {mg : Str → Option Value} {base : Heap} {f : Addr} {fd : FuncData}
structure WT (H : Hp) (hs : List Str) (prs : List (Str × Str)) (d : Addr) (ps : List (Str × Addr)) : Prop where
  hd : H d = some (.dK (ps.map kvA))
  nm : ps.map (·.1) = hs
  n1 : (ps.map (·.1)).Nodup
  n2 : (ps.map (·.2)).Nodup
  inn : ∀ p ∈ ps, p.2 ≠ d ∧ ∃ (kw : List (Key × V)) (ws : List Str), H p.2 = some (.dK kw) ∧ kw.map (·.1) = ws.map Sum.inr ∧ (∀ z, z ∈ ws ↔ (p.1, z) ∈ prs) ∧ ws.length ≤ prs.length
theorem WT.same {H H' : Hp} {hs : List Str} {prs : List (Str × Str)} {d : Addr} {ps : List (Str × Addr)} (h : WT H hs prs d ps) (s : Same H H') : WT H' hs prs d ps :=
  ⟨s _ _ h.hd, h.nm, h.n1, h.n2, fun p hp => let ⟨a, kw, ws, b, c⟩ := h.inn p hp; ⟨a, kw, ws, s _ _ b, c⟩⟩
def PrV (K : PySem.W.Frag) (H : Hp) (t : Addr) (p : Str × Str) : Prop := SqT K H t [.str p.1, .str p.2]
def spTold (K : PySem.W.Frag) : Sp := fun vs H Q _ => ∃ (R L : Addr) (rs ts : List Addr) (rules : List Rule) (prs : List (Str × Str)), vs = [.ref R, .ref L] ∧ SqL K H R (rs.map V.ref) ∧ Rules K H rs rules ∧ rules.length ≤ 1000 ∧ SqL K H L (ts.map V.ref) ∧ Paired (PrV K H) ts prs ∧ prs.length ≤ 1000 ∧ ∀ d ps H', H d = none → Same H H' → WT H' (ded [] (rules.map (·.1))) prs d ps → (∀ p ∈ ps, H p.2 = none) → Q (.ref d) H'
theorem scTold : FnScope ["rules", "pairs", "told", "name", "word"] ["rules", "pairs"] (defScope sTold) := ⟨rfl, rfl, rfl, by decide +kernel, rfl, by decide +kernel, by decide +kernel⟩
theorem ok_told (F : Fun K "words_told" "words_told" sTold f fd) (T : Txt mg) (GH : CalleeD P w K mg base 2 "heads_of" ["rules"] (spHeads K)) : FnOk P w K mg base CX0 3 f fd ["rules", "pairs"] (spTold K) := by
  refine F.ok scTold (fun vs H Q E h => ?_) (fun cdv A outer s H vs Q E hr h => ?_)
  · obtain ⟨R, L, rs, ts, rules, prs, rfl, _⟩ := h; rfl
  · obtain ⟨R, L, rs, ts, rules, prs, rfl, hR, hrl, hlen, hL, hpr, hpl, q⟩ := h
    have hu := hu_of hr
    refine ⟨_, pss_cons (ps_set (i := 2) scTold.nd rfl (Or.inl rfl) (pe_callTy (call_dictP rfl) rfl T.dct boot_dct (pa_cons (pe_compG ["name"] [] rfl (pi_list (pe_fn GH hr rfl (pa_cons (pv 0) pa_nil))) (caps_of rfl rfl) (by decide +kernel) rfl (by decide +kernel)
          (fun _ _ _ _ _ => pg_name (i := 0) (show (["name"] : List Str).Nodup by decide +kernel) rfl (Or.inl rfl)) (fun _ _ _ _ _ => pif_nil) (fun _ _ _ _ _ => pe_tup (pa_cons (pv 0) (pa_cons pe_dnewK pa_nil)))) pa_nil)))
      (pss_cons (ps_for PassesOwn.never rfl (pi_list (pv 1)) (pg_tup rfl (pgs_cons (pg_name (i := 3) scTold.nd rfl (Or.inl rfl)) (pgs_cons (pg_name (i := 4) scTold.nd rfl (Or.inl rfl)) pgs_nil)))
        (pss_one (ps_if (pt_cmp (pc_din hu (pv 3) (pv 2))) (pss_one (ps_dput hu (pe_dget hu (pv 2) (pv 3) (fun _ _ => rfl)) (pv 4) pe_bl rfl)) pss_nil)))
      (pss_one (ps_ret (pv 2)))), ?_⟩
    have ll := Paired.length hrl
    have lpr := Paired.length hpr
    refine ⟨_, rfl, R, rs, rules, rfl, hR, hrl, hlen, fun D0 H0 f0 s0 e0 => ?_⟩
    have lded := ded_len (rules.map (·.1)) []
    rw [List.length_nil, List.length_map] at lded
    refine ⟨D0, rfl, ⟨_, SqL.of e0⟩, fun D1 hD1 => comp_freshD (SqL.of e0) (by omega) hD1 fun t1 ps H1 s1 eD1 m1 pr1 l1 n1 => ?_⟩
    have nh : (ps.map (·.1)).Nodup := by rw [m1]; exact ded_ndB _ List.nodup_nil
    have kp : Paired (fun t (kv : Key × V) => SqT K H1 t [kV kv.1, kv.2]) t1 (ps.map kvA) := paired_mapR pr1 fun _ _ z => z
    refine ⟨D1, t1, _, rfl, eD1, kp, fun d hd0 => ?_⟩
    have ek : fillK (ps.map kvA) [] = ps.map kvA := fill_nd _ [] (by
      rw [List.nil_append, keys_ps]
      exact nd_inr nh)
    rw [ek]
    have k2 := same_laid hd0 (.dK (ps.map kvA))
    have fps : ∀ p ∈ ps, H p.2 = none := fun p hp => s0.free (l1 p hp).2.1
    have fd0 : H d = none := (s0.trans s1).free hd0
    have W0 : WT (upd H1 d (.dK (ps.map kvA))) (ded [] (rules.map (·.1))) [] d ps := ⟨upd_same, m1, nh, n1, fun p hp => ⟨(fun z => by rw [← z, (l1 p hp).1] at hd0; cases hd0), [], [], k2 _ _ (l1 p hp).1, rfl, by simp, by simp⟩⟩
    have s2 := (s0.trans s1).trans k2
    generalize upd H1 d (.dK (ps.map kvA)) = H2 at W0 s2
    refine ⟨_, rfl, L, rfl, ⟨_, s2.seq hL⟩, ?_⟩
    refine for_list (xs := ts.map V.ref) (fun i σ H5 => ∃ (y3 y4 : Option V), σ = [some (.ref R), some (.ref L), some (.ref d), y3, y4] ∧ Same H H5 ∧ WT H5 (ded [] (rules.map (·.1))) (prs.take i) d ps) ⟨none, none, rfl, s2, W0⟩ ?_ ?_ ?_
    · rintro i σ H5 _ ⟨y3, y4, rfl, s5, _⟩
      exact s5.seq hL
    · rintro i x σ H5 ex ⟨y3, y4, rfl, s5, W⟩
      rw [List.getElem?_map] at ex
      obtain ⟨t, et, rfl⟩ := Option.map_eq_some_iff.mp ex
      have li := (List.getElem?_eq_some_iff.mp et).1
      obtain ⟨b, eb⟩ : ∃ b, prs[i]? = some b := ⟨prs[i]'(by omega), List.getElem?_eq_getElem (by omega)⟩
      obtain ⟨t', et', vt⟩ := Paired.at_ hpr i b eb
      rw [et] at et'
      cases et'
      have tk : prs.take (i + 1) = prs.take i ++ [b] := by rw [List.take_add_one, eb]; rfl
      refine ⟨t, _, rfl, s5.tup vt, rfl, _, _, rfl, _, _, rfl, rfl, ?_⟩
      refine ⟨_, rfl, _, rfl, d, _, rfl, DGet.k (k := Sum.inr b.1) W.hd, _, rfl, ?_⟩
      have mk := mem_keys (keys_ps ps) b.1
      rw [mk]
      refine ite2 (fun c => ?_) (fun c => ?_)
      · have hb := of_decide_eq_true c
        obtain ⟨p, hp, ep⟩ := List.mem_map.mp hb
        obtain ⟨npd, kw, ws, ekw, hkw, mw, lw⟩ := W.inn p hp
        have vp := val_ps ps W.n1 p hp
        rw [ep] at vp
        have dg : DGet H5 d (.str b.1) (some (.ref p.2)) := by
          have h1 := DGet.k (k := Sum.inr b.1) W.hd
          rw [vp] at h1
          exact h1
        have lkw : kw.length = ws.length := by have := congrArg List.length hkw; rw [List.length_map, List.length_map] at this; exact this
        have ltk : (prs.take i).length ≤ 1000 := by rw [List.length_take]; omega
        refine ⟨_, rfl, _, rfl, d, _, rfl, dg, _, rfl, p.2, _, rfl, DPut.k (k := Sum.inr b.2) ekw (fits' (by omega)), ?_⟩
        have fp : H p.2 = none := fps p hp
        refine ⟨_, _, rfl, fun c o hc => ?_, ?_, W.nm, W.n1, W.n2, fun p2 hp2 => ?_⟩
        · rw [upd_ne (fun z => by rw [z, fp] at hc; cases hc)]; exact s5 c o hc
        · rw [upd_ne (Ne.symm npd)]; exact W.hd
        obtain ⟨npd2, kw2, ws2, ekw2, hkw2, mw2, lw2⟩ := W.inn p2 hp2
        refine ⟨npd2, ?_⟩
        by_cases ce : p2.2 = p.2
        · have e12 : p2 = p := nd_snd W.n2 hp2 hp ce
          subst e12
          by_cases cb : b.2 ∈ ws
          · refine ⟨_, ws, upd_same, ?_, fun z => ?_, by rw [tk, List.length_append]; omega⟩
            · rw [put_in (by rw [hkw]; exact inr_mem.mpr cb), hkw]
            · rw [mw, tk, List.mem_append, List.mem_singleton]
              refine ⟨.inl, fun h => h.elim id fun e => ?_⟩
              have e2 : z = b.2 := by rw [← e]
              rw [e2]
              exact (mw b.2).mp cb
          · refine ⟨_, ws ++ [b.2], upd_same, ?_, fun z => ?_, by rw [tk, List.length_append, List.length_append, List.length_singleton, List.length_singleton]; omega⟩
            · rw [put_out (by rw [hkw]; exact fun z => cb (inr_mem.mp z)), hkw, List.map_append]; rfl
            · rw [tk, List.mem_append, List.mem_append, List.mem_singleton, List.mem_singleton, mw]
              refine ⟨fun h => h.elim .inl fun e => .inr (by rw [e, ep]), fun h => h.elim .inl fun e => .inr (by rw [← e])⟩
        · refine ⟨kw2, ws2, by rw [upd_ne ce]; exact ekw2, hkw2, fun z => ?_, by rw [tk, List.length_append]; omega⟩
          rw [mw2, tk, List.mem_append, List.mem_singleton]
          refine ⟨.inl, fun h => h.elim id fun e => ?_⟩
          have e1 : p2.1 = p.1 := by rw [ep, ← e]
          exact absurd (congrArg (·.2) (nd_fst W.n1 hp2 hp e1)) ce
      · have hb : b.1 ∉ ps.map (·.1) := fun z => c (decide_eq_true z)
        refine ⟨_, _, rfl, s5, W.hd, W.nm, W.n1, W.n2, fun p hp => ?_⟩
        obtain ⟨npd, kw, ws, ekw, hkw, mw, lw⟩ := W.inn p hp
        refine ⟨npd, kw, ws, ekw, hkw, fun z => ?_, by rw [tk, List.length_append]; omega⟩
        rw [mw, tk, List.mem_append, List.mem_singleton]
        refine ⟨.inl, fun h => h.elim id fun e => ?_⟩
        exact absurd (List.mem_map.mpr ⟨p, hp, by rw [← e]⟩) hb
    · rintro σ H5 ⟨y3, y4, rfl, s5, W⟩
      rw [List.length_map, lpr, List.take_length] at W
      exact ⟨_, rfl, q d ps H5 fd0 s5 W fps⟩
end
end K11
namespace L2
open PySem PySem.Spec PyProof.Rows
theorem call_minS {X : Cx} (hc : X.calm = true) : CallR X (.builtin "min") (fun xs H Q => ∃ a zs, xs = [.ref a] ∧ SqL X.K H a (List.map V.str zs) ∧ zs ≠ [] ∧ ∀ z ∈ zs, Q (.str z) H) := by
  intro pins s σ H xs us Q I r h
  obtain ⟨a, zs, rfl, hq, ne, q⟩ := h
  obtain ⟨u, rfl, rx⟩ := vals1 r
  cases (show u = Value.ref a from rx)
  obtain ⟨its, rv, pl, hz⟩ := I.list hq
  have hh := I.ok.hd hc
  have sa := strs_are rv
  have hlen := rv.length
  rw [List.length_map] at hlen
  have hl1 := pl.isList
  have la : a < s.heap.objs.size := by obtain ⟨o, ho, _⟩ := hl1; exact Heap.lt_size ho
  refine call_min_walk (wpAny_pyIter_list hl1 ?_)
  refine ⟨_, _, _, _, _, _, fun i j => decide ((zs.getD i "").cps.toList < (zs.getD j "").cps.toList), rfl, Walks.list (by simp [hh]) _ a (Nat.ne_of_lt la) its.toArray, ⟨⟨_, Heap.get?_push_size _ rfl, rfl, rfl⟩, hl1.push _⟩, ?_, ?_, ?_, ?_⟩
  · intro b hb
    rw [Heap.size_push]
    simp only [List.mem_cons, List.not_mem_nil, or_false] at hb
    rcases hb with rfl | rfl
    · exact Nat.lt_succ_self _
    · exact Nat.lt_succ_of_lt la
  · simp only [List.size_toArray]
    cases zs with
    | nil => exact absurd rfl ne
    | cons z r => rw [List.length_cons] at hlen; omega
  · intro i j vi vj s' Q' E' hi hj hQ
    obtain ⟨t, rfl⟩ := strs_ix sa i vi (by rw [← List.getElem?_toArray]; exact hi)
    obtain ⟨t', rfl⟩ := strs_ix sa j vj (by rw [← List.getElem?_toArray]; exact hj)
    first | exact lt_str hQ | exact PySem.StrOps.lt_str hQ | exact PyProof.lt_str hQ | exact PyProof.Rows.lt_str hQ
  · intro v h' tk hv hk
    generalize argBest (fun i j => decide ((zs.getD i "").cps.toList < (zs.getD j "").cps.toList)) (its.toArray.size - 1) = k at hv
    have hv2 : its[k]? = some v := by rw [← List.getElem?_toArray]; exact hv
    have lk := (List.getElem?_eq_some_iff.mp hv2).1
    obtain ⟨t, rfl⟩ := strs_ix sa _ v hv2
    have lz : k < zs.length := by omega
    have ez : zs.getD k "" = zs[k] := by rw [List.getD_eq_getElem?_getD, List.getElem?_eq_getElem lz]; rfl
    rw [ez]
    refine ⟨.str zs[k], H, I.kept (t' := tk) (fun b o e => hk b o ?_ (Heap.get?_push_of_some _ e)), ⟨_, rfl⟩, q _ (List.getElem_mem lz)⟩
    have lb := Heap.lt_size e
    simp only [List.mem_cons, List.not_mem_nil, or_false]
    exact Nat.ne_of_lt lb
end L2
namespace K11
open PySem L2 M11
abbrev sBLack : Stmt := top 8
def ClR (rules : List Rule) (ns : List Str) (P : List (Str × Str)) (ru : Rule) (n : Nat) : Prop := ∀ pl p, pl < n → ru.2[pl]? = some p → Op ns ru pl → (p ∉ M11.hm rules → (ru.1, p) ∈ P) ∧ (p ∈ M11.hm rules → ∀ w, (p, w) ∈ P → (ru.1, w) ∈ P)
section
variable {P : Program} {w : World} {K : PySem.W.Frag} {mg : Str → Option Value} {base : Heap} {f : Addr} {fd : FuncData}
def spBLack (K : PySem.W.Frag) : Sp := fun vs H Q _ => ∃ (R N L : Addr) (rs ts : List Addr) (rules : List Rule) (ns : List Str) (prs : List (Str × Str)), vs = [.ref R, .ref N, .ref L] ∧ SqL K H R (rs.map V.ref) ∧ Rules K H rs rules ∧ rules.length ≤ 1000 ∧ (∀ ru ∈ rules, ru.2.length ≤ 8) ∧ SqL K H N (ns.map V.str) ∧ ns.length ≤ 1000 ∧ SqL K H L (ts.map V.ref) ∧ Paired (PrV K H) ts prs ∧ prs.length ≤ 1000 ∧ ∀ H', Same H H' → (ClB rules ns prs → Q .non H') ∧ (¬ ClB rules ns prs → ∀ t, Q (.ref t) H')
theorem scBLack : FnScope ["rules", "names", "pairs", "empty", "told", "number", "rule", "place", "part", "words", "lacking"] ["rules", "names", "pairs"] (defScope sBLack) := ⟨rfl, rfl, rfl, by decide +kernel, rfl, by decide +kernel, by decide +kernel⟩
theorem ok_bLack (F : Fun K "begins_lack" "begins_lack" sBLack f fd) (T : Txt mg) (GT : CalleeD P w K mg base 3 "words_told" ["rules", "pairs"] (spTold K)) : FnOk P w K mg base CX0 4 f fd ["rules", "names", "pairs"] (spBLack K) := by
  refine F.ok scBLack (fun vs H Q E h => ?_) (fun cdv A outer s H vs Q E hr h => ?_)
  · obtain ⟨R, N, L, rs, ts, rules, ns, prs, rfl, _⟩ := h; rfl
  · obtain ⟨R, N, L, rs, ts, rules, ns, prs, rfl, hR, hrl, hlen, h8, hN, hnl, hL, hpr, hpl, q⟩ := h
    have hu := hu_of hr
    refine ⟨_, pss_cons (ps_set (i := 3) scBLack.nd rfl (Or.inl rfl) (pe_callTy (call_dictP rfl) rfl T.dct boot_dct (pa_cons (pe_compG ["name"] [] rfl (pi_list (pv 1)) (caps_of rfl rfl) (by decide +kernel) rfl (by decide +kernel)
          (fun _ _ _ _ _ => pg_name (i := 0) (show (["name"] : List Str).Nodup by decide +kernel) rfl (Or.inl rfl)) (fun _ _ _ _ _ => pif_nil) (fun _ _ _ _ _ => pe_tup (pa_cons (pv 0) (pa_cons pe_bl pa_nil)))) pa_nil)))
      (pss_cons (ps_set (i := 4) scBLack.nd rfl (Or.inr rfl) (pe_fn GT hr rfl (pa_cons (pv 0) (pa_cons (pv 2) pa_nil))))
      (pss_cons (ps_for PassesOwn.never rfl (pi_enum rfl T.enu (pa_cons (pv 0) pa_nil)) (pg_tup rfl (pgs_cons (pg_name (i := 5) scBLack.nd rfl (Or.inl rfl)) (pgs_cons (pg_name (i := 6) scBLack.nd rfl (Or.inr rfl)) pgs_nil)))
        (pss_one (ps_for PassesOwn.never rfl (pi_enumT rfl T.enu (pa_cons (pe_ix ix_tup (pv 6) pe_int (fun _ _ => rfl)) pa_nil)) (pg_tup rfl (pgs_cons (pg_name (i := 7) scBLack.nd rfl (Or.inl rfl)) (pgs_cons (pg_name (i := 8) scBLack.nd rfl (Or.inl rfl)) pgs_nil)))
          (pss_cons (ps_cutS (ps_set (i := 9) scBLack.nd rfl (Or.inl rfl) (pe_ifExp (pt_cmp (pc_din hu (pv 8) (pv 4))) (pe_callTy (call_listD rfl) rfl T.lst boot_lst (pa_cons (pe_dget hu (pv 4) (pv 8) (fun _ _ => rfl)) pa_nil)) (pe_lst (pa_cons (pv 8) pa_nil)))))
          (pss_cons (ps_setC (iy := 10) ["word"] [(4, "told"), (6, "rule")] scBLack.nd rfl rfl rfl (pi_list (pv 9)) (caps_of rfl rfl) (by decide +kernel) rfl (by decide +kernel)
            (fun _ _ _ _ _ => pg_name (i := 0) (show (["word", "told", "rule"] : List Str).Nodup by decide +kernel) rfl (Or.inl rfl)) (fun _ _ _ _ _ => pif_one (pt_cmp (pc_dnotin hu (pv 0) (pe_dget hu (pv 1) (pe_ix (ix_tupK K) (pv 2) pe_int (fun _ _ => rfl)) (fun _ _ => rfl))))) (fun _ _ _ _ _ => pv 0))
          (pss_cons (ps_if (pt_truth (pv 10) (fun _ => rfl)) (pss_one (ps_ret (pe_tup (pa_cons (pv 5) (pa_cons (pv 7) (pa_cons (pe_callB (call_minS rfl) rfl T.min PyProof.Rows.boot_min (pa_cons (pv 10) pa_nil)) pa_nil)))))) pss_nil)
          (pss_one (ps_if (pt_cmp (pc_dnotin hu (pv 8) (pv 3))) (pss_one ps_break) pss_nil))))))))
      (pss_one (ps_ret pe_non)))), ?_⟩
    have ll := Paired.length hrl
    refine ⟨_, rfl, N, rfl, ⟨_, hN⟩, fun D1 hD1 => comp_true hN hnl hD1 fun t1 H1 s1 eD1 pr1 => ?_⟩
    refine ⟨D1, t1, _, rfl, eD1, pr1, fun d1 hd1 => ?_⟩
    have hk1 := keys_ded ns [] [] rfl
    generalize fillK (ns.map fun z => ((Sum.inr z : Key), V.bl true)) [] = kv1 at hk1
    have mk1 : ∀ z, (valV kv1 (Sum.inr z)).isSome = decide (z ∈ ns) := fun z => by
      rw [mem_keys hk1, Bool.eq_iff_iff, decide_eq_true_iff, decide_eq_true_iff, ded_memB]
      simp
    have s2 := s1.trans (same_laid hd1 (.dK kv1))
    have e2 : upd H1 d1 (.dK kv1) d1 = some (.dK kv1) := upd_same
    generalize upd H1 d1 (.dK kv1) = H2 at s2 e2
    refine ⟨_, rfl, _, rfl, R, L, rs, ts, rules, prs, rfl, s2.seq hR, hrl.same s2, hlen, s2.seq hL, Paired.mapP hpr (fun _ _ z => s2.tup z), hpl, fun d ps H3 fd3 s3 W3 fps => ?_⟩
    have s03 := s2.trans s3
    have hms : ∀ z, z ∈ ps.map (·.1) ↔ z ∈ M11.hm rules := fun z => by rw [W3.nm, ded_memB]; simp
    have mkt : ∀ z, (valV (ps.map kvA) (Sum.inr z)).isSome = decide (z ∈ M11.hm rules) := fun z => by
      rw [mem_keys (keys_ps ps), Bool.eq_iff_iff, decide_eq_true_iff, decide_eq_true_iff]
      exact hms z
    refine ⟨_, rfl, R, _, rfl, s03.seq hR, ?_⟩
    refine for_enum (xs := rs.map V.ref) (fun i σ H5 => ∃ (y5 y6 y7 y8 y9 y10 : Option V), σ = [some (.ref R), some (.ref N), some (.ref L), some (.ref d1), some (.ref d), y5, y6, y7, y8, y9, y10] ∧ Same H H5 ∧ H5 d1 = some (.dK kv1) ∧ WT H5 (ded [] (rules.map (·.1))) prs d ps ∧ ∀ ru ∈ rules.take i, ∀ n, ClR rules ns prs ru n) ⟨none, none, none, none, none, none, rfl, s03, s3 _ _ e2, W3, fun ru h => (by simp at h)⟩ ?_ ?_ ?_
    · rintro i σ H5 _ ⟨y5, y6, y7, y8, y9, y10, rfl, s5, _⟩
      exact s5.seq hR
    · rintro i x σ H5 t ex ⟨y5, y6, y7, y8, y9, y10, rfl, s5, e5, W5, inv⟩ ht
      rw [List.getElem?_map] at ex
      obtain ⟨r, er, rfl⟩ := Option.map_eq_some_iff.mp ex
      obtain ⟨ru, e1, p, v1, v2⟩ := hrl.get er
      have hru := List.mem_of_getElem? e1
      have h8r := h8 ru hru
      have k6 := same_laid ht (.tup [.int (i : Int), .ref r])
      have v6 : SqT K (upd H5 t (.tup [.int (i : Int), .ref r])) t [.int (i : Int), .ref r] := SqT.of upd_same
      generalize upd H5 t (.tup [.int (i : Int), .ref r]) = H6 at k6 v6
      have s6 := s5.trans k6
      have tkr : rules.take (i + 1) = rules.take i ++ [ru] := by rw [List.take_add_one, e1]; rfl
      have hhd : ru.1 ∈ M11.hm rules := List.mem_map.mpr ⟨ru, hru, rfl⟩
      obtain ⟨p0, hp0, ep0⟩ := List.mem_map.mp ((hms ru.1).mpr hhd)
      have outer_go : ∀ (y5 y6 y7 y8 y9 y10 : Option V) (H' : Hp), Same H H' → H' d1 = some (.dK kv1) → WT H' (ded [] (rules.map (·.1))) prs d ps → (∀ n, ClR rules ns prs ru n) → ∃ (z5 z6 z7 z8 z9 z10 : Option V), [some (V.ref R), some (.ref N), some (.ref L), some (.ref d1), some (.ref d), y5, y6, y7, y8, y9, y10] = [some (V.ref R), some (.ref N), some (.ref L), some (.ref d1), some (.ref d), z5, z6, z7, z8, z9, z10] ∧ Same H H' ∧ H' d1 = some (.dK kv1) ∧ WT H' (ded [] (rules.map (·.1))) prs d ps ∧ ∀ ru ∈ rules.take (i + 1), ∀ n, ClR rules ns prs ru n := fun y5 y6 y7 y8 y9 y10 H' a b c e => ⟨_, _, _, _, _, _, rfl, a, b, c, fun ru2 h2 n => by
        rw [tkr] at h2
        rcases List.mem_append.mp h2 with h3 | h3
        · exact inv ru2 h3 n
        · rw [List.mem_singleton.mp h3]; exact e n⟩
      refine ⟨t, _, rfl, v6, rfl, _, _, rfl, _, _, rfl, rfl, ?_⟩
      refine ⟨_, rfl, r, _, _, _, rfl, rfl, s6.tup v1, rfl, p, _, rfl, s6.tup v2, ?_⟩
      refine for_enumT (xs := ru.2.map V.str) (fun j σ H7 => ∃ (y7 y8 y9 y10 : Option V), σ = [some (.ref R), some (.ref N), some (.ref L), some (.ref d1), some (.ref d), some (.int (i : Int)), some (.ref r), y7, y8, y9, y10] ∧ Same H H7 ∧ H7 d1 = some (.dK kv1) ∧ WT H7 (ded [] (rules.map (·.1))) prs d ps ∧ ClR rules ns prs ru j ∧ ∀ x ∈ ru.2.take j, x ∈ ns) ⟨_, _, _, _, rfl, s6, k6 _ _ e5, W5.same k6, fun pl pp l => absurd l (Nat.not_lt_zero _), fun x h => (by simp at h)⟩ ?_ ?_ ?_
      · rintro j σ H7 _ ⟨y7, y8, y9, y10, rfl, s7, _⟩
        exact s7.tup v2
      · rintro j x σ H7 t2 ex2 ⟨y7, y8, y9, y10, rfl, s7, e7, W7, cl7, op7⟩ ht2
        rw [List.getElem?_map] at ex2
        obtain ⟨part, epart, rfl⟩ := Option.map_eq_some_iff.mp ex2
        have lj := (List.getElem?_eq_some_iff.mp epart).1
        have tkp : ru.2.take (j + 1) = ru.2.take j ++ [part] := by rw [List.take_add_one, epart]; rfl
        have k8 := same_laid ht2 (.tup [.int (j : Int), .str part])
        have v8 : SqT K (upd H7 t2 (.tup [.int (j : Int), .str part])) t2 [.int (j : Int), .str part] := SqT.of upd_same
        generalize upd H7 t2 (.tup [.int (j : Int), .str part]) = H8 at k8 v8
        have s8 := s7.trans k8
        have e8 := k8 _ _ e7
        have W8 := W7.same k8
        refine ⟨t2, _, rfl, v8, rfl, _, _, rfl, _, _, rfl, rfl, ?_⟩
        refine ⟨fun σ H9 => ∃ (D9 : Addr) (wsl : List Str), σ = [some (.ref R), some (.ref N), some (.ref L), some (.ref d1), some (.ref d), some (.int (i : Int)), some (.ref r), some (.int (j : Int)), some (.str part), some (.ref D9), y10] ∧ Same H8 H9 ∧ H9 D9 = some (.lst (wsl.map V.str)) ∧ wsl.length ≤ 1000 ∧ (part ∈ M11.hm rules → ∀ w, w ∈ wsl ↔ (part, w) ∈ prs) ∧ (part ∉ M11.hm rules → ∀ w, w ∈ wsl ↔ w = part), ?_, ?_⟩
        · refine ⟨_, rfl, _, rfl, d, _, rfl, DGet.k (k := Sum.inr part) W8.hd, _, rfl, ?_⟩
          rw [mkt]
          refine ite2 (fun c => ?_) (fun c => ?_)
          · have hp := of_decide_eq_true c
            obtain ⟨p1, hp1, ep1⟩ := List.mem_map.mp ((hms part).mpr hp)
            obtain ⟨_, kw, ws, ekw, hkw, mw, lw⟩ := W8.inn p1 hp1
            have vp := val_ps ps W8.n1 p1 hp1
            rw [ep1] at vp mw
            have dg : DGet H8 d (.str part) (some (.ref p1.2)) := by
              have h1 := DGet.k (k := Sum.inr part) W8.hd
              rw [vp] at h1
              exact h1
            refine ⟨_, rfl, _, rfl, d, _, rfl, dg, p1.2, kw, rfl, ekw, fun D9 hD9 => ?_⟩
            rw [keys_str hkw]
            exact ⟨D9, ws, rfl, same_laid hD9 _, upd_same, by omega, fun _ => mw, fun n => absurd hp n⟩
          · have hp : part ∉ M11.hm rules := fun z => c (decide_eq_true z)
            refine ⟨_, rfl, (by show 1 ≤ sizeLine; decide), fun D9 hD9 => ?_⟩
            exact ⟨D9, [part], rfl, same_laid hD9 _, upd_same, by simp, fun h => absurd h hp, fun _ w => List.mem_singleton⟩
        rintro σ H9 ⟨D9, wsl, rfl, s9, eD9, lw9, m1, m2⟩
        have s09 := s8.trans s9
        have W9 := W8.same s9
        have e9 := s9 _ _ e8
        obtain ⟨_, kw0, ws0, ekw0, hkw0, mw0, lw0⟩ := W9.inn p0 hp0
        rw [ep0] at mw0
        have vp0 := val_ps ps W9.n1 p0 hp0
        rw [ep0] at vp0
        refine ⟨_, rfl, D9, rfl, ⟨_, SqL.of eD9⟩, fun DA hDA => compG_list (xs := wsl.map V.str) (fun k ys σ2 HA => ys = ((wsl.take k).filter fun z => !decide (z ∈ ws0)).map V.str ∧ (∃ y0, σ2 = [y0, some (.ref d), some (.ref r)]) ∧ Same H9 HA ∧ HA DA = some (.lst ys)) ⟨rfl, ⟨none, rfl⟩, same_laid hDA _, upd_same⟩ (fun k ys σ2 HA _ h => ?_) (fun k x ys σ2 HA ex h => ?_) (fun ys σ2 HA h => ?_)⟩
        · obtain ⟨_, _, sm, _⟩ := h
          exact SqL.of (sm _ _ eD9)
        · obtain ⟨rfl, ⟨y0, rfl⟩, sm, eD⟩ := h
          rw [List.getElem?_map] at ex
          obtain ⟨z, ez, rfl⟩ := Option.map_eq_some_iff.mp ex
          have lk := (List.getElem?_eq_some_iff.mp ez).1
          have dg0 : DGet HA d (.str ru.1) (some (.ref p0.2)) := by
            have h1 := DGet.k (k := Sum.inr ru.1) (sm _ _ W9.hd)
            rw [vp0] at h1
            exact h1
          refine goN ?_
          refine ⟨_, rfl, _, rfl, _, rfl, r, _, _, _, rfl, rfl, (s09.trans sm).tup v1, rfl, d, _, rfl, dg0, p0.2, _, rfl, DGet.k (k := Sum.inr z) (sm _ _ ekw0), _, rfl, ?_⟩
          rw [mem_keys hkw0]
          have tkw : (wsl.take (k + 1)).filter (fun z => !decide (z ∈ ws0)) = (wsl.take k).filter (fun z => !decide (z ∈ ws0)) ++ if (!decide (z ∈ ws0)) = true then [z] else [] := by
            rw [List.take_add_one, ez, List.filter_append]
            congr 1
            by_cases cz : (!decide (z ∈ ws0)) = true
            · rw [if_pos cz]
              show List.filter _ [z] = [z]
              rw [List.filter_cons, if_pos cz]; rfl
            · rw [if_neg cz]
              show List.filter _ [z] = []
              rw [List.filter_cons, if_neg cz]; rfl
          have lf : ((wsl.take k).filter fun z => !decide (z ∈ ws0)).length ≤ 1000 := by
            have := List.length_filter_le (fun z => !decide (z ∈ ws0)) (wsl.take k)
            rw [List.length_take] at this
            omega
          refine ite2 (fun c => ?_) (fun c => ?_)
          · refine ⟨_, rfl, eD, fits' (by rw [List.length_map]; omega), ?_, ⟨_, rfl⟩, fun b o hb => ?_, upd_same⟩
            · rw [tkw, if_pos c, List.map_append]; rfl
            · rw [upd_ne (fun z => by rw [z, hDA] at hb; cases hb)]
              exact sm b o hb
          · exact ⟨by rw [tkw, if_neg c, List.append_nil], ⟨_, rfl⟩, sm, eD⟩
        · obtain ⟨rfl, _, sm, eD⟩ := h
          rw [List.length_map, List.take_length] at eD
          have s0A := s09.trans sm
          have WA := W9.same sm
          have eA := sm _ _ e9
          refine goN ?_
          refine ⟨_, rfl, _, .inl ⟨_, SqL.of eD, rfl⟩, ?_⟩
          cases hf : wsl.filter fun z => !decide (z ∈ ws0) with
          | cons z zs =>
            refine iteT ?_
            have hz : z ∈ wsl.filter fun z => !decide (z ∈ ws0) := by rw [hf]; exact List.mem_cons_self
            obtain ⟨hz1, hz2⟩ := List.mem_filter.mp hz
            have nz : (ru.1, z) ∉ prs := fun y => by rw [decide_eq_true ((mw0 z).mpr y)] at hz2; cases hz2
            have ncl : ¬ ClB rules ns prs := fun cb => by
              obtain ⟨c1, c2⟩ := cb ru hru j part epart op7
              by_cases hp : part ∈ M11.hm rules
              · exact nz (c2 hp z ((m1 hp z).mp hz1))
              · have : z = part := (m2 hp z).mp hz1
                rw [this] at nz
                exact nz (c1 hp)
            rw [hf] at eD
            refine ⟨_, rfl, _, rfl, _, rfl, DA, z :: zs, rfl, SqL.of eD, (fun y => by cases y), fun z2 _ => ⟨(by show 3 ≤ sizeLine; decide), fun t3 ht3 => ?_⟩⟩
            exact (q _ (s0A.trans (same_laid ht3 _))).2 ncl t3
          | nil =>
            refine iteF ?_
            have all : ∀ z ∈ wsl, (ru.1, z) ∈ prs := fun z hz => by
              by_cases c : z ∈ ws0
              · exact (mw0 z).mp c
              · have : z ∈ wsl.filter fun z => !decide (z ∈ ws0) := List.mem_filter.mpr ⟨hz, by rw [decide_eq_false c]; rfl⟩
                rw [hf] at this
                cases this
            have cl8 : ClR rules ns prs ru (j + 1) := fun pl pp l e o => by
              by_cases cj : pl < j
              · exact cl7 pl pp cj e o
              · have : pl = j := by omega
                subst this
                rw [epart] at e
                cases e
                exact ⟨fun n => all part ((m2 n part).mpr rfl), fun h w hw => all w ((m1 h w).mpr hw)⟩
            refine ⟨_, rfl, _, rfl, d1, _, rfl, DGet.k (k := Sum.inr part) eA, _, rfl, ?_⟩
            rw [mk1]
            refine ite2 (fun c => ?_) (fun c => ?_)
            · have np : part ∉ ns := fun z => by rw [decide_eq_true z] at c; cases c
              refine outer_go _ _ _ _ _ _ _ s0A eA WA fun n pl pp l e o => ?_
              by_cases cj : pl < j + 1
              · exact cl8 pl pp cj e o
              · refine absurd (o part ?_) np
                exact List.mem_of_getElem? (i := j) (by rw [List.getElem?_take, if_pos (by omega)]; exact epart)
            · have ip : part ∈ ns := Classical.byContradiction fun z => c (by rw [decide_eq_false z]; rfl)
              refine ⟨_, _, _, _, rfl, s0A, eA, WA, cl8, fun x hx => ?_⟩
              rw [tkp] at hx
              rcases List.mem_append.mp hx with h | h
              · exact op7 x h
              · rw [List.mem_singleton.mp h]; exact ip
      · rintro σ H7 ⟨y7, y8, y9, y10, rfl, s7, e7, W7, cl7, op7⟩
        refine outer_go _ _ _ _ _ _ _ s7 e7 W7 fun n pl pp l e o => cl7 pl pp ?_ e o
        rw [List.length_map]
        exact (List.getElem?_eq_some_iff.mp e).1
    · rintro σ H5 ⟨y5, y6, y7, y8, y9, y10, rfl, s5, e5, W5, inv⟩
      rw [List.length_map, ll, List.take_length] at inv
      exact (q H5 s5).1 fun ru hru pl pp e o => inv ru hru (pl + 1) pl pp (Nat.lt_succ_self _) e o
end
end K11
namespace K11
open PySem L2 M11
abbrev sLEmpties : Stmt := top 22
def rt (n : Nat) (c : Int) (k : Nat) : Nat := (((k : Int) + c) % (n : Int)).toNat
theorem rt_lt {n : Nat} (h : 0 < n) (c : Int) (k : Nat) : rt n c k < n ∧ ((k : Int) + c) % (n : Int) = (rt n c k : Int) := by
  unfold rt
  have h1 := Int.emod_nonneg ((k : Int) + c) (show (n : Int) ≠ 0 by omega)
  have h2 := Int.emod_lt_of_pos ((k : Int) + c) (show (0 : Int) < (n : Int) by omega)
  omega
theorem rt_onto {n : Nat} (c : Int) {j : Nat} (h : j < n) : ∃ k, k < n ∧ rt n c k = j := by
  have h1 := Int.emod_nonneg ((j : Int) - c) (show (n : Int) ≠ 0 by omega)
  have h2 := Int.emod_lt_of_pos ((j : Int) - c) (show (0 : Int) < (n : Int) by omega)
  refine ⟨(((j : Int) - c) % (n : Int)).toNat, by omega, ?_⟩
  unfold rt
  have e : ((((j : Int) - c) % (n : Int)).toNat : Int) = ((j : Int) - c) % (n : Int) := by omega
  rw [e, Int.emod_add_emod]
  have : (j : Int) - c + c = (j : Int) := by omega
  rw [this, Int.emod_eq_of_lt (by omega) (by omega)]
  rfl
def rtR (rules : List Rule) (c : Int) : List Rule := (List.range rules.length).map fun k => rules.getD (rt rules.length c k) ("", [])
theorem rtR_mem (rules : List Rule) (c : Int) (ru : Rule) : ru ∈ rtR rules c ↔ ru ∈ rules := by
  unfold rtR
  rw [List.mem_map]
  constructor
  · rintro ⟨k, hk, rfl⟩
    have l := List.mem_range.mp hk
    have := (rt_lt (Nat.zero_lt_of_lt l) c k).1
    rw [List.getD_eq_getElem?_getD, List.getElem?_eq_getElem this]
    exact List.getElem_mem this
  · intro h
    obtain ⟨j, hj⟩ := List.getElem?_of_mem h
    have lj := (List.getElem?_eq_some_iff.mp hj).1
    obtain ⟨k, lk, ek⟩ := rt_onto c lj
    exact ⟨k, List.mem_range.mpr lk, by rw [ek, List.getD_eq_getElem?_getD, hj]; rfl⟩
theorem rtR_len (rules : List Rule) (c : Int) : (rtR rules c).length = rules.length := by unfold rtR; rw [List.length_map, List.length_range]
theorem rtR_at {rules : List Rule} {c : Int} {k : Nat} (h : k < rules.length) {ru : Rule} (e : rules[rt rules.length c k]? = some ru) : (rtR rules c)[k]? = some ru := by
  unfold rtR
  rw [List.getElem?_map, List.getElem?_range h]
  show some (rules.getD _ _) = _
  rw [List.getD_eq_getElem?_getD, e]
  rfl
section
variable {P : Program} {w : World} {K : PySem.W.Frag} {mg : Str → Option Value} {base : Heap} {f : Addr} {fd : FuncData}
def spLEmpties (K : PySem.W.Frag) : Sp := fun vs H Q _ => ∃ (R : Addr) (rs : List Addr) (rules : List Rule) (c : Int), vs = [.ref R, .int c] ∧ SqL K H R (rs.map V.ref) ∧ Rules K H rs rules ∧ rules.length ≤ 8 ∧ 1 ≤ rules.length ∧ (∀ ru ∈ rules, ru.2.length ≤ 8) ∧
  ∀ (D : Addr) (ts : List Addr) (ks : List Nat) (H' : Hp), H D = none → Same H H' → H' D = some (.lst (ts.map V.ref)) → Paired (TkV K rules H') ts ks → stE rules ks [] = true → Cl rules (ks.map (hk rules)) → ks.length ≤ 100 → Q (.ref D) H'
theorem scLEmpties : FnScope ["_law_rules", "_law_cell", "_law_told", "_law_names_here", "_law_again", "_law_k", "_law_number", "_law_head", "_law_parts"] ["_law_rules", "_law_cell"] (defScope sLEmpties) := ⟨rfl, rfl, rfl, by decide +kernel, rfl, by decide +kernel, by decide +kernel⟩
theorem ok_lEmpties (F : Fun K "_law_empties" "_law_empties" sLEmpties f fd) (T : Txt mg) : FnOk P w K mg base CX0 1 f fd ["_law_rules", "_law_cell"] (spLEmpties K) := by
  refine F.ok scLEmpties (fun vs H Q E h => ?_) (fun cdv A outer s H vs Q E hr h => ?_)
  · obtain ⟨R, rs, rules, c, rfl, _⟩ := h; rfl
  · obtain ⟨R, rs, rules, c, rfl, hR, hrl, hlen, hl1, h8, q⟩ := h
    refine ⟨_, pss_cons (ps_set (i := 2) scLEmpties.nd rfl (Or.inl rfl) (pe_lst pa_nil))
      (pss_cons (ps_set (i := 3) scLEmpties.nd rfl (Or.inr rfl) (pe_lst pa_nil))
      (pss_cons (ps_for PassesOwn.never rfl (pi_list (pv 0)) (pg_name (i := 4) scLEmpties.nd rfl (Or.inl rfl))
        (pss_one (ps_for PassesOwn.never rfl (pi_range1 rfl T.rng (pa_cons (pe_callB call_len_seq rfl T.len PySem.boot_len (pa_cons (pv 0) pa_nil)) pa_nil)) (pg_name (i := 5) scLEmpties.nd rfl (Or.inl rfl))
          (pss_cons (ps_cutS (ps_set (i := 6) scLEmpties.nd rfl (Or.inl rfl) (pe_op op_mod (pe_op op_add (pv 5) (pv 1)) (pe_callB call_len_seq rfl T.len PySem.boot_len (pa_cons (pv 0) pa_nil)))))
          (pss_cons (ps_asg (pe_ix ix_list (pv 0) (pv 6) (fun _ _ => rfl)) (pg_tup rfl (pgs_cons (pg_name (i := 7) scLEmpties.nd rfl (Or.inl rfl)) (pgs_cons (pg_name (i := 8) scLEmpties.nd rfl (Or.inl rfl)) pgs_nil))))
          (pss_one (ps_if (PW.pt (pw_and (pt_cmpR op_notIn_seq (pv 7) (pv 3) rfl) (pw_and1 (pt_val (pe_callB (call_allB rfl) rfl T.all boot_all (pa_cons (pe_compG ["_law_part"] [(3, "_law_names_here")] rfl (pi_tup (pv 8)) (caps_of rfl rfl) (by decide +kernel) rfl (by decide +kernel)
              (fun _ _ _ _ _ => pg_name (i := 0) (show (["_law_part", "_law_names_here"] : List Str).Nodup by decide +kernel) rfl (Or.inl rfl)) (fun _ _ _ _ _ => pif_nil) (fun _ _ _ _ _ => pe_cmpR (op_in_seqK K) (pv 0) (pv 1) rfl)) pa_nil))))))
            (pss_cons (ps_expr (pe_bm PySem.F.plainAttrs_list PySem.F.slot_list_append PySem.F.type_list_append mt_append (pv 3) (pa_cons (pv 7) pa_nil)))
            (pss_one (ps_expr (pe_bm PySem.F.plainAttrs_list PySem.F.slot_list_append PySem.F.type_list_append mt_append (pv 2) (pa_cons (pe_tup (pa_cons (pv 7) (pa_cons (pv 6) pa_nil))) pa_nil))))) pss_nil)))))))
      (pss_one (ps_ret (pv 2))))), ?_⟩
    have ll := Paired.length hrl
    have hn0 : (0 : Int) < (rules.length : Int) := by omega
    have few : ∀ ks : List Nat, stE rules ks [] = true → ks.length ≤ rules.length := fun ks h => by
      have h1 := stE_ok ks [] h List.nodup_nil (fun _ h => by cases h)
      rw [List.nil_append] at h1
      have h2 := M11.nodup_len (ks.map (hk rules)) (rules.map (·.1)) h1.1 fun z hz => by
        have := h1.2 z hz
        cases this with
        | mk hr _ => exact List.mem_map.mpr ⟨_, hr, rfl⟩
      rw [List.length_map, List.length_map] at h2
      exact h2
    refine ⟨(by show 0 ≤ sizeLine; decide), fun Lt hLt => ?_⟩
    have k1 := same_laid hLt (.lst [])
    have e1 : upd H Lt (.lst []) Lt = some (.lst []) := upd_same
    generalize upd H Lt (.lst []) = H1 at k1 e1
    refine ⟨(by show 0 ≤ sizeLine; decide), fun Ln hLn => ?_⟩
    have k2 := same_laid hLn (.lst [])
    have e2 : upd H1 Ln (.lst []) Ln = some (.lst []) := upd_same
    have e21 := k2 _ _ e1
    have nLn : Lt ≠ Ln := fun z => by rw [← z, e1] at hLn; cases hLn
    have fLn : H Ln = none := k1.free hLn
    generalize upd H1 Ln (.lst []) = H2 at k2 e2 e21
    have s2 := k1.trans k2
    refine ⟨_, rfl, R, rfl, ⟨_, s2.seq hR⟩, ?_⟩
    refine for_list (xs := rs.map V.ref) (fun i σ H5 => ∃ (ts : List Addr) (ks : List Nat) (y4 y5 y6 y7 y8 : Option V), σ = [some (.ref R), some (.int c), some (.ref Lt), some (.ref Ln), y4, y5, y6, y7, y8] ∧ Same H H5 ∧ H5 Lt = some (.lst (ts.map V.ref)) ∧ H5 Ln = some (.lst ((ks.map (hk rules)).map V.str)) ∧ Paired (TkV K rules H5) ts ks ∧ stE rules ks [] = true ∧ ks.map (hk rules) = passes (roundG cE (rtR rules c)) i []) ⟨[], [], none, none, none, none, none, rfl, s2, e21, e2, .nil, rfl, rfl⟩ ?_ ?_ ?_
    · rintro i σ H5 _ ⟨ts, ks, y4, y5, y6, y7, y8, rfl, s5, _⟩
      exact s5.seq hR
    · rintro i x σ H5 ex ⟨ts, ks, y4, y5, y6, y7, y8, rfl, s5, eT, eN, pk, st, inv⟩
      refine goN ?_
      refine ⟨_, rfl, R, _, rfl, .inl (s5.seq hR), _, rfl, by rw [List.length_map]; omega, by rw [List.length_map]; omega, ?_⟩
      rw [List.length_map, ll, Int.toNat_natCast]
      refine for_range (n := rules.length) (fun k σ H6 => ∃ (ts : List Addr) (ks : List Nat) (y5 y6 y7 y8 : Option V), σ = [some (.ref R), some (.int c), some (.ref Lt), some (.ref Ln), some x, y5, y6, y7, y8] ∧ Same H H6 ∧ H6 Lt = some (.lst (ts.map V.ref)) ∧ H6 Ln = some (.lst ((ks.map (hk rules)).map V.str)) ∧ Paired (TkV K rules H6) ts ks ∧ stE rules ks [] = true ∧ ks.map (hk rules) = ((rtR rules c).take k).foldl (stepG cE) (passes (roundG cE (rtR rules c)) i [])) ⟨ts, ks, _, _, _, _, rfl, s5, eT, eN, pk, st, inv⟩ ?_ ?_
      · rintro k σ H6 hk6 ⟨ts, ks, y5, y6, y7, y8, rfl, s6, eT, eN, pk, st, inv⟩
        obtain ⟨lr, er⟩ := rt_lt (show 0 < rules.length by omega) c k
        obtain ⟨ru, eru⟩ : ∃ ru, rules[rt rules.length c k]? = some ru := ⟨_, List.getElem?_eq_getElem lr⟩
        obtain ⟨r, err, p, v1, v2⟩ := Paired.at_ hrl _ ru eru
        have h8r := h8 ru (List.mem_of_getElem? eru)
        have atr : atI (rs.map V.ref) (rt rules.length c k : Int) = some (.ref r) := atI_nat (by rw [List.getElem?_map, err]; rfl)
        have lts := Paired.length pk
        have fk := few ks st
        have stp : ((rtR rules c).take (k + 1)).foldl (stepG cE) (passes (roundG cE (rtR rules c)) i []) = stepG cE (ks.map (hk rules)) ru := by
          rw [List.take_add_one, rtR_at hk6 eru, List.foldl_append, ← inv]
          rfl
        refine goN ?_
        have er2 : (0 + (k : Int) + c) % ((rs.map V.ref).length : Int) = (rt rules.length c k : Int) := by rw [List.length_map, ll, Int.zero_add]; exact er
        refine ⟨fun σ H7 => H6 = H7 ∧ σ = [some (.ref R), some (.int c), some (.ref Lt), some (.ref Ln), some x, some (.int (0 + (k : Int))), some (.int (rt rules.length c k : Int)), y7, y8], ?_, ?_⟩
        · refine ⟨_, rfl, _, rfl, _, _, rfl, rfl, _, rfl, R, _, rfl, .inl (s6.seq hR), _, _, rfl, rfl, (by rw [List.length_map, ll]; exact hn0), ?_⟩
          exact ⟨rfl, by rw [← er2]; rfl⟩
        rintro σ H7 ⟨rfl, rfl⟩
        refine ⟨_, rfl, _, rfl, R, _, _, _, rfl, rfl, s6.seq hR, atr, r, _, rfl, s6.tup v1, rfl, _, _, rfl, _, _, rfl, rfl, ?_⟩
        refine ⟨_, rfl, _, rfl, Ln, _, rfl, .inl (SqL.of eN), rfl, flat_strs _, _, rfl, ?_⟩
        rw [inV_str]
        have stay : ¬ (cE (ks.map (hk rules)) ru && !decide (ru.1 ∈ ks.map (hk rules))) = true → ks.map (hk rules) = ((rtR rules c).take (k + 1)).foldl (stepG cE) (passes (roundG cE (rtR rules c)) i []) := fun z => by
          rw [stp]
          unfold stepG
          rw [if_neg z]
        refine ite2 (fun c1 => ?_) (fun c1 => ?_)
        · have c1' : (!decide (ru.1 ∈ ks.map (hk rules))) = true := c1
          refine ⟨_, rfl, p, rfl, ⟨_, s6.tup v2⟩, fun D2 hD2 => comp_boolsT (zs := ru.2) [some (.ref Ln)] (fun z => decide (z ∈ ks.map (hk rules))) rfl (s6.tup v2) (by omega) hD2 (fun z _ H7 Qy s7 hq => ?_) fun H7 s7 e7 => ?_⟩
          · refine ⟨_, rfl, _, rfl, Ln, _, rfl, .inl (SqL.of (s7 _ _ eN)), rfl, flat_strs _, ?_⟩
            rw [inV_str]
            exact hq
          · refine ⟨D2, _, rfl, SqL.of e7, _, rfl, ?_⟩
            rw [all_map]
            have eN7 := s7 _ _ eN
            have eT7 := s7 _ _ eT
            refine ite2 (fun c2 => ?_) (fun c2 => ?_)
            · have ce : cE (ks.map (hk rules)) ru = true := c2
              refine ⟨_, rfl, .inl ⟨rfl, _, SqL.of eN7⟩, _, rfl, Ln, _, _, rfl, rfl, eN7, fits' (by rw [List.length_map, List.length_map]; omega), ?_⟩
              have eT8 : upd H7 Ln (.lst ((ks.map (hk rules)).map V.str ++ [.str ru.1])) Lt = some (.lst (ts.map V.ref)) := by rw [upd_ne nLn]; exact eT7
              have eN8 : upd H7 Ln (.lst ((ks.map (hk rules)).map V.str ++ [.str ru.1])) Ln = some (.lst ((ks.map (hk rules)).map V.str ++ [.str ru.1])) := upd_same
              have sm8 : Same H (upd H7 Ln (.lst ((ks.map (hk rules)).map V.str ++ [.str ru.1]))) := fun b o hb => by
                rw [upd_ne (fun z => by rw [z, fLn] at hb; cases hb)]; exact s7 _ _ (s6 b o hb)
              have pk8 : Paired (TkV K rules (upd H7 Ln (.lst ((ks.map (hk rules)).map V.str ++ [.str ru.1])))) ts ks := Paired.mapP pk fun a b ⟨ru2, x1, x2⟩ => ⟨ru2, x1, sqt_upd eN7 (s7.tup x2)⟩
              generalize upd H7 Ln (.lst ((ks.map (hk rules)).map V.str ++ [.str ru.1])) = H8 at eT8 eN8 sm8 pk8
              refine ⟨_, rfl, .inl ⟨rfl, _, SqL.of eT8⟩, _, rfl, _, rfl, (by show 2 ≤ sizeLine; decide), fun u hu => ?_⟩
              have k9 := same_laid hu (.tup [V.str ru.1, V.int (rt rules.length c k : Int)])
              have e9 : SqT K (upd H8 u (.tup [V.str ru.1, V.int (rt rules.length c k : Int)])) u [.str ru.1, .int (rt rules.length c k : Int)] := SqT.of upd_same
              generalize upd H8 u (.tup [V.str ru.1, V.int (rt rules.length c k : Int)]) = H9 at k9 e9
              have eT9 := k9 _ _ eT8
              have eN9 := k9 _ _ eN8
              refine ⟨Lt, _, _, rfl, rfl, eT9, fits' (by rw [List.length_map]; omega), ?_⟩
              have cond : (cE (ks.map (hk rules)) ru && !decide (ru.1 ∈ ks.map (hk rules))) = true := Bool.and_eq_true_iff.mpr ⟨ce, c1'⟩
              have nin : ru.1 ∉ ks.map (hk rules) := by simpa using c1'
              refine ⟨ts ++ [u], ks ++ [rt rules.length c k], _, _, _, _, rfl, fun b o hb => ?_, by rw [upd_same, List.map_append]; rfl, ?_, ?_, stE_snoc eru ks [] st (by rw [List.nil_append]; exact nin) (by rw [List.nil_append]; exact ce), ?_⟩
              · rw [upd_ne (fun z => by rw [z, hLt] at hb; cases hb)]; exact k9 _ _ (sm8 b o hb)
              · rw [upd_ne (Ne.symm nLn), eN9, List.map_append, List.map_append]
                show _ = some (HO.lst (_ ++ [V.str (hk rules (rt rules.length c k))]))
                rw [hk_of eru]
              · exact Paired.snoc (Paired.mapP pk8 fun a b ⟨ru2, x1, x2⟩ => ⟨ru2, x1, sqt_upd eT9 (k9.tup x2)⟩) ⟨ru, eru, sqt_upd eT9 e9⟩
              · rw [stp]
                unfold stepG
                rw [if_pos cond, List.map_append]
                show _ ++ [hk rules (rt rules.length c k)] = _
                rw [hk_of eru]
            · refine ⟨ts, ks, _, _, _, _, rfl, s6.trans s7, eT7, eN7, Paired.mapP pk fun a b z => z.same s7, st, stay fun z => c2 (Bool.and_eq_true_iff.mp z).1⟩
        · refine iteF ?_
          exact ⟨ts, ks, _, _, _, _, rfl, s6, eT, eN, pk, st, stay fun z => c1 (Bool.and_eq_true_iff.mp z).2⟩
      · rintro σ H6 ⟨ts, ks, y5, y6, y7, y8, rfl, s6, eT, eN, pk, st, inv⟩
        refine ⟨ts, ks, _, _, _, _, _, rfl, s6, eT, eN, pk, st, ?_⟩
        rw [inv, List.take_of_length_le (by rw [rtR_len]; exact Nat.le_refl _)]
        rfl
    · rintro σ H5 ⟨ts, ks, y4, y5, y6, y7, y8, rfl, s5, eT, eN, pk, st, inv⟩
      have fk := few ks st
      refine ⟨_, rfl, q Lt ts ks H5 hLt s5 eT pk st ?_ (by omega)⟩
      rw [inv, List.length_map, ll, ← rtR_len rules c]
      exact passE_cl fun ru hr => (rtR_mem rules c ru).mpr hr
end
end K11
namespace L2
open PySem PySem.Spec PyProof.Rows
theorem eqL_pr (q pr : Str × Str) : eqL [V.str q.1, V.str q.2] [V.str pr.1, V.str pr.2] = decide (q = pr) := by
  obtain ⟨a, b⟩ := q
  obtain ⟨c, d⟩ := pr
  show (eqV (.str a) (.str c) && (eqV (.str b) (.str d) && true)) = _
  have h : ∀ x y : Str, eqV (.str x) (.str y) = decide (x = y) := fun x y => by
    show (x == y) = _
    rw [Bool.eq_iff_iff, beq_iff_eq, decide_eq_true_iff]
  rw [h, h, Bool.and_true]
  by_cases e1 : a = c
  · by_cases e2 : b = d
    · rw [e1, e2]; simp
    · simp [e1, e2]
  · simp [e1]
theorem pr_eqAt {X : Cx} {pins : List (Addr × Obj)} {σ : St} {H : Hp} {s : Shared} (A : Around) (hu : A.units < cLine) (I : Inv X pins σ H s) {t a : Addr} {q pr : Str × Str} (ht : SqT X.K H t [.str q.1, .str q.2]) (ha : SqT X.K H a [.str pr.1, .str pr.2]) : SeqAt.EqAt A s (.ref t) (.ref a) (decide (q = pr)) := by
  by_cases e : t = a
  · subst e
    have := I.tuple_inj ht ha
    injection this with h1 h2
    injection h2 with h2 _
    injection h1 with h1
    injection h2 with h2
    rw [decide_eq_true (Prod.ext h1 h2)]
    exact SeqAt.EqAt.same _
  · obtain ⟨its, r, pl, hz⟩ := I.tuple ht
    obtain ⟨its2, r2, pl2, hz2⟩ := I.tuple ha
    have l1 := r.length
    have l2 := r2.length
    refine .of_refs e ?_
    rw [← eqL_pr]
    have h := SeqAt.RcAt.tuples (A := A) (e := fun j => eqV ([V.str q.1, V.str q.2].getD j .non) ([V.str pr.1, V.str pr.2].getD j .non)) pl pl2 hu (fun j h1 h2 => flat_items r r2 rfl rfl j h1 h2)
    have e2 : ((List.range (min its.toArray.size its2.toArray.size)).all (fun j => eqV ([V.str q.1, V.str q.2].getD j .non) ([V.str pr.1, V.str pr.2].getD j .non)) && its.toArray.size == its2.toArray.size) = eqL [V.str q.1, V.str q.2] [V.str pr.1, V.str pr.2] := by
      rw [← eqL_range]
      simp only [List.size_toArray, ← l1, ← l2]
    rw [e2] at h
    exact h
open Classical in
theorem prs_any {X : Cx} {pins : List (Addr × Obj)} {σ : St} {H : Hp} {s : Shared} (I : Inv X pins σ H s) {pr : Str × Str} : ∀ {ts : List Addr} {prs : List (Str × Str)} {its : List Value}, Vals (ts.map V.ref) its → Paired (fun t (q : Str × Str) => SqT X.K H t [.str q.1, .str q.2]) ts prs →
    (∀ y ∈ its, ∃ (t : Addr) (q : Str × Str), y = .ref t ∧ SqT X.K H t [.str q.1, .str q.2]) ∧ (its.any fun y => match y with | .ref t => decide (SqT X.K H t [.str pr.1, .str pr.2]) | _ => false) = decide (pr ∈ prs)
  | [], _, its, r, p => by
    cases p
    cases r
    exact ⟨fun y h => (by cases h), by simp⟩
  | t :: ts, _, its, r, p => by
    cases p with
    | @cons _ q _ prs h p2 =>
    cases r with
    | @cons _ u _ us hu r2 =>
    obtain ⟨i1, i2⟩ := prs_any I r2 p2
    cases (show u = Value.ref t from hu)
    refine ⟨fun y hy => ?_, ?_⟩
    · rcases List.mem_cons.mp hy with e | e
      · exact ⟨t, q, e, h⟩
      · exact i1 y e
    · rw [List.any_cons, i2]
      show (decide (SqT X.K H t [.str pr.1, .str pr.2]) || decide (pr ∈ prs)) = decide (pr ∈ q :: prs)
      have e : SqT X.K H t [.str pr.1, .str pr.2] ↔ pr = q := ⟨fun z => by
        have := I.tuple_inj z h
        injection this with h1 h2
        injection h2 with h2 _
        injection h1 with h1
        injection h2 with h2
        exact Prod.ext h1 h2, fun z => by rw [z]; exact h⟩
      rw [Bool.eq_iff_iff, Bool.or_eq_true_iff, decide_eq_true_iff, decide_eq_true_iff, decide_eq_true_iff, List.mem_cons, e]
def rInP (K : PySem.W.Frag) (neg : Bool) : R2 := fun x y H Q => ∃ (a p : Addr) (pr : Str × Str) (ts : List Addr) (prs : List (Str × Str)), x = .ref a ∧ y = .ref p ∧ SqT K H a [.str pr.1, .str pr.2] ∧ SqL K H p (ts.map V.ref) ∧ Paired (fun t (q : Str × Str) => SqT K H t [.str q.1, .str q.2]) ts prs ∧ Q (.bl (if neg then !decide (pr ∈ prs) else decide (pr ∈ prs))) H
open Classical in
theorem op_notInP {X : Cx} (hu : X.A.units + 1 < cLine) : OpR X (compareOp .NotIn) (rInP X.K true) := by
  intro pins s σ H x y v u Q I rx ry h
  obtain ⟨a, p, pr, ts, prs, rfl, rfl, ha, hp, hpr, q⟩ := h
  cases rx
  cases ry
  obtain ⟨its, r, pl, hz⟩ := I.list hp
  obtain ⟨i1, i2⟩ := prs_any I (pr := pr) r hpr
  refine SeqAt.notIn_listAt (fun y => match y with | .ref t => decide (SqT X.K H t [.str pr.1, .str pr.2]) | _ => false) pl.isList (fun y hy => ?_) ⟨.bl _, H, I, rfl, ?_⟩
  · obtain ⟨t, q2, rfl, ht⟩ := i1 y (by simpa using hy)
    have := pr_eqAt X.A.in1 (by rw [Around.in1_units]; exact hu) I ht ha
    have e : decide (q2 = pr) = decide (SqT X.K H t [.str pr.1, .str pr.2]) := by
      rw [Bool.eq_iff_iff, decide_eq_true_iff, decide_eq_true_iff]
      refine ⟨fun z => by rw [← z]; exact ht, fun z => ?_⟩
      have := I.tuple_inj ht z
      injection this with h1 h2
      injection h2 with h2 _
      injection h1 with h1
      injection h2 with h2
      exact Prod.ext h1 h2
    rw [e] at this
    exact this
  · rw [show its.toArray.any (fun y => match y with | .ref t => decide (SqT X.K H t [.str pr.1, .str pr.2]) | _ => false) = its.any (fun y => match y with | .ref t => decide (SqT X.K H t [.str pr.1, .str pr.2]) | _ => false) by simp, i2]
    exact q
end L2
namespace K11
open PySem L2 M11
abbrev sRows : Stmt := top 23
def DidN (rules : List Rule) (ns : List Str) (ru : Rule) (P P' : List (Str × Str)) (n : Nat) : Prop := ∀ pl p, pl < n → ru.2[pl]? = some p → Op ns ru pl → (p ∉ M11.hm rules → (ru.1, p) ∈ P') ∧ (p ∈ M11.hm rules → ∀ w, (p, w) ∈ P → (ru.1, w) ∈ P')
theorem stepG_sub {c : List Str → Rule → Bool} {e : List Str} {ru : Rule} {x : Str} (h : x ∈ e) : x ∈ stepG c e ru := by
  unfold stepG
  split
  · exact List.mem_append_left _ h
  · exact h
theorem foldG_sub {c : List Str → Rule → Bool} : ∀ (rs : List Rule) {e : List Str} {x : Str}, x ∈ e → x ∈ rs.foldl (stepG c) e
  | [], _, _, h => h
  | ru :: rs, _, _, h => foldG_sub rs (stepG_sub h)
theorem Ew_mono {rules rs : List Rule} {ns : List Str} {w x : Str} {n : Nat} : ∀ m, x ∈ Ew rules rs ns w n → x ∈ Ew rules rs ns w (n + m)
  | 0, h => h
  | m + 1, h => foldG_sub rs (Ew_mono m h)
theorem rows_cl {rules : List Rule} {ns : List Str} {c : Int} {bs : List Tb} {m : Nat} (st : stB rules ns bs [] = true) (hm : rules.length ≤ m) (h : ∀ w, ∀ x ∈ Ew rules (rtR rules c) ns w m, (x, w) ∈ bs.map (tbP rules)) : ClB rules ns (bs.map (tbP rules)) := by
  have h1 := stB_ok bs [] st List.nodup_nil (fun _ h => by cases h)
  rw [List.nil_append] at h1
  refine ClB.of fun a w => ⟨fun y => h1.2 (a, w) y, fun b => h w a ?_⟩
  have h2 := beg_Ew (rs := rtR rules c) (fun ru hr => (rtR_mem rules c ru).mpr hr) b
  rw [rtR_len] at h2
  have := Ew_mono (m - rules.length) h2
  rw [show rules.length + (m - rules.length) = m by omega] at this
  exact this
theorem rows_few {rules : List Rule} {ns txs : List Str} {bs : List Tb} (st : stB rules ns bs [] = true) (ht : ∀ ru ∈ rules, ∀ x ∈ ru.2, x ∈ txs) : bs.length ≤ rules.length * txs.length := by
  have h1 := stB_ok bs [] st List.nodup_nil (fun _ h => by cases h)
  rw [List.nil_append] at h1
  have := pairs_few h1.1 h1.2 ht
  rw [List.length_map] at this
  exact this
structure RSt (K : PySem.W.Frag) (rules : List Rule) (ns : List Str) (H H5 : Hp) (Dh Lt Lp : Addr) (ts us : List Addr) (bs : List Tb) : Prop where
  sm : Same H H5
  eH : H5 Dh = some (.lst ((M11.hm rules).map V.str))
  eT : H5 Lt = some (.lst (ts.map V.ref))
  eP : H5 Lp = some (.lst (us.map V.ref))
  pT : Paired (TbV K rules H5) ts bs
  pP : Paired (fun t (q : Str × Str) => SqT K H5 t [.str q.1, .str q.2]) us (bs.map (tbP rules))
  st : stB rules ns bs [] = true
theorem RSt.same {K : PySem.W.Frag} {rules : List Rule} {ns : List Str} {H H5 H6 : Hp} {Dh Lt Lp : Addr} {ts us : List Addr} {bs : List Tb} (h : RSt K rules ns H H5 Dh Lt Lp ts us bs) (s : Same H5 H6) : RSt K rules ns H H6 Dh Lt Lp ts us bs :=
  ⟨h.sm.trans s, s _ _ h.eH, s _ _ h.eT, s _ _ h.eP, Paired.mapP h.pT fun _ _ z => z.same s, Paired.mapP h.pP fun _ _ z => s.tup z, h.st⟩
section
variable {P : Program} {w : World} {K : PySem.W.Frag} {mg : Str → Option Value} {base : Heap} {f : Addr} {fd : FuncData}
def spRows (K : PySem.W.Frag) : Sp := fun vs H Q _ => ∃ (R N : Addr) (rs : List Addr) (rules : List Rule) (ns txs : List Str) (c : Int), vs = [.ref R, .ref N, .int c] ∧ SqL K H R (rs.map V.ref) ∧ Rules K H rs rules ∧ rules.length ≤ 8 ∧ 1 ≤ rules.length ∧ (∀ ru ∈ rules, ru.2.length ≤ 8 ∧ ∀ x ∈ ru.2, x ∈ txs) ∧ txs.length ≤ 8 ∧ SqL K H N (ns.map V.str) ∧ ns.length ≤ 1000 ∧
  ∀ (D : Addr) (ts : List Addr) (bs : List Tb) (H' : Hp), H D = none → Same H H' → H' D = some (.lst (ts.map V.ref)) → Paired (TbV K rules H') ts bs → stB rules ns bs [] = true → ClB rules ns (bs.map (tbP rules)) → bs.length ≤ 100 → Q (.ref D) H'
abbrev NRw : List Str := ["_law_rules", "_law_names_here", "_law_cell", "_law_heads", "_law_told", "_law_pairs", "_law_again", "_law_k", "_law_number", "_law_head", "_law_parts", "_law_place", "_law_words_here", "_law_word"]
theorem scRows : FnScope NRw ["_law_rules", "_law_names_here", "_law_cell"] (defScope sRows) := ⟨rfl, rfl, rfl, by decide +kernel, rfl, by decide +kernel, by decide +kernel⟩
theorem ok_rows (F : Fun K "_law_rows" "_law_rows" sRows f fd) (T : Txt mg) : FnOk P w K mg base CX0 1 f fd ["_law_rules", "_law_names_here", "_law_cell"] (spRows K) := by
  refine F.ok scRows (fun vs H Q E h => ?_) (fun cdv A outer s H vs Q E hr h => ?_)
  · obtain ⟨R, N, rs, rules, ns, txs, c, rfl, _⟩ := h; rfl
  · obtain ⟨R, N, rs, rules, ns, txs, c, rfl, hR, hrl, hlen, hl1, h8, htx, hN, hnl, q⟩ := h
    have hu := hu_of hr
    refine ⟨_, pss_cons (ps_setC (iy := 3) ["_law_head", "_law_parts"] [] scRows.nd rfl rfl rfl (pi_list (pv 0)) (caps_of rfl rfl) (by decide +kernel) rfl (by decide +kernel)
        (fun _ _ _ _ _ => pg_tupK (n := 2) K rfl (pgs_cons (pg_name (i := 0) (show (["_law_head", "_law_parts"] : List Str).Nodup by decide +kernel) rfl (Or.inl rfl)) (pgs_cons (pg_name (i := 1) (show (["_law_head", "_law_parts"] : List Str).Nodup by decide +kernel) rfl (Or.inl rfl)) pgs_nil))) (fun _ _ _ _ _ => pif_nil) (fun _ _ _ _ _ => pv 0))
      (pss_cons (ps_set (i := 4) scRows.nd rfl (Or.inl rfl) (pe_lst pa_nil))
      (pss_cons (ps_set (i := 5) scRows.nd rfl (Or.inl rfl) (pe_lst pa_nil))
      (pss_cons (ps_for PassesOwn.never rfl (pi_range1 rfl T.rng (pa_cons (pe_op op_mul (pe_callB call_len_seq rfl T.len PySem.boot_len (pa_cons (pv 0) pa_nil)) pe_int) pa_nil)) (pg_name (i := 6) scRows.nd rfl (Or.inl rfl))
        (pss_one (ps_for PassesOwn.never rfl (pi_range1 rfl T.rng (pa_cons (pe_callB call_len_seq rfl T.len PySem.boot_len (pa_cons (pv 0) pa_nil)) pa_nil)) (pg_name (i := 7) scRows.nd rfl (Or.inl rfl))
          (pss_cons (ps_cutS (ps_set (i := 8) scRows.nd rfl (Or.inl rfl) (pe_op op_mod (pe_op op_add (pv 7) (pv 2)) (pe_callB call_len_seq rfl T.len PySem.boot_len (pa_cons (pv 0) pa_nil)))))
          (pss_cons (ps_asg (pe_ix ix_list (pv 0) (pv 8) (fun _ _ => rfl)) (pg_tup rfl (pgs_cons (pg_name (i := 9) scRows.nd rfl (Or.inl rfl)) (pgs_cons (pg_name (i := 10) scRows.nd rfl (Or.inr rfl)) pgs_nil))))
          (pss_one (ps_for PassesOwn.never rfl (pi_range1 rfl T.rng (pa_cons (pe_callB call_len_seq rfl T.len PySem.boot_len (pa_cons (pv 10) pa_nil)) pa_nil)) (pg_name (i := 11) scRows.nd rfl (Or.inr rfl))
            (pss_one (ps_if (pt_val (pe_callB (call_allB rfl) rfl T.all boot_all (pa_cons (pe_compG ["_law_part"] [(1, "_law_names_here")] rfl (pi_tup (pe_slice sl_tupG (pv 10) po_none (po_some (pv 11)))) (caps_of rfl rfl) (by decide +kernel) rfl (by decide +kernel)
                (fun _ _ _ _ _ => pg_name (i := 0) (show (["_law_part", "_law_names_here"] : List Str).Nodup by decide +kernel) rfl (Or.inl rfl)) (fun _ _ _ _ _ => pif_nil) (fun _ _ _ _ _ => pe_cmpR (op_in_seqK K) (pv 0) (pv 1) rfl)) pa_nil)))
              (pss_cons (ps_set (i := 12) scRows.nd rfl (Or.inl rfl) (pe_lst (pa_cons (pe_ix ix_tup (pv 10) (pv 11) (fun _ _ => rfl)) pa_nil)))
              (pss_cons (ps_cutS (ps_if (pt_cmpR op_in_seq (pe_ix ix_tup (pv 10) (pv 11) (fun _ _ => rfl)) (pv 3) rfl)
                (pss_one (ps_setC (iy := 12) ["_law_name", "_law_word"] [(10, "_law_parts"), (11, "_law_place")] scRows.nd rfl rfl rfl (pi_list (pv 5)) (caps_of rfl rfl) (by decide +kernel) rfl (by decide +kernel)
                  (fun _ _ _ _ _ => pg_tupK (n := 2) K rfl (pgs_cons (pg_name (i := 0) (show (["_law_name", "_law_word", "_law_parts", "_law_place"] : List Str).Nodup by decide +kernel) rfl (Or.inl rfl)) (pgs_cons (pg_name (i := 1) (show (["_law_name", "_law_word", "_law_parts", "_law_place"] : List Str).Nodup by decide +kernel) rfl (Or.inl rfl)) pgs_nil)))
                  (fun _ _ _ _ _ => pif_one (pt_cmpR op_eq (pv 0) (pe_ix (ix_tupK K) (pv 2) (pv 3) (fun _ _ => rfl)) (nomark _))) (fun _ _ _ _ _ => pv 1))) pss_nil))
              (pss_one (ps_for PassesOwn.never rfl (pi_list (pv 12)) (pg_name (i := 13) scRows.nd rfl (Or.inl rfl))
                (pss_one (ps_if (pt_cmpR (op_notInP hu) (pe_tup (pa_cons (pv 9) (pa_cons (pv 13) pa_nil))) (pv 5) rfl)
                  (pss_cons (ps_expr (pe_bm PySem.F.plainAttrs_list PySem.F.slot_list_append PySem.F.type_list_append mt_append (pv 5) (pa_cons (pe_tup (pa_cons (pv 9) (pa_cons (pv 13) pa_nil))) pa_nil)))
                  (pss_one (ps_expr (pe_bm PySem.F.plainAttrs_list PySem.F.slot_list_append PySem.F.type_list_append mt_append (pv 4) (pa_cons (pe_tup (pa_cons (pv 9) (pa_cons (pv 13) (pa_cons (pv 8) (pa_cons (pv 11) pa_nil))))) pa_nil))))) pss_nil)))))) pss_nil)))))))))
      (pss_one (ps_ret (pv 4)))))), ?_⟩
    have ll := Paired.length hrl
    have hn0 : (0 : Int) < (rules.length : Int) := by omega
    have few : ∀ bs : List Tb, stB rules ns bs [] = true → bs.length ≤ 64 := fun bs h => by
      have h1 := rows_few (txs := txs) h fun ru hr => (h8 ru hr).2
      have h2 : rules.length * txs.length ≤ 8 * 8 := Nat.mul_le_mul hlen htx
      omega
    refine ⟨_, rfl, R, rfl, ⟨_, hR⟩, fun Dh hDh => comp_heads hR hrl (by omega) hDh fun H1 s1 eD1 => ?_⟩
    refine goN ?_
    refine ⟨(by show 0 ≤ sizeLine; decide), fun Lt hLt => ?_⟩
    have k2 := same_laid hLt (.lst [])
    have e2 : upd H1 Lt (.lst []) Lt = some (.lst []) := upd_same
    have eD2 := k2 _ _ eD1
    have nDT : Dh ≠ Lt := fun z => by rw [← z, eD1] at hLt; cases hLt
    have fLt : H Lt = none := s1.free hLt
    generalize upd H1 Lt (.lst []) = H2 at k2 e2 eD2
    refine ⟨(by show 0 ≤ sizeLine; decide), fun Lp hLp => ?_⟩
    have k3 := same_laid hLp (.lst [])
    have e3 : upd H2 Lp (.lst []) Lp = some (.lst []) := upd_same
    have e32 := k3 _ _ e2
    have eD3 := k3 _ _ eD2
    have nTP : Lt ≠ Lp := fun z => by rw [← z, e2] at hLp; cases hLp
    have nDP : Dh ≠ Lp := fun z => by rw [← z, eD2] at hLp; cases hLp
    have fLp : H Lp = none := (s1.trans k2).free hLp
    generalize upd H2 Lp (.lst []) = H3 at k3 e3 e32 eD3
    have s3 := (s1.trans k2).trans k3
    have S0 : RSt K rules ns H H3 Dh Lt Lp [] [] [] := ⟨s3, eD3, e32, e3, .nil, .nil, rfl⟩
    refine ⟨_, rfl, R, _, rfl, .inl (s3.seq hR), _, _, rfl, rfl, .inr ⟨by decide, by decide⟩, ((rules.length * 4 : Nat) : Int), (by show [V.int (((rs.map V.ref).length : Int) * 4)] = _; rw [List.length_map, ll]; rfl), by omega, by omega, ?_⟩
    rw [Int.toNat_natCast]
    refine for_range (n := rules.length * 4) (fun i σ H5 => ∃ (ts us : List Addr) (bs : List Tb) (y6 y7 y8 y9 y10 y11 y12 y13 : Option V), σ = [some (.ref R), some (.ref N), some (.int c), some (.ref Dh), some (.ref Lt), some (.ref Lp), y6, y7, y8, y9, y10, y11, y12, y13] ∧ RSt K rules ns H H5 Dh Lt Lp ts us bs ∧ ∀ w, ∀ x ∈ Ew rules (rtR rules c) ns w i, (x, w) ∈ bs.map (tbP rules) ∧ x ∈ M11.hm rules) ⟨[], [], [], none, none, none, none, none, none, none, none, rfl, S0, fun w x h => (by cases h)⟩ ?_ ?_
    · rintro i σ H5 hi ⟨ts, us, bs, y6, y7, y8, y9, y10, y11, y12, y13, rfl, S5, inv⟩
      refine goN ?_
      refine ⟨_, rfl, R, _, rfl, .inl (S5.sm.seq hR), _, rfl, by rw [List.length_map]; omega, by rw [List.length_map]; omega, ?_⟩
      rw [List.length_map, ll, Int.toNat_natCast]
      refine for_range (n := rules.length) (fun k σ H6 => ∃ (ts us : List Addr) (bs : List Tb) (y7 y8 y9 y10 y11 y12 y13 : Option V), σ = [some (.ref R), some (.ref N), some (.int c), some (.ref Dh), some (.ref Lt), some (.ref Lp), some (.int (0 + (i : Int))), y7, y8, y9, y10, y11, y12, y13] ∧ RSt K rules ns H H6 Dh Lt Lp ts us bs ∧ ∀ w, ∀ x ∈ ((rtR rules c).take k).foldl (stepG (cW (M11.hm rules) ns w)) (Ew rules (rtR rules c) ns w i), (x, w) ∈ bs.map (tbP rules) ∧ x ∈ M11.hm rules) ⟨ts, us, bs, _, _, _, _, _, _, _, rfl, S5, inv⟩ ?_ ?_
      · rintro k σ H6 hk6 ⟨ts, us, bs, y7, y8, y9, y10, y11, y12, y13, rfl, S6, inv6⟩
        obtain ⟨lr, er⟩ := rt_lt (show 0 < rules.length by omega) c k
        obtain ⟨ru, eru⟩ : ∃ ru, rules[rt rules.length c k]? = some ru := ⟨_, List.getElem?_eq_getElem lr⟩
        obtain ⟨r, err, p, v1, v2⟩ := Paired.at_ hrl _ ru eru
        have hru := List.mem_of_getElem? eru
        have h8r := (h8 ru hru).1
        have atr : atI (rs.map V.ref) (rt rules.length c k : Int) = some (.ref r) := atI_nat (by rw [List.getElem?_map, err]; rfl)
        have er2 : (0 + (k : Int) + c) % ((rs.map V.ref).length : Int) = (rt rules.length c k : Int) := by rw [List.length_map, ll, Int.zero_add]; exact er
        refine goN ?_
        refine ⟨fun σ H7 => H6 = H7 ∧ σ = [some (.ref R), some (.ref N), some (.int c), some (.ref Dh), some (.ref Lt), some (.ref Lp), some (.int (0 + (i : Int))), some (.int (0 + (k : Int))), some (.int (rt rules.length c k : Int)), y9, y10, y11, y12, y13], ?_, ?_⟩
        · refine ⟨_, rfl, _, rfl, _, _, rfl, rfl, _, rfl, R, _, rfl, .inl (S6.sm.seq hR), _, _, rfl, rfl, (by rw [List.length_map, ll]; exact hn0), ?_⟩
          exact ⟨rfl, by rw [← er2]; rfl⟩
        rintro σ H7 ⟨rfl, rfl⟩
        refine ⟨_, rfl, _, rfl, R, _, _, _, rfl, rfl, S6.sm.seq hR, atr, r, _, rfl, S6.sm.tup v1, rfl, _, _, rfl, _, _, rfl, rfl, ?_⟩
        refine ⟨_, rfl, p, _, rfl, .inr (S6.sm.tup v2), _, rfl, by rw [List.length_map]; omega, by rw [List.length_map]; omega, ?_⟩
        rw [List.length_map, Int.toNat_natCast]
        refine for_range (n := ru.2.length) (fun j σ H7 => ∃ (ts us : List Addr) (bs2 : List Tb) (y11 y12 y13 : Option V), σ = [some (.ref R), some (.ref N), some (.int c), some (.ref Dh), some (.ref Lt), some (.ref Lp), some (.int (0 + (i : Int))), some (.int (0 + (k : Int))), some (.int (rt rules.length c k : Int)), some (.str ru.1), some (.ref p), y11, y12, y13] ∧ RSt K rules ns H H7 Dh Lt Lp ts us bs2 ∧ (∀ x ∈ bs.map (tbP rules), x ∈ bs2.map (tbP rules)) ∧ DidN rules ns ru (bs.map (tbP rules)) (bs2.map (tbP rules)) j) ⟨ts, us, bs, _, _, _, rfl, S6, fun _ h => h, fun pl pp l => absurd l (Nat.not_lt_zero _)⟩ ?_ ?_
        · rintro j σ H7 hj ⟨ts, us, bs2, y11, y12, y13, rfl, S7, sub, did⟩
          obtain ⟨pt, ept⟩ : ∃ pt, ru.2[j]? = some pt := ⟨_, List.getElem?_eq_getElem hj⟩
          have atp : atI (ru.2.map V.str) (0 + (j : Int)) = some (.str pt) := by
            rw [Int.zero_add]
            exact atI_nat (by rw [List.getElem?_map, ept]; rfl)
          have cut : cutV (ru.2.map V.str) none (some (0 + (j : Int))) = (ru.2.take j).map V.str := by
            rw [Int.zero_add]
            unfold cutV
            rw [show HT.sIx (ru.2.map V.str).length 0 none = 0 from rfl, HT.sIx_nat, List.drop_zero, Nat.sub_zero, List.map_take, ← List.take_eq_take_min]
          refine goN ?_
          refine ⟨_, rfl, _, rfl, _, rfl, p, _, rfl, S7.sm.tup v2, fun p2 H8 s8 ep2 => ?_⟩
          rw [cut] at ep2
          refine ⟨p2, rfl, ⟨_, ep2⟩, fun D9 hD9 => comp_boolsT (zs := ru.2.take j) [some (.ref N)] (fun z => decide (z ∈ ns)) rfl ep2 (by rw [List.length_take]; omega) hD9 (fun z _ HA Qy sA hq => ?_) fun H9 s9 e9 => ?_⟩
          · refine ⟨_, rfl, _, rfl, N, _, rfl, .inl ((S7.sm.trans (s8.trans sA)).seq hN), rfl, flat_strs _, ?_⟩
            rw [inV_str]
            exact hq
          · have S9 := S7.same (s8.trans s9)
            refine ⟨D9, _, rfl, SqL.of e9, _, rfl, ?_⟩
            rw [all_map]
            cases ca : (ru.2.take j).all fun x => decide (x ∈ ns) with
            | false =>
              refine iteF ?_
              refine ⟨ts, us, bs2, _, _, _, rfl, S9, sub, fun pl pp l e o => ?_⟩
              by_cases cj : pl < j
              · exact did pl pp cj e o
              · have : pl = j := by omega
                subst this
                rw [List.all_eq_true.mpr fun x hx => decide_eq_true (o x hx)] at ca
                cases ca
            | true =>
              have opj : Op ns ru j := fun x hx => of_decide_eq_true (List.all_eq_true.mp ca x hx)
              refine iteT ?_
              refine ⟨_, rfl, _, rfl, p, _, _, _, rfl, rfl, S9.sm.tup v2, atp, (by show 1 ≤ sizeLine; decide), fun Dw hDw => ?_⟩
              have kA := same_laid hDw (.lst [V.str pt])
              have eA : upd H9 Dw (.lst [V.str pt]) Dw = some (.lst [V.str pt]) := upd_same
              generalize upd H9 Dw (.lst [V.str pt]) = HA at kA eA
              have SA := S9.same kA
              have lf := few bs2 SA.st
              have lus : us.length = bs2.length := by have := Paired.length SA.pP; rw [List.length_map] at this; exact this
              refine ⟨fun σ HB => ∃ (Dv : Addr) (wsl : List Str), σ = [some (.ref R), some (.ref N), some (.int c), some (.ref Dh), some (.ref Lt), some (.ref Lp), some (.int (0 + (i : Int))), some (.int (0 + (k : Int))), some (.int (rt rules.length c k : Int)), some (.str ru.1), some (.ref p), some (.int (0 + (j : Int))), some (.ref Dv), y13] ∧ Same HA HB ∧ HB Dv = some (.lst (wsl.map V.str)) ∧ H Dv = none ∧ Dv ≠ Lt ∧ Dv ≠ Lp ∧ (pt ∉ M11.hm rules → wsl = [pt]) ∧ (pt ∈ M11.hm rules → ∀ x, x ∈ wsl ↔ (pt, x) ∈ bs2.map (tbP rules)), ?_, ?_⟩
              · refine ⟨_, rfl, _, rfl, p, _, _, _, rfl, rfl, SA.sm.tup v2, atp, _, rfl, Dh, _, rfl, .inl (SqL.of SA.eH), rfl, flat_strs _, _, rfl, ?_⟩
                rw [inV_str]
                refine ite2 (fun cc => ?_) (fun cc => ?_)
                · have hin : pt ∈ M11.hm rules := of_decide_eq_true cc
                  refine ⟨_, rfl, Lp, rfl, ⟨_, SqL.of SA.eP⟩, fun DA hDA => compG_list (xs := us.map V.ref) (fun m ys σ2 HC => ys = ((((bs2.map (tbP rules)).take m).filter fun q => decide (q.1 = pt)).map fun q => V.str q.2) ∧ (∃ y0 y1, σ2 = [y0, y1, some (.ref p), some (.int (0 + (j : Int)))]) ∧ Same HA HC ∧ HC DA = some (.lst ys)) ⟨rfl, ⟨none, none, rfl⟩, same_laid hDA _, upd_same⟩ (fun m ys σ2 HC _ h => ?_) (fun m x ys σ2 HC ex h => ?_) (fun ys σ2 HC h => ?_)⟩
                  · obtain ⟨_, _, sm, _⟩ := h
                    exact SqL.of (sm _ _ SA.eP)
                  · obtain ⟨rfl, ⟨y0, y1, rfl⟩, sm, eD⟩ := h
                    rw [List.getElem?_map] at ex
                    obtain ⟨u, eu, rfl⟩ := Option.map_eq_some_iff.mp ex
                    have lm := (List.getElem?_eq_some_iff.mp eu).1
                    obtain ⟨qq, eqq⟩ : ∃ qq, (bs2.map (tbP rules))[m]? = some qq := ⟨_, List.getElem?_eq_getElem (by rw [List.length_map]; omega)⟩
                    obtain ⟨u', eu', vu⟩ := Paired.at_ SA.pP m qq eqq
                    rw [eu] at eu'
                    cases eu'
                    have tkq : ((bs2.map (tbP rules)).take (m + 1)).filter (fun q => decide (q.1 = pt)) = ((bs2.map (tbP rules)).take m).filter (fun q => decide (q.1 = pt)) ++ if decide (qq.1 = pt) = true then [qq] else [] := by
                      rw [List.take_add_one, eqq, List.filter_append]
                      congr 1
                      by_cases cz : decide (qq.1 = pt) = true
                      · rw [if_pos cz]
                        show List.filter _ [qq] = [qq]
                        rw [List.filter_cons, if_pos cz]; rfl
                      · rw [if_neg cz]
                        show List.filter _ [qq] = []
                        rw [List.filter_cons, if_neg cz]; rfl
                    have lfq : (((bs2.map (tbP rules)).take m).filter fun q => decide (q.1 = pt)).length ≤ 64 := Nat.le_trans (List.length_filter_le _ _) (by rw [List.length_take, List.length_map]; omega)
                    refine ⟨u, _, rfl, sm.tup vu, rfl, _, _, rfl, _, _, rfl, rfl, ?_⟩
                    refine ⟨_, rfl, _, rfl, _, rfl, p, _, _, _, rfl, rfl, (SA.sm.trans sm).tup v2, atp, rfl, _, rfl, ?_⟩
                    have dv : decide (V.str qq.1 = V.str pt) = decide (qq.1 = pt) := by
                      by_cases c : qq.1 = pt
                      · rw [c, decide_eq_true rfl, decide_eq_true rfl]
                      · rw [decide_eq_false c, decide_eq_false (fun z => c (by injection z))]
                    rw [dv]
                    refine ite2 (fun c3 => ?_) (fun c3 => ?_)
                    · refine ⟨_, rfl, eD, fits' (by rw [List.length_map]; omega), ?_, ⟨_, _, rfl⟩, fun b o hb => ?_, upd_same⟩
                      · rw [tkq, if_pos c3, List.map_append]; rfl
                      · rw [upd_ne (fun z => by rw [z, hDA] at hb; cases hb)]
                        exact sm b o hb
                    · exact ⟨by rw [tkq, if_neg c3, List.append_nil], ⟨_, _, rfl⟩, sm, eD⟩
                  · obtain ⟨rfl, _, sm, eD⟩ := h
                    rw [List.length_map, lus, ← List.length_map (f := tbP rules) (as := bs2), List.take_length] at eD
                    refine goN ?_
                    refine ⟨DA, ((bs2.map (tbP rules)).filter fun q => decide (q.1 = pt)).map (·.2), rfl, sm, by rw [eD, List.map_map]; rfl, SA.sm.free hDA, (fun z => by rw [z, SA.eT] at hDA; cases hDA), (fun z => by rw [z, SA.eP] at hDA; cases hDA), fun h => absurd hin h, fun _ x => ?_⟩
                    rw [List.mem_map]
                    constructor
                    · rintro ⟨q2, hq2, rfl⟩
                      obtain ⟨a1, a2⟩ := List.mem_filter.mp hq2
                      rw [← of_decide_eq_true a2]
                      exact a1
                    · exact fun hx => ⟨(pt, x), List.mem_filter.mpr ⟨hx, decide_eq_true rfl⟩, rfl⟩
                · have nin : pt ∉ M11.hm rules := fun z => cc (decide_eq_true z)
                  exact ⟨Dw, [pt], rfl, Same.refl _, eA, S9.sm.free hDw, (fun z => by rw [z, S9.eT] at hDw; cases hDw), (fun z => by rw [z, S9.eP] at hDw; cases hDw), fun _ => rfl, fun h => absurd h nin⟩
              rintro σ HB ⟨Dv, wsl, rfl, sB, eB, fDv, nvT, nvP, w1, w2⟩
              have SB := SA.same sB
              refine ⟨_, rfl, Dv, rfl, ⟨_, SqL.of eB⟩, ?_⟩
              refine for_list (xs := wsl.map V.str) (fun m σ HC => ∃ (ts us : List Addr) (bs3 : List Tb) (y13 : Option V), σ = [some (.ref R), some (.ref N), some (.int c), some (.ref Dh), some (.ref Lt), some (.ref Lp), some (.int (0 + (i : Int))), some (.int (0 + (k : Int))), some (.int (rt rules.length c k : Int)), some (.str ru.1), some (.ref p), some (.int (0 + (j : Int))), some (.ref Dv), y13] ∧ RSt K rules ns H HC Dh Lt Lp ts us bs3 ∧ HC Dv = some (.lst (wsl.map V.str)) ∧ (∀ x ∈ bs2.map (tbP rules), x ∈ bs3.map (tbP rules)) ∧ ∀ x ∈ wsl.take m, (ru.1, x) ∈ bs3.map (tbP rules)) ⟨ts, us, bs2, _, rfl, SB, eB, fun _ h => h, fun x h => (by simp at h)⟩ ?_ ?_ ?_
              · rintro m σ HC _ ⟨ts, us, bs3, y13, rfl, SC, eV, _⟩
                exact SqL.of eV
              · rintro m x σ HC ex ⟨ts, us, bs3, y13, rfl, SC, eV, sub3, al⟩
                rw [List.getElem?_map] at ex
                obtain ⟨wd, ewd, rfl⟩ := Option.map_eq_some_iff.mp ex
                have hwd := List.mem_of_getElem? ewd
                have tkw : wsl.take (m + 1) = wsl.take m ++ [wd] := by rw [List.take_add_one, ewd]; rfl
                refine goN ?_
                refine ⟨_, rfl, _, rfl, (by show 2 ≤ sizeLine; decide), fun u1 hu1 => ?_⟩
                have kD := same_laid hu1 (.tup [V.str ru.1, V.str wd])
                have eu1 : SqT K (upd HC u1 (.tup [V.str ru.1, V.str wd])) u1 [.str ru.1, .str wd] := SqT.of upd_same
                generalize upd HC u1 (.tup [V.str ru.1, V.str wd]) = HD at kD eu1
                have SD := SC.same kD
                have eVD := kD _ _ eV
                refine ⟨_, rfl, u1, Lp, (ru.1, wd), us, bs3.map (tbP rules), rfl, rfl, eu1, SqL.of SD.eP, SD.pP, _, rfl, ?_⟩
                show if (!decide ((ru.1, wd) ∈ bs3.map (tbP rules))) = true then _ else _
                have lf3 := few bs3 SD.st
                have lts := Paired.length SD.pT
                have lus3 : us.length = bs3.length := by have := Paired.length SD.pP; rw [List.length_map] at this; exact this
                refine ite2 (fun cc => ?_) (fun cc => ?_)
                · have nin : (ru.1, wd) ∉ bs3.map (tbP rules) := by simpa using cc
                  have okb : okB rules ns (bs3.map (tbP rules)) ru wd j = true := okB_iff.mpr ⟨nin, pt, ept, opj, by
                    by_cases hp : pt ∈ M11.hm rules
                    · exact .inr (sub3 _ ((w2 hp wd).mp hwd))
                    · have h1 := w1 hp
                      rw [h1] at hwd
                      have h2 := List.mem_singleton.mp hwd
                      exact .inl ⟨h2.symm, h2 ▸ hp⟩⟩
                  refine ⟨_, rfl, .inl ⟨rfl, _, SqL.of SD.eP⟩, _, rfl, _, rfl, (by show 2 ≤ sizeLine; decide), fun u2 hu2 => ?_⟩
                  have kE := same_laid hu2 (.tup [V.str ru.1, V.str wd])
                  have eu2 : SqT K (upd HD u2 (.tup [V.str ru.1, V.str wd])) u2 [.str ru.1, .str wd] := SqT.of upd_same
                  generalize upd HD u2 (.tup [V.str ru.1, V.str wd]) = HE at kE eu2
                  have SE := SD.same kE
                  have eVE := kE _ _ eVD
                  refine ⟨Lp, _, _, rfl, rfl, SE.eP, fits' (by rw [List.length_map]; omega), ?_⟩
                  have tk1 : ∀ a xs, SqT K HE a xs → SqT K (upd HE Lp (.lst (us.map V.ref ++ [.ref u2]))) a xs := fun a xs z => sqt_upd SE.eP z
                  have sm1 : Same H (upd HE Lp (.lst (us.map V.ref ++ [.ref u2]))) := fun b o hb => by
                    rw [upd_ne (fun z => by rw [z, fLp] at hb; cases hb)]; exact SE.sm b o hb
                  have eH1 : upd HE Lp (.lst (us.map V.ref ++ [.ref u2])) Dh = some (.lst ((M11.hm rules).map V.str)) := by rw [upd_ne nDP]; exact SE.eH
                  have eT1 : upd HE Lp (.lst (us.map V.ref ++ [.ref u2])) Lt = some (.lst (ts.map V.ref)) := by rw [upd_ne nTP]; exact SE.eT
                  have eP1 : upd HE Lp (.lst (us.map V.ref ++ [.ref u2])) Lp = some (.lst ((us ++ [u2]).map V.ref)) := by rw [upd_same, List.map_append]; rfl
                  have eV1 : upd HE Lp (.lst (us.map V.ref ++ [.ref u2])) Dv = some (.lst (wsl.map V.str)) := by rw [upd_ne nvP]; exact eVE
                  have pT1 : Paired (TbV K rules (upd HE Lp (.lst (us.map V.ref ++ [.ref u2])))) ts bs3 := Paired.mapP SE.pT fun a b ⟨r2, x1, x2⟩ => ⟨r2, x1, tk1 _ _ x2⟩
                  have pP1 : Paired (fun t (q : Str × Str) => SqT K (upd HE Lp (.lst (us.map V.ref ++ [.ref u2]))) t [.str q.1, .str q.2]) (us ++ [u2]) (bs3.map (tbP rules) ++ [(ru.1, wd)]) := Paired.snoc (Paired.mapP SE.pP fun a b z => tk1 _ _ z) (tk1 _ _ eu2)
                  generalize upd HE Lp (.lst (us.map V.ref ++ [.ref u2])) = HF at sm1 eH1 eT1 eP1 eV1 pT1 pP1
                  refine ⟨_, rfl, .inl ⟨rfl, _, SqL.of eT1⟩, _, rfl, _, rfl, _, rfl, _, rfl, (by show 4 ≤ sizeLine; decide), fun u3 hu3 => ?_⟩
                  have kG := same_laid hu3 (.tup [V.str ru.1, V.str wd, V.int (rt rules.length c k : Int), V.int (0 + (j : Int))])
                  have eu3 : SqT K (upd HF u3 (.tup [V.str ru.1, V.str wd, V.int (rt rules.length c k : Int), V.int (0 + (j : Int))])) u3 [.str ru.1, .str wd, .int (rt rules.length c k : Int), .int (0 + (j : Int))] := SqT.of upd_same
                  generalize upd HF u3 (.tup [V.str ru.1, V.str wd, V.int (rt rules.length c k : Int), V.int (0 + (j : Int))]) = HG at kG eu3
                  rw [show [V.str ru.1, V.str wd, V.int (rt rules.length c k : Int), V.int (0 + (j : Int))] = [V.str ru.1, V.str wd, V.int (rt rules.length c k : Int), V.int (j : Int)] by rw [Int.zero_add]] at eu3
                  have eTG := kG _ _ eT1
                  refine ⟨Lt, _, _, rfl, rfl, eTG, fits' (by rw [List.length_map]; omega), ?_⟩
                  have tk2 : ∀ a xs, SqT K HG a xs → SqT K (upd HG Lt (.lst (ts.map V.ref ++ [.ref u3]))) a xs := fun a xs z => sqt_upd eTG z
                  have etb : tbP rules (rt rules.length c k, wd, j) = (ru.1, wd) := by unfold tbP; rw [hk_of eru]
                  have emap : (bs3 ++ [((rt rules.length c k, wd, j) : Tb)]).map (tbP rules) = bs3.map (tbP rules) ++ [(ru.1, wd)] := by rw [List.map_append]; show _ ++ [tbP rules _] = _; rw [etb]
                  refine ⟨ts ++ [u3], us ++ [u2], bs3 ++ [(rt rules.length c k, wd, j)], _, rfl, ⟨fun b o hb => ?_, ?_, by rw [upd_same, List.map_append]; rfl, ?_, Paired.snoc (Paired.mapP pT1 fun a b ⟨r2, x1, x2⟩ => ⟨r2, x1, tk2 _ _ (kG.tup x2)⟩) ⟨ru, eru, tk2 _ _ eu3⟩, ?_, stB_snoc (t := (rt rules.length c k, wd, j)) eru bs3 [] SC.st (by rw [List.nil_append]; exact okb)⟩, ?_, fun x hx => ?_, fun x hx => ?_⟩
                  · rw [upd_ne (fun z => by rw [z, fLt] at hb; cases hb)]; exact kG _ _ (sm1 b o hb)
                  · rw [upd_ne nDT]; exact kG _ _ eH1
                  · rw [upd_ne (Ne.symm nTP)]; exact kG _ _ eP1
                  · rw [emap]
                    exact Paired.mapP pP1 fun a b z => tk2 _ _ (kG.tup z)
                  · rw [upd_ne nvT]; exact kG _ _ eV1
                  · rw [emap]; exact List.mem_append_left _ (sub3 x hx)
                  · rw [emap]
                    rw [tkw] at hx
                    rcases List.mem_append.mp hx with h | h
                    · exact List.mem_append_left _ (al x h)
                    · rw [List.mem_singleton.mp h]; exact List.mem_append_right _ (List.mem_singleton.mpr rfl)
                · have inn : (ru.1, wd) ∈ bs3.map (tbP rules) := Classical.byContradiction fun z => cc (by rw [decide_eq_false z]; rfl)
                  refine ⟨ts, us, bs3, _, rfl, SD, eVD, sub3, fun x hx => ?_⟩
                  rw [tkw] at hx
                  rcases List.mem_append.mp hx with h | h
                  · exact al x h
                  · rw [List.mem_singleton.mp h]; exact inn
              · rintro σ HC ⟨ts, us, bs3, y13, rfl, SC, eV, sub3, al⟩
                rw [List.length_map, List.take_length] at al
                refine ⟨ts, us, bs3, _, _, _, rfl, SC, fun x hx => sub3 x (sub x hx), fun pl pp l e o => ?_⟩
                by_cases cj : pl < j
                · obtain ⟨a1, a2⟩ := did pl pp cj e o
                  exact ⟨fun n => sub3 _ (a1 n), fun h w hw => sub3 _ (a2 h w hw)⟩
                · have : pl = j := by omega
                  subst this
                  rw [ept] at e
                  cases e
                  refine ⟨fun n => al pt ?_, fun h w hw => al w ((w2 h w).mpr (sub _ hw))⟩
                  rw [w1 n]
                  exact List.mem_singleton.mpr rfl
        · rintro σ H7 ⟨ts, us, bs2, y11, y12, y13, rfl, S7, sub, did⟩
          refine ⟨ts, us, bs2, _, _, _, _, _, _, _, rfl, S7, fun w => ?_⟩
          have dd : Did rules ns ru (bs.map (tbP rules)) (bs2.map (tbP rules)) := fun pl pp e o => did pl pp (List.getElem?_eq_some_iff.mp e).1 e o
          have h := did_step (w := w) dd sub (fun x hx => (inv6 w x hx).2) hru (fun x hx => (inv6 w x hx).1)
          rw [List.take_add_one, rtR_at hk6 eru, List.foldl_append]
          exact fun x hx => ⟨h.1 x hx, h.2 x hx⟩
      · rintro σ H6 ⟨ts, us, bs, y7, y8, y9, y10, y11, y12, y13, rfl, S6, inv6⟩
        refine ⟨ts, us, bs, _, _, _, _, _, _, _, _, rfl, S6, fun w x hx => inv6 w x ?_⟩
        rw [List.take_of_length_le (by rw [rtR_len]; exact Nat.le_refl _)]
        exact hx
    · rintro σ H5 ⟨ts, us, bs, y6, y7, y8, y9, y10, y11, y12, y13, rfl, S5, inv⟩
      have lf := few bs S5.st
      exact ⟨_, rfl, q Lt ts bs H5 fLt S5.sm S5.eT S5.pT S5.st (rows_cl (c := c) S5.st (by omega) fun w x hx => (inv w x hx).1) (by omega)⟩
end
end K11
namespace K11
open PySem L2 M11
abbrev sCell : Stmt := top 11
abbrev sNames : Stmt := top 12
abbrev sWordsL : Stmt := top 13
abbrev sDigits : Stmt := top 14
abbrev sMore : Stmt := top 16
abbrev sEnded : Stmt := top 17
theorem atM {zs : List Str} {m : Int} (h : (zs.length : Int) = m) (hm : 0 < m) (n : Int) : ∃ z ∈ zs, atI (zs.map V.str) (n % m) = some (.str z) := by
  subst h
  have h1 := Int.emod_lt_of_pos n hm
  have h2 := Int.emod_nonneg n (show (zs.length : Int) ≠ 0 by omega)
  have l : (n % (zs.length : Int)).toNat < zs.length := by omega
  have e : n % (zs.length : Int) = (((n % (zs.length : Int)).toNat : Nat) : Int) := by omega
  refine ⟨zs[(n % (zs.length : Int)).toNat], List.getElem_mem l, ?_⟩
  have t : atI (zs.map V.str) (((n % (zs.length : Int)).toNat : Nat) : Int) = some (.str zs[(n % (zs.length : Int)).toNat]) := atI_nat (by rw [List.getElem?_map, List.getElem?_eq_getElem l]; rfl)
  rw [← e] at t
  exact t
def pick3 {α : Type} (i : Nat) (x y z : α) : α := match i with | 0 => x | 1 => y | _ => z
theorem lit3 {H : Hp} {L1 L2 L3 LL : Addr} {xs ys zs : List V} (h1 : H L1 = none) (h2 : upd H L1 (.lst xs) L2 = none) (h3 : upd (upd H L1 (.lst xs)) L2 (.lst ys) L3 = none)
    (h4 : upd (upd (upd H L1 (.lst xs)) L2 (.lst ys)) L3 (.lst zs) LL = none) : Same H (upd (upd (upd (upd H L1 (.lst xs)) L2 (.lst ys)) L3 (.lst zs)) LL (.lst [.ref L1, .ref L2, .ref L3])) ∧ ∀ i : Nat, i < 3 → ∃ Li, atI [V.ref L1, V.ref L2, V.ref L3] (i : Int) = some (.ref Li) ∧ H Li = none ∧
      upd (upd (upd (upd H L1 (.lst xs)) L2 (.lst ys)) L3 (.lst zs)) LL (.lst [.ref L1, .ref L2, .ref L3]) Li = some (.lst (pick3 i xs ys zs)) := by
  have s1 := same_laid h1 (.lst xs)
  have s2 := same_laid h2 (.lst ys)
  have s3 := same_laid h3 (.lst zs)
  have s4 := same_laid h4 (.lst [.ref L1, .ref L2, .ref L3])
  refine ⟨s1.trans (s2.trans (s3.trans s4)), fun i hi => ?_⟩
  match i, hi with
  | 0, _ => exact ⟨L1, rfl, h1, s4 _ _ (s3 _ _ (s2 _ _ upd_same))⟩
  | 1, _ => exact ⟨L2, rfl, s1.free h2, s4 _ _ (s3 _ _ upd_same)⟩
  | 2, _ => exact ⟨L3, rfl, s1.free (s2.free h3), s4 _ _ upd_same⟩
def nmL (i : Nat) : List Str := pick3 i ["s", "t", "u", "w", "v"] ["b", "aa", "k", "bb", "e"] ["a", "ab", "n", "d", "aba"]
def wdL (i : Nat) : List Str := pick3 i ["a", "b", "c"] ["ab", "a", "c"] ["b", "+", "ba"]
theorem nm_pick (i : Nat) : pick3 i [V.str "s", V.str "t", V.str "u", V.str "w", V.str "v"] [V.str "b", V.str "aa", V.str "k", V.str "bb", V.str "e"] [V.str "a", V.str "ab", V.str "n", V.str "d", V.str "aba"] = (nmL i).map V.str := by
  match i with
  | 0 => rfl
  | 1 => rfl
  | _ + 2 => rfl
theorem wd_pick (i : Nat) : pick3 i [V.str "a", V.str "b", V.str "c"] [V.str "ab", V.str "a", V.str "c"] [V.str "b", V.str "+", V.str "ba"] = (wdL i).map V.str := by
  match i with
  | 0 => rfl
  | 1 => rfl
  | _ + 2 => rfl
theorem nm_len (i : Nat) : (nmL i).length = 5 := by
  match i with
  | 0 => rfl
  | 1 => rfl
  | _ + 2 => rfl
theorem wd_len (i : Nat) : (wdL i).length = 3 := by
  match i with
  | 0 => rfl
  | 1 => rfl
  | _ + 2 => rfl
theorem nm_short (i : Nat) : ∀ z ∈ nmL i, z.length ≤ 3 := by
  match i with
  | 0 => decide +kernel
  | 1 => decide +kernel
  | n + 2 => exact (by decide +kernel : ∀ z ∈ nmL 2, z.length ≤ 3)
theorem rep_short {j : Nat} (h : j < 3) : (repS "y" j).length ≤ 2 := by
  match j, h with
  | 0, _ => decide +kernel
  | 1, _ => decide +kernel
  | 2, _ => decide +kernel
section
variable {P : Program} {w : World} {K : PySem.W.Frag} {mg : Str → Option Value} {base : Heap} {f : Addr} {fd : FuncData}
def cellAt (ns : List Int) (k : Nat) : Int := (ns[k]?).getD 0
def spCell (K : PySem.W.Frag) : Sp := fun vs H Q _ => ∃ (a : Addr) (ns : List Int) (k : Nat), vs = [.ref a, .int (k : Int)] ∧ SqL K H a (ns.map V.int) ∧ ns.length ≤ 1000 ∧ ∀ n : Int, n = cellAt ns k → Q (.int n) H
theorem scCell : FnScope ["_law_script", "_law_k"] ["_law_script", "_law_k"] (defScope sCell) := ⟨rfl, rfl, rfl, by decide +kernel, rfl, by decide +kernel, by decide +kernel⟩
theorem ok_cell (F : Fun K "_law_cell_at" "_law_cell_at" sCell f fd) (T : Txt mg) : FnOk P w K mg base CX0 1 f fd ["_law_script", "_law_k"] (spCell K) := by
  refine F.ok scCell (fun vs H Q E h => ?_) (fun cdv A outer s H vs Q E hr h => ?_)
  · obtain ⟨a, ns, k, rfl, _⟩ := h; rfl
  · obtain ⟨a, ns, k, rfl, hS, hn, q⟩ := h
    refine ⟨_, pss_cons (ps_if (pt_cmpR op_lt (pv 1) (pe_callB call_len_seq rfl T.len PySem.boot_len (pa_cons (pv 0) pa_nil)) (nomark _)) (pss_one (ps_ret (pe_ix ix_list (pv 0) (pv 1) (fun _ _ => rfl)))) pss_nil) (pss_one (ps_ret pe_int)), ?_⟩
    refine ⟨_, rfl, _, rfl, a, _, rfl, .inl hS, _, _, rfl, rfl, _, rfl, ?_⟩
    refine ite2 (fun cc => ?_) (fun cc => q 0 ?_)
    rotate_left
    · have ge : ¬ ((k : Int) < ((ns.map V.int).length : Int)) := fun z => cc (decide_eq_true z)
      rw [List.length_map] at ge
      unfold cellAt
      rw [List.getElem?_eq_none (by omega)]
      rfl
    have lt := of_decide_eq_true cc
    rw [List.length_map] at lt
    have lt' : k < ns.length := by omega
    refine ⟨_, rfl, _, rfl, a, _, _, .int ns[k], rfl, rfl, hS, atI_nat (by rw [List.getElem?_map, List.getElem?_eq_getElem lt']; rfl), q _ (by unfold cellAt; rw [List.getElem?_eq_getElem lt']; rfl)⟩
def spDigits : Sp := fun vs H Q _ => ∃ (c : Int) (m : Nat) (S : Addr) (zs : List Str), vs = [.int c, .int (m : Int), .ref S] ∧ m ≤ 100 ∧ H S = some (.lst (zs.map V.str)) ∧ 0 < zs.length ∧ zs.length ≤ 1000 ∧ ∀ (p : Addr) (ps : List Str) (H' : Hp), Same H H' → H' p = some (.tup (ps.map V.str)) → ps.length = m → (∀ x ∈ ps, x ∈ zs) → Q (.ref p) H'
theorem scDigits : FnScope ["_law_cell", "_law_many", "_law_some", "_law_parts", "_law_seed", "_law_k"] ["_law_cell", "_law_many", "_law_some"] (defScope sDigits) := ⟨rfl, rfl, rfl, by decide +kernel, rfl, by decide +kernel, by decide +kernel⟩
theorem ok_digits (F : Fun K "_law_digits" "_law_digits" sDigits f fd) (T : Txt mg) : FnOk P w K mg base CX0 1 f fd ["_law_cell", "_law_many", "_law_some"] spDigits := by
  refine F.ok scDigits (fun vs H Q E h => ?_) (fun cdv A outer s H vs Q E hr h => ?_)
  · obtain ⟨c, m, S, zs, rfl, _⟩ := h; rfl
  · obtain ⟨c, m, S, zs, rfl, hm, hS, hz0, hz1, q⟩ := h
    refine ⟨_, pss_cons (ps_set (i := 3) scDigits.nd rfl (Or.inl rfl) (pe_lst pa_nil))
      (pss_cons (ps_set (i := 4) scDigits.nd rfl (Or.inl rfl) (pe_op op_add (pe_op op_mod (pv 0) pe_int) pe_int))
      (pss_cons (ps_for PassesOwn.never rfl (pi_range1 rfl T.rng (pa_cons (pv 1) pa_nil)) (pg_name (i := 5) scDigits.nd rfl (Or.inl rfl))
        (pss_one (ps_if (pt_cmpR op_gt (pv 0) pe_int (nomark _))
          (pss_cons (ps_expr (pe_bm PySem.F.plainAttrs_list PySem.F.slot_list_append PySem.F.type_list_append mt_append (pv 3) (pa_cons (pe_ix ix_list (pv 2) (pe_op op_mod (pe_op op_sub (pv 0) pe_int) (pe_callB call_len_seq rfl T.len PySem.boot_len (pa_cons (pv 2) pa_nil))) (fun _ _ => rfl)) pa_nil)))
          (pss_one (ps_set (i := 0) scDigits.nd rfl (Or.inl rfl) (pe_op op_fdiv (pe_op op_sub (pv 0) pe_int) (pe_callB call_len_seq rfl T.len PySem.boot_len (pa_cons (pv 2) pa_nil))))))
          (pss_cons (ps_set (i := 4) scDigits.nd rfl (Or.inl rfl) (pe_op op_mod (pe_op op_mul (pv 4) pe_int) pe_int))
          (pss_one (ps_expr (pe_bm PySem.F.plainAttrs_list PySem.F.slot_list_append PySem.F.type_list_append mt_append (pv 3) (pa_cons (pe_ix ix_list (pv 2) (pe_op op_mod (pe_op op_fdiv (pv 4) pe_int) (pe_callB call_len_seq rfl T.len PySem.boot_len (pa_cons (pv 2) pa_nil))) (fun _ _ => rfl)) pa_nil))))))))
      (pss_one (ps_ret (pe_callTy call_tuple_of rfl T.tup PyProof.Rows.boot_tuple (pa_cons (pv 3) pa_nil)))))), ?_⟩
    have hzi : (0 : Int) < (zs.length : Int) := by omega
    refine ⟨(by show 0 ≤ sizeLine; decide), fun L hL => ?_⟩
    have hS1 := same_laid hL (.lst []) _ _ hS
    have nS : S ≠ L := fun z => by rw [z, hL] at hS; cases hS
    refine ⟨_, rfl, _, _, rfl, rfl, (by show (0 : Int) < 2147483647; decide), _, _, rfl, rfl, ?_⟩
    refine ⟨_, rfl, (m : Int), rfl, by omega, by omega, ?_⟩
    rw [Int.toNat_natCast m]
    refine for_range (n := m) (fun i σ H2 => ∃ (c2 c4 : Int) (k2 : Option V) (ps : List Str), σ = [some (.int c2), some (.int (m : Int)), some (.ref S), some (.ref L), some (.int c4), k2] ∧ H2 = upd H L (.lst (ps.map V.str)) ∧ ps.length = i ∧ ∀ x ∈ ps, x ∈ zs) ⟨c, _, none, [], rfl, rfl, rfl, fun _ h => (by cases h)⟩ ?_ ?_
    · rintro i σ H2 hi ⟨c2, c4, k2, ps, rfl, rfl, hp, hpm⟩
      have eS : upd H L (.lst (ps.map V.str)) S = some (.lst (zs.map V.str)) := by rw [upd_ne nS]; exact hS
      refine goN ?_
      refine ⟨_, rfl, _, _, rfl, rfl, _, rfl, ?_⟩
      refine ite2 (fun _ => ?_) (fun _ => ?_)
      · obtain ⟨z, hzm, ez⟩ := atM (zs := zs) rfl hzi (c2 - 1)
        refine ⟨_, rfl, .inl ⟨rfl, _, SqL.of upd_same⟩, _, rfl, _, rfl, _, _, rfl, rfl, _, rfl, S, _, rfl, .inl (SqL.of eS), _, _, rfl, rfl, (by rw [List.length_map]; exact hzi), ?_⟩
        rw [List.length_map]
        refine ⟨S, _, _, _, rfl, rfl, SqL.of eS, ez, L, _, _, rfl, rfl, upd_same, fits' (by rw [List.length_map]; omega), ?_⟩
        rw [upd_upd]
        have eS2 : upd H L (.lst (ps.map V.str ++ [.str z])) S = some (.lst (zs.map V.str)) := by rw [upd_ne nS]; exact hS
        refine ⟨_, rfl, _, _, rfl, rfl, _, rfl, S, _, rfl, .inl (SqL.of eS2), _, _, rfl, rfl, (by rw [List.length_map]; exact ⟨hzi, by show (zs.length : Int) < 1073741824; omega⟩), ?_⟩
        rw [List.length_map]
        exact ⟨_, _, _, ps ++ [z], rfl, by rw [List.map_append]; rfl, by rw [List.length_append, hp]; rfl, fun x hx => (List.mem_append.mp hx).elim (hpm x) fun h => (List.mem_singleton.mp h) ▸ hzm⟩
      · refine ⟨_, rfl, _, _, rfl, rfl, .inr ⟨by decide, by decide⟩, _, _, rfl, rfl, (by show (0 : Int) < 2147483647; decide), ?_⟩
        obtain ⟨z, hzm, ez⟩ := atM (zs := zs) rfl hzi (c4 * 48271 % 2147483647 / 3)
        refine ⟨_, rfl, .inl ⟨rfl, _, SqL.of upd_same⟩, _, rfl, _, rfl, _, _, rfl, rfl, ⟨by decide, by decide⟩, _, rfl, S, _, rfl, .inl (SqL.of eS), _, _, rfl, rfl, (by rw [List.length_map]; exact hzi), ?_⟩
        rw [List.length_map]
        refine ⟨S, _, _, _, rfl, rfl, SqL.of eS, ez, L, _, _, rfl, rfl, upd_same, fits' (by rw [List.length_map]; omega), ?_⟩
        rw [upd_upd]
        exact ⟨_, _, _, ps ++ [z], rfl, by rw [List.map_append]; rfl, by rw [List.length_append, hp]; rfl, fun x hx => (List.mem_append.mp hx).elim (hpm x) fun h => (List.mem_singleton.mp h) ▸ hzm⟩
    · rintro σ H2 ⟨c2, c4, k2, ps, rfl, rfl, hp, hpm⟩
      refine ⟨_, rfl, L, _, rfl, .inl ⟨SqL.of upd_same, fun p hp2 => ?_⟩⟩
      exact q p ps _ ((same_laid hL _).trans (same_laid hp2 _)) upd_same hp hpm
def i3 (c : Int) : Nat := (c / 72 % 3).toNat
def j3 (c : Int) : Nat := (c / 3 % 3).toNat
theorem i3_is (c : Int) : i3 c < 3 ∧ c / 72 % 3 = (i3 c : Int) := by unfold i3; omega
theorem j3_is (c : Int) : j3 c < 3 ∧ c / 3 % 3 = (j3 c : Int) := by unfold j3; omega
def gWords (c : Int) : List Str := wdL (i3 c)
theorem gWords_len (c : Int) : (gWords c).length = 3 := wd_len _
def spNames : Sp := fun vs H Q _ => ∃ (c : Int), vs = [.int c] ∧ ∀ (N : Addr) (nms : List Str) (H' : Hp), H N = none → Same H H' → H' N = some (.lst (nms.map V.str)) → 1 ≤ nms.length → nms.length ≤ 5 → Q (.ref N) H'
theorem scNames : FnScope ["_law_cell", "_law_some", "_law_many"] ["_law_cell"] (defScope sNames) := ⟨rfl, rfl, rfl, by decide +kernel, rfl, by decide +kernel, by decide +kernel⟩
theorem ok_names (F : Fun K "_law_names" "_law_names" sNames f fd) (T : Txt mg) : FnOk P w K mg base CX0 1 f fd ["_law_cell"] spNames := by
  refine F.ok scNames (fun vs H Q E h => ?_) (fun cdv A outer s H vs Q E hr h => ?_)
  · obtain ⟨c, rfl, _⟩ := h; rfl
  · obtain ⟨c, rfl, q⟩ := h
    refine ⟨_, @pss_cons _ _ _ _ _ (@ps_set _ _ 1 _ _ _ _ scNames.nd rfl (Or.inl rfl) (@pe_ix _ _ _ _ _ _ _ ix_list (@pe_lst _ _ _ _ (@pa_cons _ _ _ _ _ (@pe_lst _ _ _ _ (@pa_cons _ _ _ _ _ (@pe_str _ _ _ _) (@pa_cons _ _ _ _ _ (@pe_str _ _ _ _) (@pa_cons _ _ _ _ _ (@pe_str _ _ _ _) (@pa_cons _ _ _ _ _ (@pe_str _ _ _ _) (@pa_cons _ _ _ _ _ (@pe_str _ _ _ _) (@pa_nil _) rfl) rfl) rfl) rfl) rfl)) (@pa_cons _ _ _ _ _ (@pe_lst _ _ _ _ (@pa_cons _ _ _ _ _ (@pe_str _ _ _ _) (@pa_cons _ _ _ _ _ (@pe_str _ _ _ _) (@pa_cons _ _ _ _ _ (@pe_str _ _ _ _) (@pa_cons _ _ _ _ _ (@pe_str _ _ _ _) (@pa_cons _ _ _ _ _ (@pe_str _ _ _ _) (@pa_nil _) rfl) rfl) rfl) rfl) rfl)) (@pa_cons _ _ _ _ _ (@pe_lst _ _ _ _ (@pa_cons _ _ _ _ _ (@pe_str _ _ _ _) (@pa_cons _ _ _ _ _ (@pe_str _ _ _ _) (@pa_cons _ _ _ _ _ (@pe_str _ _ _ _) (@pa_cons _ _ _ _ _ (@pe_str _ _ _ _) (@pa_cons _ _ _ _ _ (@pe_str _ _ _ _) (@pa_nil _) rfl) rfl) rfl) rfl) rfl)) (@pa_nil _) rfl) rfl) rfl)) (pe_op op_mod (pe_op op_fdiv (pv 0) pe_int) pe_int) (fun _ _ => rfl)) rfl (.inr rfl))
      (pss_cons (ps_set (i := 2) scNames.nd rfl (Or.inl rfl) (pe_op op_add pe_int (pe_op op_mod (pv 0) pe_int)))
      (pss_cons (ps_cutS (ps_if (pt_cmpR op_eq (pe_op op_mod (pe_op op_fdiv (pv 0) pe_int) pe_int) pe_int (nomark _)) (pss_one (ps_set (i := 2) scNames.nd rfl (Or.inl rfl) pe_int)) pss_nil))
      (pss_one (ps_ret (pe_compG ["_law_name"] [(0, "_law_cell")] rfl (pi_list (pe_slice sl_list (pv 1) po_none (po_some (pv 2)))) (caps_of rfl rfl) (by decide +kernel) rfl (by decide +kernel)
        (fun _ _ _ _ _ => pg_name (i := 0) (show (["_law_name", "_law_cell"] : List Str).Nodup by decide +kernel) rfl (Or.inl rfl)) (fun _ _ _ _ _ => pif_nil)
        (fun _ _ _ _ _ => pe_op op_add_str (pv 0) (pe_op op_mulS pe_str (pe_op op_mod (pe_op op_fdiv (pv 1) pe_int) pe_int)))))))), ?_⟩
    obtain ⟨hi, ei⟩ := i3_is c
    obtain ⟨hj, ej⟩ := j3_is c
    refine ⟨(by show 5 ≤ sizeLine; decide), fun L1 h1 => ⟨(by show 5 ≤ sizeLine; decide), fun L2 h2 => ⟨(by show 5 ≤ sizeLine; decide), fun L3 h3 => ⟨(by show 3 ≤ sizeLine; decide), fun LL hLL => ?_⟩⟩⟩⟩
    obtain ⟨s1, p1⟩ := lit3 h1 h2 h3 hLL
    obtain ⟨Li, a1, f1, e1⟩ := p1 (i3 c) hi
    rw [nm_pick] at e1
    refine ⟨_, rfl, _, _, rfl, rfl, ⟨by decide, by decide⟩, _, _, rfl, rfl, (by show (0 : Int) < 3; decide), ?_⟩
    refine ⟨LL, _, (i3 c : Int), .ref Li, rfl, congrArg V.int ei, SqL.of upd_same, a1, ?_⟩
    generalize upd (upd (upd (upd H L1 _) L2 _) L3 _) LL _ = H1 at s1 e1
    refine ⟨_, rfl, _, _, rfl, rfl, (by show (0 : Int) < 3; decide), _, _, rfl, rfl, ?_⟩
    refine ⟨fun σ H2 => ∃ m : Nat, 1 ≤ m ∧ m ≤ 5 ∧ σ = [some (.int c), some (.ref Li), some (.int (m : Int))] ∧ H1 = H2, ?_, ?_⟩
    · obtain ⟨m, hm1, hm2, em⟩ : ∃ m : Nat, 1 ≤ m ∧ m ≤ 5 ∧ 1 + c % 3 = (m : Int) := ⟨(1 + c % 3).toNat, by omega, by omega, by omega⟩
      refine ⟨_, rfl, _, _, rfl, rfl, ⟨by decide, by decide⟩, _, _, rfl, rfl, (by show (0 : Int) < 8; decide), rfl, _, rfl, ?_⟩
      refine ite2 (fun _ => ?_) (fun _ => ?_)
      · exact ⟨5, by decide, by decide, rfl, rfl⟩
      · exact ⟨m, hm1, hm2, by show [some (V.int c), some (V.ref Li), some (V.int (1 + c % 3))] = _; rw [em], rfl⟩
    rintro σ H1' ⟨m, hm1, hm2, rfl, rfl⟩
    refine ⟨_, rfl, _, rfl, _, rfl, Li, _, rfl, SqL.of e1, fun M hM => ?_⟩
    have cut : cutV ((nmL (i3 c)).map V.str) none (some (m : Int)) = ((nmL (i3 c)).take m).map V.str := by
      unfold cutV
      rw [show HT.sIx ((nmL (i3 c)).map V.str).length 0 none = 0 from rfl, HT.sIx_nat, List.drop_zero, Nat.sub_zero, List.map_take, ← List.take_eq_take_min]
    rw [cut]
    have lt5 : ((nmL (i3 c)).take m).length = m := by rw [List.length_take, nm_len]; omega
    have hsh : ∀ z ∈ (nmL (i3 c)).take m, z.length ≤ 3 := fun z hz => nm_short (i3 c) z (List.mem_of_mem_take hz)
    generalize (nmL (i3 c)).take m = zs at lt5 hsh
    have s2 := s1.trans (same_laid hM (.lst (zs.map V.str)))
    have eM : upd H1 M (.lst (zs.map V.str)) M = some (.lst (zs.map V.str)) := upd_same
    generalize upd H1 M (.lst (zs.map V.str)) = H2 at s2 eM
    refine ⟨M, rfl, ⟨_, SqL.of eM⟩, fun D hD => compG_list (xs := zs.map V.str) (fun k ys σ2 H3 => ys = ((zs.map fun z => z ++ repS "y" (j3 c)).take k).map V.str ∧ (∃ y0, σ2 = [y0, some (.int c)]) ∧ Same H2 H3 ∧ H3 D = some (.lst ys))
          ⟨rfl, ⟨none, rfl⟩, same_laid hD _, upd_same⟩ (fun k ys σ2 H3 _ h => ?_) (fun k x ys σ2 H3 ex h => ?_) (fun ys σ2 H3 h => ?_)⟩
    · obtain ⟨_, _, sm, _⟩ := h
      exact SqL.of (sm _ _ eM)
    · obtain ⟨rfl, ⟨y0, rfl⟩, sm, eD⟩ := h
      have lk := (List.getElem?_eq_some_iff.mp ex).1
      rw [List.length_map] at lk
      rw [List.getElem?_map] at ex
      obtain ⟨z, ez, rfl⟩ := Option.map_eq_some_iff.mp ex
      have hz := hsh z (List.mem_of_getElem? ez)
      have hy := rep_short hj
      refine goN (goT ?_)
      refine ⟨_, rfl, _, rfl, _, _, rfl, rfl, ⟨by decide, by decide⟩, _, _, rfl, rfl, (by show (0 : Int) < 3; decide), ?_⟩
      have ly : ("y" : Str).length = 1 := by decide +kernel
      refine ⟨"y", j3 c, rfl, congrArg V.int ej, by omega, ly, _, _, rfl, rfl, fits (by omega), ?_⟩
      refine ⟨eD, fits' (by rw [List.length_map, List.length_take]; omega), ?_, ⟨_, rfl⟩, fun b o hb => ?_, upd_same⟩
      · have : (zs.map fun z => z ++ repS "y" (j3 c))[k]? = some (z ++ repS "y" (j3 c)) := by rw [List.getElem?_map, ez]; rfl
        rw [List.take_add_one, this, List.map_append]
        rfl
      · rw [upd_ne (fun z => by rw [z, hD] at hb; cases hb)]
        exact sm b o hb
    · obtain ⟨rfl, _, sm, eD⟩ := h
      rw [List.take_of_length_le (by rw [List.length_map, List.length_map]; exact Nat.le_refl _)] at eD
      exact q D _ _ (s2.free hD) (s2.trans sm) eD (by rw [List.length_map]; omega) (by rw [List.length_map]; omega)
def spWordsL : Sp := fun vs H Q _ => ∃ (c : Int), vs = [.int c] ∧ ∀ (N : Addr) (H' : Hp), H N = none → Same H H' → H' N = some (.lst ((gWords c).map V.str)) → Q (.ref N) H'
theorem scWordsL : FnScope ["_law_cell"] ["_law_cell"] (defScope sWordsL) := ⟨rfl, rfl, rfl, by decide +kernel, rfl, by decide +kernel, by decide +kernel⟩
theorem ok_wordsL (F : Fun K "_law_words" "_law_words" sWordsL f fd) (T : Txt mg) : FnOk P w K mg base CX0 1 f fd ["_law_cell"] spWordsL := by
  refine F.ok scWordsL (fun vs H Q E h => ?_) (fun cdv A outer s H vs Q E hr h => ?_)
  · obtain ⟨c, rfl, _⟩ := h; rfl
  · obtain ⟨c, rfl, q⟩ := h
    refine ⟨_, pss_one (ps_ret (@pe_ix _ _ _ _ _ _ _ ix_list (@pe_lst _ _ _ _ (@pa_cons _ _ _ _ _ (@pe_lst _ _ _ _ (@pa_cons _ _ _ _ _ (@pe_str _ _ _ _) (@pa_cons _ _ _ _ _ (@pe_str _ _ _ _) (@pa_cons _ _ _ _ _ (@pe_str _ _ _ _) (@pa_nil _) rfl) rfl) rfl)) (@pa_cons _ _ _ _ _ (@pe_lst _ _ _ _ (@pa_cons _ _ _ _ _ (@pe_str _ _ _ _) (@pa_cons _ _ _ _ _ (@pe_str _ _ _ _) (@pa_cons _ _ _ _ _ (@pe_str _ _ _ _) (@pa_nil _) rfl) rfl) rfl)) (@pa_cons _ _ _ _ _ (@pe_lst _ _ _ _ (@pa_cons _ _ _ _ _ (@pe_str _ _ _ _) (@pa_cons _ _ _ _ _ (@pe_str _ _ _ _) (@pa_cons _ _ _ _ _ (@pe_str _ _ _ _) (@pa_nil _) rfl) rfl) rfl)) (@pa_nil _) rfl) rfl) rfl)) (pe_op op_mod (pe_op op_fdiv (pv 0) pe_int) pe_int) (fun _ _ => rfl))), ?_⟩
    obtain ⟨hi, ei⟩ := i3_is c
    refine ⟨(by show 3 ≤ sizeLine; decide), fun L1 h1 => ⟨(by show 3 ≤ sizeLine; decide), fun L2 h2 => ⟨(by show 3 ≤ sizeLine; decide), fun L3 h3 => ⟨(by show 3 ≤ sizeLine; decide), fun LL hLL => ?_⟩⟩⟩⟩
    obtain ⟨s1, p1⟩ := lit3 h1 h2 h3 hLL
    obtain ⟨Li, a1, f1, e1⟩ := p1 (i3 c) hi
    rw [wd_pick] at e1
    refine ⟨_, rfl, _, _, rfl, rfl, ⟨by decide, by decide⟩, _, _, rfl, rfl, (by show (0 : Int) < 3; decide), ?_⟩
    refine ⟨LL, _, (i3 c : Int), .ref Li, rfl, congrArg V.int ei, SqL.of upd_same, a1, ?_⟩
    exact q Li _ f1 s1 e1
end
end K11
namespace K11
open PySem L2 M11
structure Small (rules : List Rule) : Prop where
  one : 1 ≤ rules.length
  most : rules.length ≤ 8
  few : ∀ ru ∈ rules, ru.2.length ≤ 6
section
variable {P : Program} {w : World} {K : PySem.W.Frag} {mg : Str → Option Value} {base : Heap} {f : Addr} {fd : FuncData}
def spMore (K : PySem.W.Frag) : Sp := fun vs H Q _ => ∃ (S N W : Addr) (ns : List Int) (at_ m : Nat) (nms ws : List Str), vs = [.ref S, .int (at_ : Int), .ref N, .int (m : Int), .ref W] ∧ SqL K H S (ns.map V.int) ∧ ns.length ≤ 1000 ∧ H N = some (.lst (nms.map V.str)) ∧ H W = some (.lst (ws.map V.str)) ∧ 0 < nms.length ∧ nms.length ≤ 5 ∧ ws.length ≤ 10 ∧ m ≤ 10 ∧
  ∀ (R : Addr) (rs : List Addr) (rules : List Rule) (H' : Hp), H R = none → Same H H' → H' R = some (.lst (rs.map V.ref)) → Rules K H' rs rules → rules.length = m → (∀ ru ∈ rules, ru.1 ∈ nms ∧ ru.2.length ≤ 6 ∧ ∀ x ∈ ru.2, x ∈ nms ++ ws) → Q (.ref R) H'
theorem scMore : FnScope ["_law_script", "_law_at", "_law_names_here", "_law_many", "_law_words_here", "_law_rules", "_law_some", "_law_k", "_law_cell", "_law_size"] ["_law_script", "_law_at", "_law_names_here", "_law_many", "_law_words_here"] (defScope sMore) := ⟨rfl, rfl, rfl, by decide +kernel, rfl, by decide +kernel, by decide +kernel⟩
theorem ok_more (F : Fun K "_law_more" "_law_more" sMore f fd) (T : Txt mg) (GC : CalleeD P w K mg base 1 "_law_cell_at" ["_law_script", "_law_k"] (spCell K)) (GD : CalleeD P w K mg base 1 "_law_digits" ["_law_cell", "_law_many", "_law_some"] spDigits) : FnOk P w K mg base CX0 2 f fd ["_law_script", "_law_at", "_law_names_here", "_law_many", "_law_words_here"] (spMore K) := by
  refine F.ok scMore (fun vs H Q E h => ?_) (fun cdv A outer s H vs Q E hr h => ?_)
  · obtain ⟨S, N, W, ns, at_, m, nms, ws, rfl, _⟩ := h; rfl
  · obtain ⟨S, N, W, ns, at_, m, nms, ws, rfl, hS, hn, hN, hW, hn0, hn1, hw1, hm, q⟩ := h
    refine ⟨_, pss_cons (ps_set (i := 5) scMore.nd rfl (Or.inl rfl) (pe_lst pa_nil))
      (pss_cons (ps_set (i := 6) scMore.nd rfl (Or.inl rfl) (pe_op op_cat (pv 2) (pv 4)))
      (pss_cons (ps_for PassesOwn.never rfl (pi_range1 rfl T.rng (pa_cons (pv 3) pa_nil)) (pg_name (i := 7) scMore.nd rfl (Or.inl rfl))
        (pss_cons (ps_set (i := 8) scMore.nd rfl (Or.inl rfl) (pe_fn GC hr rfl (pa_cons (pv 0) (pa_cons (pe_op op_add (pv 1) (pv 7)) pa_nil))))
        (pss_cons (ps_set (i := 9) scMore.nd rfl (Or.inl rfl) (pe_op op_mod (pe_op op_fdiv (pv 8) pe_int) pe_int))
        (pss_cons (ps_cutS (ps_if (PW.pt (pw_and (pt_cmpR op_eq (pv 7) pe_int (nomark _)) (pw_and1 (pt_cmpR op_eq (pe_op op_mod (pe_op op_fdiv (pv 8) pe_int) pe_int) pe_int (nomark _))))) (pss_one (ps_set (i := 9) scMore.nd rfl (Or.inl rfl) (pe_op op_add pe_int (pe_op op_mod (pe_op op_fdiv (pv 8) pe_int) pe_int)))) pss_nil))
        (pss_one (ps_expr (pe_bm PySem.F.plainAttrs_list PySem.F.slot_list_append PySem.F.type_list_append mt_append (pv 5) (pa_cons (pe_tup (pa_cons (pe_ix ix_list (pv 2) (pe_op op_mod (pe_op op_mod (pv 8) pe_int) (pe_callB call_len_seq rfl T.len PySem.boot_len (pa_cons (pv 2) pa_nil))) (fun _ _ => rfl))
          (pa_cons (pe_fn GD hr rfl (pa_cons (pe_op op_fdiv (pv 8) pe_int) (pa_cons (pv 9) (pa_cons (pv 6) pa_nil)))) pa_nil))) pa_nil))))))))
      (pss_one (ps_ret (pv 5))))), ?_⟩
    refine ⟨(by show 0 ≤ sizeLine; decide), fun L hL => ?_⟩
    have s1 := same_laid hL (.lst [])
    have e1 : upd H L (.lst []) L = some (.lst []) := upd_same
    generalize upd H L (.lst []) = H1 at s1 e1
    refine ⟨_, rfl, _, rfl, N, W, _, _, rfl, rfl, s1 _ _ hN, s1 _ _ hW, fits (by rw [List.length_map, List.length_map]; omega), fun M hM => ?_⟩
    rw [← List.map_append]
    have k2 := same_laid hM (.lst ((nms ++ ws).map V.str))
    have s2 := s1.trans k2
    have e2 := k2 _ _ e1
    have m2 : upd H1 M (.lst ((nms ++ ws).map V.str)) M = some (.lst ((nms ++ ws).map V.str)) := upd_same
    have nM : M ≠ L := fun z => by rw [z, e1] at hM; cases hM
    generalize upd H1 M (.lst ((nms ++ ws).map V.str)) = H2 at k2 s2 e2 m2
    refine ⟨_, rfl, (m : Int), rfl, by omega, by omega, ?_⟩
    rw [Int.toNat_natCast m]
    refine for_range (n := m) (fun i σ H3 => ∃ (rs : List Addr) (rules : List Rule) (y7 y8 y9 : Option V), σ = [some (.ref S), some (.int (at_ : Int)), some (.ref N), some (.int (m : Int)), some (.ref W), some (.ref L), some (.ref M), y7, y8, y9] ∧ Same H H3 ∧ H3 L = some (.lst (rs.map V.ref)) ∧ H3 M = some (.lst ((nms ++ ws).map V.str)) ∧ Rules K H3 rs rules ∧ rules.length = i ∧ ∀ ru ∈ rules, ru.1 ∈ nms ∧ ru.2.length ≤ 6 ∧ ∀ x ∈ ru.2, x ∈ nms ++ ws) ⟨[], [], none, none, none, rfl, s2, e2, m2, .nil, rfl, fun _ h => by cases h⟩ ?_ ?_
    · rintro i σ H3 hi ⟨rs, rules, y7, y8, y9, rfl, s3, eL, eM, rl, hl, hf⟩
      have lr := Paired.length rl
      refine goN ?_
      refine ⟨_, rfl, _, rfl, _, rfl, _, _, rfl, rfl, ?_⟩
      refine ⟨S, ns, at_ + i, (by show [V.ref S, V.int ((at_ : Int) + (0 + (i : Int)))] = _; congr 3; push_cast; omega), s3.seq hS, hn, fun c _ => ?_⟩
      have hni : (0 : Int) < (nms.length : Int) := by omega
      obtain ⟨z, hzm, ez⟩ := atM (zs := nms) rfl hni (c % 5)
      refine ⟨_, rfl, _, _, rfl, rfl, ⟨by decide, by decide⟩, _, _, rfl, rfl, (by show (0 : Int) < 4; decide), ?_⟩
      refine ⟨fun σ H4 => ∃ d : Nat, d ≤ 6 ∧ H3 = H4 ∧ σ = [some (.ref S), some (.int (at_ : Int)), some (.ref N), some (.int (m : Int)), some (.ref W), some (.ref L), some (.ref M), some (.int (0 + (i : Int))), some (.int c), some (.int (d : Int))], ?_, ?_⟩
      · obtain ⟨d, hd, hd4⟩ : ∃ d : Nat, c / 5 % 4 = (d : Int) ∧ d ≤ 6 := ⟨(c / 5 % 4).toNat, by omega, by omega⟩
        have no : ∃ d : Nat, d ≤ 6 ∧ H3 = H3 ∧ [some (V.ref S), some (.int (at_ : Int)), some (.ref N), some (.int (m : Int)), some (.ref W), some (.ref L), some (.ref M), some (.int (0 + (i : Int))), some (.int c), some (.int (c / 5 % 4))] = [some (V.ref S), some (.int (at_ : Int)), some (.ref N), some (.int (m : Int)), some (.ref W), some (.ref L), some (.ref M), some (.int (0 + (i : Int))), some (.int c), some (.int (d : Int))] := ⟨d, hd4, rfl, by rw [hd]⟩
        refine ⟨_, rfl, rfl, _, rfl, ?_⟩
        refine ite2 (fun _ => ?_) (fun _ => no)
        refine ⟨_, rfl, _, _, rfl, rfl, ⟨by decide, by decide⟩, _, _, rfl, rfl, (by show (0 : Int) < 8; decide), rfl, _, rfl, ?_⟩
        refine ite2 (fun _ => ?_) (fun _ => no)
        obtain ⟨e, he, he6⟩ : ∃ e : Nat, 4 + c / 160 % 3 = (e : Int) ∧ e ≤ 6 := ⟨(4 + c / 160 % 3).toNat, by omega, by omega⟩
        refine ⟨_, rfl, _, _, rfl, rfl, ⟨by decide, by decide⟩, _, _, rfl, rfl, (by show (0 : Int) < 3; decide), _, _, rfl, rfl, ?_⟩
        exact ⟨e, he6, rfl, by rw [← he]; rfl⟩
      rintro σ H3' ⟨d, hd6, rfl, rfl⟩
      refine ⟨_, rfl, .inl ⟨rfl, _, SqL.of eL⟩, _, rfl, _, rfl, _, _, rfl, rfl, (by show (0 : Int) < 5; decide), _, rfl, N, _, rfl, .inl (SqL.of (s3 _ _ hN)), _, _, rfl, rfl, (by rw [List.length_map]; exact hni), ?_⟩
      rw [List.length_map]
      refine ⟨N, _, _, _, rfl, rfl, SqL.of (s3 _ _ hN), ez, ?_⟩
      refine ⟨_, rfl, _, _, rfl, rfl, ⟨by decide, by decide⟩, _, rfl, _, rfl, ?_⟩
      refine ⟨_, d, M, nms ++ ws, rfl, by omega, eM, by rw [List.length_append]; omega, by rw [List.length_append]; omega, fun p ps H4 s4 e4 l4 hpm => ⟨(by show 2 ≤ sizeLine; decide), fun R hR => ?_⟩⟩
      have k5 := s4.trans (same_laid hR (.tup [.str z, .ref p]))
      have v1 : SqT K (upd H4 R (.tup [.str z, .ref p])) R [.str z, .ref p] := SqT.of upd_same
      have v2 : SqT K (upd H4 R (.tup [.str z, .ref p])) p (ps.map V.str) := (same_laid hR _).tup (SqT.of e4)
      generalize upd H4 R (.tup [.str z, .ref p]) = H5 at k5 v1 v2
      have eL5 := k5 _ _ eL
      refine ⟨L, _, _, rfl, rfl, eL5, fits' (by rw [List.length_map]; omega), ?_⟩
      refine ⟨rs ++ [R], rules ++ [(z, ps)], _, _, _, rfl, fun b o hb => ?_, by rw [upd_same, List.map_append]; rfl, by rw [upd_ne nM]; exact k5 _ _ eM, Paired.snoc (rl.keep fun b xs z => sqt_upd eL5 (k5.tup z)) ⟨p, sqt_upd eL5 v1, sqt_upd eL5 v2⟩, by rw [List.length_append, hl]; rfl, fun ru hru => ?_⟩
      · rw [upd_ne (fun z => by rw [z, hL] at hb; cases hb)]; exact k5 _ _ (s3 b o hb)
      · rcases List.mem_append.mp hru with h | h
        · exact hf ru h
        · rw [List.mem_singleton.mp h]
          exact ⟨hzm, by show ps.length ≤ 6; omega, hpm⟩
    · rintro σ H3 ⟨rs, rules, y7, y8, y9, rfl, s3, eL, eM, rl, hl, hf⟩
      exact ⟨_, rfl, q L rs rules H3 hL s3 eL rl hl hf⟩
def spEnded (K : PySem.W.Frag) : Sp := fun vs H Q _ => ∃ (R : Addr) (rs : List Addr) (rules : List Rule) (b : Bool), vs = [.ref R, .bl b] ∧ SqL K H R (rs.map V.ref) ∧ Rules K H rs rules ∧ Small rules ∧
  ∀ (D : Addr) (H' : Hp), H D = none → Same H H' → H' D = some (.lst ((endedM b rules).map V.str)) → (endedM b rules).length ≤ 64 → Q (.ref D) H'
abbrev NE : List Str := ["_law_rules", "_law_words_here", "_law_head", "_law_parts", "_law_heads", "_law_ended_here", "_law_again", "_law_good_here"]
theorem scEnded : FnScope NE ["_law_rules", "_law_words_here"] (defScope sEnded) := ⟨rfl, rfl, rfl, by decide +kernel, rfl, by decide +kernel, by decide +kernel⟩
theorem ok_ended (F : Fun K "_law_ended" "_law_ended" sEnded f fd) (T : Txt mg) : FnOk P w K mg base CX0 1 f fd ["_law_rules", "_law_words_here"] (spEnded K) := by
  refine F.ok scEnded (fun vs H Q E h => ?_) (fun cdv A outer s H vs Q E hr h => ?_)
  · obtain ⟨R, rs, rules, b, rfl, _⟩ := h; rfl
  · obtain ⟨R, rs, rules, b, rfl, hR, hrl, hsm, q⟩ := h
    have hsm1 := hsm.one
    have hsm2 := hsm.most
    refine ⟨_, pss_cons (ps_set (i := 4) scEnded.nd rfl (Or.inr rfl) (pe_compG ["_law_head", "_law_parts"] [] rfl (pi_list (pv 0)) (caps_of rfl rfl) (by decide +kernel) rfl (by decide +kernel)
        (fun _ _ _ _ _ => pg_tupK (n := 2) K rfl (pgs_cons (pg_name (i := 0) (show (["_law_head", "_law_parts"] : List Str).Nodup by decide +kernel) rfl (Or.inl rfl)) (pgs_cons (pg_name (i := 1) (show (["_law_head", "_law_parts"] : List Str).Nodup by decide +kernel) rfl (Or.inl rfl)) pgs_nil))) (fun _ _ _ _ _ => pif_nil)
        (fun _ _ _ _ _ => pv 0)))
      (pss_cons (ps_set (i := 5) scEnded.nd rfl (Or.inr rfl) (pe_lst pa_nil))
      (pss_cons (ps_for PassesOwn.never rfl (pi_list (pv 0)) (pg_name (i := 6) scEnded.nd rfl (Or.inl rfl))
        (pss_one (ps_for PassesOwn.never rfl (pi_list (pv 0)) (pg_tupK (n := 2) K rfl (pgs_cons (pg_name (i := 2) scEnded.nd rfl (Or.inl rfl)) (pgs_cons (pg_name (i := 3) scEnded.nd rfl (Or.inl rfl)) pgs_nil)))
          (pss_cons (ps_set (i := 7) scEnded.nd rfl (Or.inl rfl) (pe_callB (call_allB rfl) rfl T.all boot_all (pa_cons
              (pe_compG ["_law_part"] [(5, "_law_ended_here"), (4, "_law_heads"), (1, "_law_words_here")] rfl (pi_tup (pv 3)) (caps_of rfl rfl) (by decide +kernel) rfl (by decide +kernel)
                (fun _ _ _ _ _ => pg_name (i := 0) (show (["_law_part", "_law_ended_here", "_law_heads", "_law_words_here"] : List Str).Nodup by decide +kernel) rfl (Or.inl rfl)) (fun _ _ _ _ _ => pif_nil)
                (fun _ _ _ _ _ => pe_or (pe_cmpR (op_in_seqK K) (pv 0) (pv 1) rfl) (pe_one (pe_and (pv 3) (pe_one (pe_cmpR (op_notIn_seqK K) (pv 0) (pv 2) rfl)))))) pa_nil)))
          (pss_one (ps_if (PW.pt (pw_and (pt_val (pv 7)) (pw_and1 (pt_cmpR op_notIn_seq (pv 2) (pv 5) rfl))))
            (pss_one (ps_expr (pe_bm PySem.F.plainAttrs_list PySem.F.slot_list_append PySem.F.type_list_append mt_append (pv 5) (pa_cons (pv 2) pa_nil)))) pss_nil))))))
      (pss_one (ps_ret (pv 5))))), ?_⟩
    refine ⟨_, rfl, R, rfl, ⟨_, hR⟩, fun D hD => comp_heads hR hrl (by omega) hD fun H1 s1 eD => ?_⟩
    refine goN ?_
    refine ⟨(by show 0 ≤ sizeLine; decide), fun L hL => ?_⟩
    have s2 := s1.trans (same_laid hL (.lst []))
    have eD2 := same_laid hL (.lst []) _ _ eD
    have nL : L ≠ D := fun z => by rw [z, eD] at hL; cases hL
    have fL : H L = none := s1.free hL
    have e2 : upd H1 L (.lst []) L = some (.lst []) := upd_same
    generalize upd H1 L (.lst []) = H2 at s2 eD2 e2
    refine goN ?_
    have ll := Paired.length hrl
    refine ⟨_, rfl, R, rfl, ⟨_, s2.seq hR⟩, for_list (xs := rs.map V.ref) (fun i σ H3 => ∃ (es : List Str) (y2 y3 y6 y7 : Option V), σ = [some (.ref R), some (.bl b), y2, y3, some (.ref D), some (.ref L), y6, y7] ∧ Same H H3 ∧ H3 D = some (.lst ((hm rules).map V.str)) ∧ H3 L = some (.lst (es.map V.str)) ∧ es = passes (fun e => passE b (hm rules) e rules) i [] ∧ es.length ≤ 8 * i) ⟨[], _, _, _, _, rfl, s2, eD2, e2, rfl, by simp⟩ ?_ ?_ ?_⟩
    · rintro i σ H3 _ ⟨es, y2, y3, y6, y7, rfl, s3, _⟩
      exact s3.seq hR
    · rintro i x σ H3 ex ⟨es, y2, y3, y6, y7, rfl, s3, eD3, eL3, he, hel⟩
      have li := (List.getElem?_eq_some_iff.mp ex).1
      rw [List.length_map] at li
      refine goN ?_
      refine ⟨_, rfl, R, rfl, ⟨_, s3.seq hR⟩, for_list (xs := rs.map V.ref) (fun j σ H4 => ∃ (es' : List Str) (y2 y3 y7 : Option V), σ = [some (.ref R), some (.bl b), y2, y3, some (.ref D), some (.ref L), some x, y7] ∧ Same H H4 ∧ H4 D = some (.lst ((hm rules).map V.str)) ∧ H4 L = some (.lst (es'.map V.str)) ∧ es' = passE b (hm rules) es (rules.take j) ∧ es'.length ≤ 8 * i + j) ⟨es, _, _, _, rfl, s3, eD3, eL3, rfl, by omega⟩ ?_ ?_ ?_⟩
      · rintro j σ H4 _ ⟨es', y2, y3, y7, rfl, s4, _⟩
        exact s4.seq hR
      · rintro j x2 σ H4 ex2 ⟨es', y2, y3, y7, rfl, s4, eD4, eL4, he', hel'⟩
        have lj := (List.getElem?_eq_some_iff.mp ex2).1
        rw [List.length_map] at lj
        rw [List.getElem?_map] at ex2
        obtain ⟨r, er, rfl⟩ := Option.map_eq_some_iff.mp ex2
        obtain ⟨ru, e1, p, v1, v2⟩ := hrl.get er
        have hru := hsm.few ru (List.mem_of_getElem? e1)
        refine ⟨r, _, rfl, s4.tup v1, rfl, _, _, rfl, _, _, rfl, rfl, ?_⟩
        refine ⟨_, rfl, p, rfl, ⟨_, s4.tup v2⟩, fun D2 hD2 => comp_boolsT (zs := ru.2) [some (.ref L), some (.ref D), some (.bl b)] (fun z => decide (z ∈ es') || (b && !decide (z ∈ hm rules))) rfl (s4.tup v2) (by omega) hD2 (fun z _ H5 Qy s5 hq => ?_) fun H5 s5 eD5 => ?_⟩
        · refine ⟨_, rfl, _, rfl, L, _, rfl, .inl (SqL.of (s5 _ _ eL4)), rfl, flat_strs _, ?_⟩
          refine ⟨_, rfl, ?_⟩
          rw [inV_str]
          show if decide (z ∈ es') = true then _ else _
          refine ite2 (fun c => ?_) (fun c => ?_)
          · rw [c] at hq; exact hq
          · have c' : decide (z ∈ es') = false := by simpa using c
            rw [c', Bool.false_or] at hq
            refine ⟨_, rfl, b, rfl, ?_⟩
            refine ite2 (fun cb => ?_) (fun cb => ?_)
            · rw [cb, Bool.true_and] at hq
              refine ⟨_, rfl, _, rfl, D, _, rfl, .inl (SqL.of (s5 _ _ eD4)), rfl, flat_strs _, ?_⟩
              rw [inV_str]
              exact hq
            · have cb' : b = false := by simpa using cb
              rw [cb', Bool.false_and] at hq
              exact hq
        · refine ⟨D2, _, rfl, SqL.of eD5, ?_⟩
          rw [all_map]
          refine goN ?_
          have s45 := s4.trans s5
          have eL5 := s5 _ _ eL4
          have pe : passE b (hm rules) es (rules.take (j + 1)) = stepE b (hm rules) es' ru := by
            rw [he', List.take_add_one, e1]
            unfold passE
            rw [List.foldl_append]
            rfl
          refine ⟨_, rfl, _, rfl, ?_⟩
          refine ite2 (fun c => ?_) (fun c => ?_)
          · refine ⟨_, rfl, _, rfl, L, _, rfl, .inl (SqL.of eL5), rfl, flat_strs _, _, rfl, ?_⟩
            rw [inV_str]
            show if (!decide (ru.1 ∈ es')) = true then _ else _
            refine ite2 (fun c2 => ?_) (fun c2 => ?_)
            · refine ⟨_, rfl, .inl ⟨rfl, _, SqL.of eL5⟩, _, rfl, L, _, _, rfl, rfl, eL5, fits' (by rw [List.length_map]; omega), ?_⟩
              refine ⟨es' ++ [ru.1], _, _, _, rfl, fun b o hb => ?_, by rw [upd_ne (Ne.symm nL)]; exact s5 _ _ eD4, by rw [upd_same, List.map_append]; rfl, ?_, by rw [List.length_append]; simp; omega⟩
              · rw [upd_ne (fun z => by rw [z, fL] at hb; cases hb)]; exact s45 b o hb
              · rw [pe]
                unfold stepE
                rw [c, Bool.true_and, if_pos c2]
            · refine ⟨es', _, _, _, rfl, s45, s5 _ _ eD4, eL5, ?_, by omega⟩
              rw [pe]
              unfold stepE
              rw [c, Bool.true_and, if_neg c2]
          · refine ⟨es', _, _, _, rfl, s45, s5 _ _ eD4, eL5, ?_, by omega⟩
            rw [pe]
            unfold stepE
            rw [if_neg (fun z => c (Bool.and_eq_true_iff.mp z).1)]
      · rintro σ H4 ⟨es', y2, y3, y7, rfl, s4, eD4, eL4, he', hel'⟩
        rw [List.length_map, ll] at hel'
        rw [List.length_map, ll, List.take_length] at he'
        exact ⟨es', _, _, _, _, rfl, s4, eD4, eL4, by rw [he', he]; rfl, by omega⟩
    · rintro σ H3 ⟨es, y2, y3, y6, y7, rfl, s3, eD3, eL3, he, hel⟩
      rw [List.length_map, ll] at he hel
      refine ⟨_, rfl, ?_⟩
      have e : endedM b rules = es := he.symm
      exact q L H3 fL s3 (by rw [e]; exact eL3) (by rw [e]; omega)
end
end K11
namespace K11
open PySem L2 M11
abbrev sFree : Stmt := top 24
section
variable {P : Program} {w : World} {K : PySem.W.Frag} {mg : Str → Option Value} {base : Heap} {f : Addr} {fd : FuncData}
def spFree (K : PySem.W.Frag) : Sp := fun vs H Q _ => ∃ (S R Wd : Addr) (ns : List Int) (at_ m : Nat) (rs : List Addr) (rules : List Rule) (ws : List Str), vs = [.ref S, .int (at_ : Int), .int (m : Int), .ref R, .ref Wd] ∧ SqL K H S (ns.map V.int) ∧ ns.length ≤ 1000 ∧ m ≤ 10 ∧ SqL K H R (rs.map V.ref) ∧ Rules K H rs rules ∧ rules.length ≤ 8 ∧ 1 ≤ rules.length ∧ SqL K H Wd (ws.map V.str) ∧
  ((ws = [] ∧ ∀ (D : Addr) (ts : List Addr) (ks : List Nat) (H' : Hp), H D = none → Same H H' → H' D = some (.lst (ts.map V.ref)) → Paired (TkV K rules H') ts ks → ks.length ≤ 10 → Q (.ref D) H') ∨
   (ws.length = 3 ∧ ∀ (D : Addr) (ts : List Addr) (bs : List Tb) (H' : Hp), H D = none → Same H H' → H' D = some (.lst (ts.map V.ref)) → Paired (TbV K rules H') ts bs → bs.length ≤ 10 → Q (.ref D) H'))
theorem scFree : FnScope ["_law_script", "_law_at", "_law_many", "_law_rules", "_law_words_here", "_law_told", "_law_k", "_law_cell", "_law_number"] ["_law_script", "_law_at", "_law_many", "_law_rules", "_law_words_here"] (defScope sFree) := ⟨rfl, rfl, rfl, by decide +kernel, rfl, by decide +kernel, by decide +kernel⟩
theorem ok_free (F : Fun K "_law_free" "_law_free" sFree f fd) (T : Txt mg) (GC : CalleeD P w K mg base 1 "_law_cell_at" ["_law_script", "_law_k"] (spCell K)) : FnOk P w K mg base CX0 2 f fd ["_law_script", "_law_at", "_law_many", "_law_rules", "_law_words_here"] (spFree K) := by
  refine F.ok scFree (fun vs H Q E h => ?_) (fun cdv A outer s H vs Q E hr h => ?_)
  · obtain ⟨S, R, Wd, ns, at_, m, rs, rules, ws, rfl, _⟩ := h; rfl
  · obtain ⟨S, R, Wd, ns, at_, m, rs, rules, ws, rfl, hS, hn, hm, hR, hrl, hlen, hl1, hW, q⟩ := h
    have hu := hu_of hr
    have hu0 := Nat.lt_of_succ_lt hu
    refine ⟨_, pss_cons (ps_set (i := 5) scFree.nd rfl (Or.inl rfl) (pe_lst pa_nil))
      (pss_cons (ps_for PassesOwn.never rfl (pi_range1 rfl T.rng (pa_cons (pv 2) pa_nil)) (pg_name (i := 6) scFree.nd rfl (Or.inl rfl))
        (pss_cons (ps_set (i := 7) scFree.nd rfl (Or.inl rfl) (pe_fn GC hr rfl (pa_cons (pv 0) (pa_cons (pe_op op_add (pv 1) (pv 6)) pa_nil))))
        (pss_cons (ps_cutS (ps_set (i := 8) scFree.nd rfl (Or.inl rfl) (pe_op op_mod (pv 7) (pe_callB call_len_seq rfl T.len PySem.boot_len (pa_cons (pv 3) pa_nil)))))
        (pss_one (ps_if (pt_cmpR (op_ne_nil hu0) (pv 4) (pe_lst pa_nil) (nomark _))
          (pss_one (ps_expr (pe_bm PySem.F.plainAttrs_list PySem.F.slot_list_append PySem.F.type_list_append mt_append (pv 5) (pa_cons (pe_tup (pa_cons (pe_ix ix_tup (pe_ix ix_list (pv 3) (pv 8) (fun _ _ => rfl)) pe_int (fun _ _ => rfl)) (pa_cons (pe_ix ix_list (pv 4) (pe_op op_mod (pe_op op_fdiv (pv 7) pe_int) pe_int) (fun _ _ => rfl)) (pa_cons (pv 8) (pa_cons (pe_op op_mod (pe_op op_fdiv (pv 7) pe_int) pe_int) pa_nil))))) pa_nil))))
          (pss_one (ps_expr (pe_bm PySem.F.plainAttrs_list PySem.F.slot_list_append PySem.F.type_list_append mt_append (pv 5) (pa_cons (pe_tup (pa_cons (pe_ix ix_tup (pe_ix ix_list (pv 3) (pv 8) (fun _ _ => rfl)) pe_int (fun _ _ => rfl)) (pa_cons (pv 8) pa_nil))) pa_nil)))))))))
      (pss_one (ps_ret (pv 5)))), ?_⟩
    have ll := Paired.length hrl
    have hn0 : (0 : Int) < (rules.length : Int) := by omega
    refine ⟨(by show 0 ≤ sizeLine; decide), fun L hL => ?_⟩
    have k1 := same_laid hL (.lst [])
    have e1 : upd H L (.lst []) L = some (.lst []) := upd_same
    generalize upd H L (.lst []) = H1 at k1 e1
    refine ⟨_, rfl, (m : Int), rfl, by omega, by omega, ?_⟩
    rw [Int.toNat_natCast]
    refine for_range (n := m) (fun i σ H5 => ∃ (ts : List Addr) (y6 y7 y8 : Option V), σ = [some (.ref S), some (.int (at_ : Int)), some (.int (m : Int)), some (.ref R), some (.ref Wd), some (.ref L), y6, y7, y8] ∧ Same H H5 ∧ H5 L = some (.lst (ts.map V.ref)) ∧ ts.length = i ∧ ((ws = [] ∧ ∃ ks, Paired (TkV K rules H5) ts ks) ∨ (ws.length = 3 ∧ ∃ bs, Paired (TbV K rules H5) ts bs))) ⟨[], none, none, none, rfl, k1, e1, rfl, q.elim (fun h => .inl ⟨h.1, [], .nil⟩) fun h => .inr ⟨h.1, [], .nil⟩⟩ ?_ ?_
    · rintro i σ H5 hi ⟨ts, y6, y7, y8, rfl, s5, eL, lt, pk⟩
      refine goN ?_
      refine ⟨_, rfl, _, rfl, _, rfl, _, _, rfl, rfl, ?_⟩
      refine ⟨S, ns, at_ + i, (by show [V.ref S, V.int ((at_ : Int) + (0 + (i : Int)))] = _; congr 3; push_cast; omega), s5.seq hS, hn, fun c _ => ?_⟩
      obtain ⟨lr, er⟩ := rt_lt (show 0 < rules.length by omega) c 0
      have er2 : c % ((rs.map V.ref).length : Int) = (rt rules.length c 0 : Int) := by rw [List.length_map, ll, ← er]; congr 1; omega
      generalize rt rules.length c 0 = nb at lr er er2
      obtain ⟨ru, eru⟩ : ∃ ru, rules[nb]? = some ru := ⟨_, List.getElem?_eq_getElem lr⟩
      obtain ⟨r, err, p, v1, v2⟩ := Paired.at_ hrl _ ru eru
      have atr : atI (rs.map V.ref) (nb : Int) = some (.ref r) := atI_nat (by rw [List.getElem?_map, err]; rfl)
      refine ⟨fun σ H6 => H5 = H6 ∧ σ = [some (.ref S), some (.int (at_ : Int)), some (.int (m : Int)), some (.ref R), some (.ref Wd), some (.ref L), some (.int (0 + (i : Int))), some (.int c), some (.int (nb : Int))], ?_, ?_⟩
      · refine ⟨_, rfl, _, rfl, R, _, rfl, .inl (s5.seq hR), _, _, rfl, rfl, (by rw [List.length_map, ll]; exact hn0), ?_⟩
        exact ⟨rfl, by rw [← er2]; rfl⟩
      rintro σ H6 ⟨rfl, rfl⟩
      refine ⟨_, rfl, (by show 0 ≤ sizeLine; decide), fun L0 hL0 => ⟨Wd, L0, _, rfl, rfl, (same_laid hL0 _).seq (s5.seq hW), SqL.of upd_same, _, rfl, ?_⟩⟩
      have k7 := same_laid hL0 (.lst [])
      have eL7 := k7 _ _ eL
      generalize upd H5 L0 (.lst []) = H7 at k7 eL7
      have s7 := s5.trans k7
      rcases pk with ⟨h0, ks, pk⟩ | ⟨h3, bs, pk⟩
      · subst h0
        refine iteF ?_
        refine ⟨_, rfl, .inl ⟨rfl, _, SqL.of eL7⟩, _, rfl, _, rfl, R, _, _, _, rfl, rfl, s7.seq hR, atr, r, _, _, _, rfl, rfl, s7.tup v1, rfl, _, rfl, (by show 2 ≤ sizeLine; decide), fun u hu2 => ?_⟩
        have k8 := same_laid hu2 (.tup [V.str ru.1, V.int (nb : Int)])
        have e8 : SqT K (upd H7 u (.tup [V.str ru.1, V.int (nb : Int)])) u [.str ru.1, .int (nb : Int)] := SqT.of upd_same
        generalize upd H7 u (.tup [V.str ru.1, V.int (nb : Int)]) = H8 at k8 e8
        have eL8 := k8 _ _ eL7
        refine ⟨L, _, _, rfl, rfl, eL8, fits' (by rw [List.length_map]; omega), ?_⟩
        refine ⟨ts ++ [u], _, _, _, rfl, fun b o hb => ?_, by rw [upd_same, List.map_append]; rfl, by rw [List.length_append, lt]; rfl, .inl ⟨rfl, ks ++ [nb], Paired.snoc (Paired.mapP pk fun a b ⟨r2, x1, x2⟩ => ⟨r2, x1, sqt_upd eL8 ((k7.trans k8).tup x2)⟩) ⟨ru, eru, sqt_upd eL8 e8⟩⟩⟩
        rw [upd_ne (fun z => by rw [z, hL] at hb; cases hb)]
        exact k8 _ _ (s7 b o hb)
      · obtain ⟨z, hz, ez⟩ := atM (zs := ws) (m := 3) (by rw [h3]; rfl) (by decide) (c / 8)
        obtain ⟨pl, epl⟩ : ∃ pl : Nat, c / 24 % 3 = (pl : Int) := ⟨(c / 24 % 3).toNat, by omega⟩
        have hc : (!(ws.map V.str).isEmpty) = true := by
          cases ws with
          | nil => cases h3
          | cons a r => rfl
        refine ite2 (fun _ => ?_) (fun cc => absurd hc cc)
        refine ⟨_, rfl, .inl ⟨rfl, _, SqL.of eL7⟩, _, rfl, _, rfl, R, _, _, _, rfl, rfl, s7.seq hR, atr, r, _, _, _, rfl, rfl, s7.tup v1, rfl, _, rfl, _, rfl, _, _, rfl, rfl, ⟨by decide, by decide⟩, _, _, rfl, rfl, (by show (0 : Int) < 3; decide), Wd, _, _, _, rfl, rfl, s7.seq hW, ez, _, rfl, _, rfl, _, _, rfl, rfl, ⟨by decide, by decide⟩, _, _, rfl, rfl, (by show (0 : Int) < 3; decide), (by show 4 ≤ sizeLine; decide), fun u hu2 => ?_⟩
        have k8 := same_laid hu2 (.tup [V.str ru.1, V.str z, V.int (nb : Int), V.int (c / 24 % 3)])
        have e8 : SqT K (upd H7 u (.tup [V.str ru.1, V.str z, V.int (nb : Int), V.int (c / 24 % 3)])) u [.str ru.1, .str z, .int (nb : Int), .int (c / 24 % 3)] := SqT.of upd_same
        have eL8 := k8 _ _ eL7
        refine ⟨L, _, _, rfl, rfl, eL8, fits' (by rw [List.length_map]; omega), ?_⟩
        generalize upd H7 u (.tup [V.str ru.1, V.str z, V.int (nb : Int), V.int (c / 24 % 3)]) = H8 at k8 e8 eL8
        rw [epl] at e8
        refine ⟨ts ++ [u], _, _, _, rfl, fun b o hb => ?_, by rw [upd_same, List.map_append]; rfl, by rw [List.length_append, lt]; rfl, .inr ⟨h3, bs ++ [(nb, z, pl)], Paired.snoc (Paired.mapP pk fun a b ⟨r2, x1, x2⟩ => ⟨r2, x1, sqt_upd eL8 ((k7.trans k8).tup x2)⟩) ⟨ru, eru, sqt_upd eL8 e8⟩⟩⟩
        rw [upd_ne (fun z => by rw [z, hL] at hb; cases hb)]
        exact k8 _ _ (s7 b o hb)
    · rintro σ H5 ⟨ts, y6, y7, y8, rfl, s5, eL, lt, pk⟩
      refine ⟨_, rfl, ?_⟩
      rcases q with ⟨h0, q⟩ | ⟨h3, q⟩
      · rcases pk with ⟨_, ks, pk⟩ | ⟨h3, _⟩
        · have := Paired.length pk
          exact q L ts ks H5 hL s5 eL pk (by omega)
        · rw [h0] at h3; cases h3
      · rcases pk with ⟨h0, _⟩ | ⟨_, bs, pk⟩
        · rw [h0] at h3; cases h3
        · have := Paired.length pk
          exact q L ts bs H5 hL s5 eL pk (by omega)
end
end K11
namespace L2
open PySem
theorem op_notInPK {X : Cx} (K : PySem.W.Frag) (hu : X.A.units + 1 < cLine) (hK : X.K = K := by rfl) : OpR X (compareOp .NotIn) (rInP K true) := by
  subst hK
  exact op_notInP hu
end L2
namespace K11
open PySem L2 M11
abbrev sBegins : Stmt := top 21
theorem Paired.app2 {α β : Type} {F : α → β → Prop} : ∀ {xs : List α} {ys : List β} {xs2 : List α} {ys2 : List β}, Paired F xs ys → Paired F xs2 ys2 → Paired F (xs ++ xs2) (ys ++ ys2)
  | _, _, _, _, .nil, h => h
  | _, _, _, _, .cons a r, h => .cons a (Paired.app2 r h)
theorem take_filter {α : Type} (p : α → Bool) {l : List α} {m : Nat} {q : α} (e : l[m]? = some q) : (l.take (m + 1)).filter p = (l.take m).filter p ++ if p q = true then [q] else [] := by
  rw [List.take_add_one, e, List.filter_append]
  congr 1
  by_cases cz : p q = true
  · rw [if_pos cz]
    show List.filter _ [q] = [q]
    rw [List.filter_cons, if_pos cz]; rfl
  · rw [if_neg cz]
    show List.filter _ [q] = []
    rw [List.filter_cons, if_neg cz]; rfl
def newP (prs : List (Str × Str)) (h : Str) (wsl : List Str) : List (Str × Str) := (wsl.filter fun x => !decide ((h, x) ∈ prs)).map fun x => (h, x)
theorem mem_newP {prs : List (Str × Str)} {h : Str} {wsl : List Str} {x : Str × Str} : x ∈ newP prs h wsl ↔ x.1 = h ∧ x.2 ∈ wsl ∧ x ∉ prs := by
  unfold newP
  rw [List.mem_map]
  constructor
  · rintro ⟨y, hy, rfl⟩
    obtain ⟨a, b⟩ := List.mem_filter.mp hy
    exact ⟨rfl, a, by simpa using b⟩
  · rintro ⟨e, a, b⟩
    have ex : x = (h, x.2) := by rw [← e]
    exact ⟨x.2, List.mem_filter.mpr ⟨a, by rw [← ex, decide_eq_false b]; rfl⟩, ex.symm⟩
theorem nd_newP {prs : List (Str × Str)} {h : Str} {wsl : List Str} (n : prs.Nodup) (n2 : wsl.Nodup) : (prs ++ newP prs h wsl).Nodup := by
  refine List.nodup_append.mpr ⟨n, ?_, fun a ha b hb z => (mem_newP.mp hb).2.2 (z ▸ ha)⟩
  unfold newP
  have : (wsl.filter fun x => !decide ((h, x) ∈ prs)).Nodup := List.Nodup.sublist List.filter_sublist n2
  exact List.Pairwise.map _ (fun a b (c : a ≠ b) z => c (by injection z)) this
theorem nd_sel {prs : List (Str × Str)} (pt : Str) (n : prs.Nodup) : ((prs.filter fun q => decide (q.1 = pt)).map (·.2)).Nodup := by
  have h : (prs.filter fun q => decide (q.1 = pt)).Nodup := List.Nodup.sublist List.filter_sublist n
  have h2 : ∀ q ∈ prs.filter (fun q => decide (q.1 = pt)), q.1 = pt := fun q hq => of_decide_eq_true (List.mem_filter.mp hq).2
  generalize prs.filter (fun q => decide (q.1 = pt)) = l at h h2
  induction l with
  | nil => exact List.nodup_nil
  | cons a l ih =>
    obtain ⟨n1, n3⟩ := List.nodup_cons.mp h
    refine List.nodup_cons.mpr ⟨fun z => ?_, ih n3 fun q hq => h2 q (.tail _ hq)⟩
    obtain ⟨b, hb, eb⟩ := List.mem_map.mp z
    have e1 := h2 a (.head _)
    have e2 := h2 b (.tail _ hb)
    exact n1 ((Prod.ext (e1.trans e2.symm) eb.symm : a = b) ▸ hb)
structure BSt (K : PySem.W.Frag) (rules : List Rule) (ns : List Str) (H H5 : Hp) (Dh De Lp : Addr) (us : List Addr) (prs : List (Str × Str)) : Prop where
  sm : Same H H5
  eH : H5 Dh = some (.lst ((M11.hm rules).map V.str))
  eE : H5 De = some (.lst (ns.map V.str))
  eP : H5 Lp = some (.lst (us.map V.ref))
  fP : H Lp = none
  pP : Paired (PrV K H5) us prs
  nd : prs.Nodup
  bg : ∀ x ∈ prs, Beg rules ns x.2 x.1
theorem PrV.same {K : PySem.W.Frag} {H H' : Hp} {t : Addr} {p : Str × Str} (s : Same H H') (h : PrV K H t p) : PrV K H' t p := s.tup h
theorem BSt.same {K : PySem.W.Frag} {rules : List Rule} {ns : List Str} {H H5 H6 : Hp} {Dh De Lp : Addr} {us : List Addr} {prs : List (Str × Str)} (h : BSt K rules ns H H5 Dh De Lp us prs) (s : Same H5 H6) : BSt K rules ns H H6 Dh De Lp us prs :=
  ⟨h.sm.trans s, s _ _ h.eH, s _ _ h.eE, s _ _ h.eP, h.fP, Paired.mapP h.pP fun _ _ z => z.same s, h.nd, h.bg⟩
section
variable {P : Program} {w : World} {K : PySem.W.Frag} {mg : Str → Option Value} {base : Heap} {f : Addr} {fd : FuncData}
def spBegins (K : PySem.W.Frag) : Sp := fun vs H Q _ => ∃ (R : Addr) (rs : List Addr) (rules : List Rule) (txs : List Str), vs = [.ref R] ∧ SqL K H R (rs.map V.ref) ∧ Rules K H rs rules ∧ Small rules ∧ (∀ ru ∈ rules, ∀ x ∈ ru.2, x ∈ txs) ∧ txs.length ≤ 8 ∧
  ∀ (D : Addr) (us : List Addr) (prs : List (Str × Str)) (H' : Hp), H D = none → Same H H' → H' D = some (.lst (us.map V.ref)) → Paired (PrV K H') us prs → prs.Nodup → (∀ x, x ∈ prs ↔ Beg rules (endedM false rules) x.2 x.1) → prs.length ≤ 64 → Q (.ref D) H'
abbrev NBg : List Str := ["_law_rules", "_law_heads", "_law_empty", "_law_pairs", "_law_many", "_law_head", "_law_parts", "_law_k", "_law_words_here"]
theorem scBegins : FnScope NBg ["_law_rules"] (defScope sBegins) := ⟨rfl, rfl, rfl, by decide +kernel, rfl, by decide +kernel, by decide +kernel⟩
theorem ok_begins (F : Fun K "_law_begins" "_law_begins" sBegins f fd) (T : Txt mg) (GE : CalleeD P w K mg base 1 "_law_ended" ["_law_rules", "_law_words_here"] (spEnded K)) : FnOk P w K mg base CX0 2 f fd ["_law_rules"] (spBegins K) := by
  refine F.ok scBegins (fun vs H Q E h => ?_) (fun cdv A outer s H vs Q E hr h => ?_)
  · obtain ⟨R, rs, rules, txs, rfl, _⟩ := h; rfl
  · obtain ⟨R, rs, rules, txs, rfl, hR, hrl, hsm, htx, hx8, q⟩ := h
    have hu := hu_of hr
    refine ⟨_, pss_cons (ps_setC (iy := 1) ["_law_head", "_law_parts"] [] scBegins.nd rfl rfl rfl (pi_list (pv 0)) (caps_of rfl rfl) (by decide +kernel) rfl (by decide +kernel)
        (fun _ _ _ _ _ => pg_tupK (n := 2) K rfl (pgs_cons (pg_name (i := 0) (show (["_law_head", "_law_parts"] : List Str).Nodup by decide +kernel) rfl (Or.inl rfl)) (pgs_cons (pg_name (i := 1) (show (["_law_head", "_law_parts"] : List Str).Nodup by decide +kernel) rfl (Or.inl rfl)) pgs_nil))) (fun _ _ _ _ _ => pif_nil) (fun _ _ _ _ _ => pv 0))
      (pss_cons (ps_set (i := 2) scBegins.nd rfl (Or.inr rfl) (pe_fn GE hr rfl (pa_cons (pv 0) (pa_cons pe_bl pa_nil))))
      (pss_cons (ps_set (i := 3) scBegins.nd rfl (Or.inr rfl) (pe_lst pa_nil))
      (pss_cons (ps_set (i := 4) scBegins.nd rfl (Or.inl rfl) (pe_un un_neg pe_int))
      (pss_cons (ps_while PassesOwn.never (pt_cmpR op_lt (pv 4) (pe_callB call_len_seq rfl T.len PySem.boot_len (pa_cons (pv 3) pa_nil)) (nomark _))
        (pss_cons (ps_set (i := 4) scBegins.nd rfl (Or.inl rfl) (pe_callB call_len_seq rfl T.len PySem.boot_len (pa_cons (pv 3) pa_nil)))
        (pss_one (ps_for PassesOwn.never rfl (pi_list (pv 0)) (pg_tup rfl (pgs_cons (pg_name (i := 5) scBegins.nd rfl (Or.inr rfl)) (pgs_cons (pg_name (i := 6) scBegins.nd rfl (Or.inr rfl)) pgs_nil)))
          (pss_one (ps_for PassesOwn.never rfl (pi_range1 rfl T.rng (pa_cons (pe_callB call_len_seq rfl T.len PySem.boot_len (pa_cons (pv 6) pa_nil)) pa_nil)) (pg_name (i := 7) scBegins.nd rfl (Or.inr rfl))
            (pss_one (ps_if (pt_val (pe_callB (call_allB rfl) rfl T.all boot_all (pa_cons (pe_compG ["_law_part"] [(2, "_law_empty")] rfl (pi_tup (pe_slice sl_tupG (pv 6) po_none (po_some (pv 7)))) (caps_of rfl rfl) (by decide +kernel) rfl (by decide +kernel)
                (fun _ _ _ _ _ => pg_name (i := 0) (show (["_law_part", "_law_empty"] : List Str).Nodup by decide +kernel) rfl (Or.inl rfl)) (fun _ _ _ _ _ => pif_nil) (fun _ _ _ _ _ => pe_cmpR (op_in_seqK K) (pv 0) (pv 1) rfl)) pa_nil)))
              (pss_cons (ps_set (i := 8) scBegins.nd rfl (Or.inl rfl) (pe_lst (pa_cons (pe_ix ix_tup (pv 6) (pv 7) (fun _ _ => rfl)) pa_nil)))
              (pss_cons (ps_cutS (ps_if (pt_cmpR op_in_seq (pe_ix ix_tup (pv 6) (pv 7) (fun _ _ => rfl)) (pv 1) rfl)
                (pss_one (ps_setC (iy := 8) ["_law_name", "_law_word"] [(6, "_law_parts"), (7, "_law_k")] scBegins.nd rfl rfl rfl (pi_list (pv 3)) (caps_of rfl rfl) (by decide +kernel) rfl (by decide +kernel)
                  (fun _ _ _ _ _ => pg_tupK (n := 2) K rfl (pgs_cons (pg_name (i := 0) (show (["_law_name", "_law_word", "_law_parts", "_law_k"] : List Str).Nodup by decide +kernel) rfl (Or.inl rfl)) (pgs_cons (pg_name (i := 1) (show (["_law_name", "_law_word", "_law_parts", "_law_k"] : List Str).Nodup by decide +kernel) rfl (Or.inl rfl)) pgs_nil)))
                  (fun _ _ _ _ _ => pif_one (pt_cmpR op_eq (pv 0) (pe_ix (ix_tupK K) (pv 2) (pv 3) (fun _ _ => rfl)) (nomark _))) (fun _ _ _ _ _ => pv 1))) pss_nil))
              (pss_one (ps_set (i := 3) scBegins.nd rfl (Or.inr rfl) (pe_op op_cat (pv 3) (pe_compG ["_law_word"] [(5, "_law_head"), (3, "_law_pairs")] rfl (pi_list (pv 8)) (caps_of rfl rfl) (by decide +kernel) rfl (by decide +kernel)
                (fun _ _ _ _ _ => pg_name (i := 0) (show (["_law_word", "_law_head", "_law_pairs"] : List Str).Nodup by decide +kernel) rfl (Or.inl rfl)) (fun _ _ _ _ _ => pif_one (pt_cmpR (op_notInPK K hu) (pe_tup (pa_cons (pv 1) (pa_cons (pv 0) pa_nil))) (pv 2) rfl)) (fun _ _ _ _ _ => pe_tup (pa_cons (pv 1) (pa_cons (pv 0) pa_nil))))))))) pss_nil))))))))
      (pss_one (ps_ret (pv 3))))))), ?_⟩
    have ll := Paired.length hrl
    have hn1 := hsm.one
    have hn8 := hsm.most
    have few : ∀ prs : List (Str × Str), prs.Nodup → (∀ x ∈ prs, Beg rules (endedM false rules) x.2 x.1) → prs.length ≤ 64 := fun prs h hb => by
      have h1 := pairs_few h hb htx
      have h2 : rules.length * txs.length ≤ 8 * 8 := Nat.mul_le_mul hn8 hx8
      omega
    refine ⟨_, rfl, R, rfl, ⟨_, hR⟩, fun Dh hDh => comp_heads hR hrl (by omega) hDh fun H1 s1 eD1 => ?_⟩
    refine goN ?_
    refine ⟨_, rfl, R, rs, rules, false, rfl, s1.seq hR, hrl.same s1, hsm, fun De H2 hDe s2 e2 l2 => ?_⟩
    have eD2 := s2 _ _ eD1
    generalize hns : endedM false rules = ns at *
    refine ⟨(by show 0 ≤ sizeLine; decide), fun L0 hL0 => ?_⟩
    have k3 := same_laid hL0 (.lst [])
    have e3 : upd H2 L0 (.lst []) L0 = some (.lst []) := upd_same
    have fL0 : H L0 = none := (s1.trans s2).free hL0
    generalize upd H2 L0 (.lst []) = H3 at k3 e3
    have S0 : BSt K rules ns H H3 Dh De L0 [] [] := ⟨(s1.trans s2).trans k3, k3 _ _ eD2, k3 _ _ e2, e3, fL0, .nil, List.nodup_nil, fun _ h => by cases h⟩
    refine ⟨1, rfl, ?_⟩
    refine ⟨fun m σ H5 => ∃ (Lp : Addr) (us : List Addr) (prs : List (Str × Str)) (many : Int) (y5 y6 y7 y8 : Option V), σ = [some (.ref R), some (.ref Dh), some (.ref De), some (.ref Lp), some (.int many), y5, y6, y7, y8] ∧ BSt K rules ns H H5 Dh De Lp us prs ∧ -1 ≤ many ∧ many ≤ prs.length ∧ (many = prs.length → ClB rules ns prs) ∧ (m : Int) = 65 - many,
      ⟨66, L0, [], [], -1, none, none, none, none, rfl, S0, by omega, by simp, by simp, by simp⟩, ?_⟩
    rintro m σ H5 ⟨Lp, us, prs, many, y5, y6, y7, y8, rfl, S, b1, b2, cl, em⟩
    have lus := Paired.length S.pP
    refine ⟨_, rfl, _, rfl, Lp, _, rfl, .inl (SqL.of S.eP), _, _, rfl, rfl, _, rfl, ?_⟩
    refine ite2 (fun c => ?_) (fun c => ?_)
    · have c' := of_decide_eq_true c
      rw [List.length_map, lus] at c'
      refine ⟨fun σ H6 => ∃ (Lp : Addr) (us2 : List Addr) (ext : List (Str × Str)) (y5 y6 y7 y8 : Option V), σ = [some (.ref R), some (.ref Dh), some (.ref De), some (.ref Lp), some (.int (prs.length : Int)), y5, y6, y7, y8] ∧ BSt K rules ns H H6 Dh De Lp us2 (prs ++ ext) ∧ ∀ ru ∈ rules, Did rules ns ru prs (prs ++ ext), ?_, ?_⟩
      · rintro σ H6 ⟨Lp2, us2, ext, y5, y6, y7, y8, rfl, S2, dd⟩
        have f2 := few _ S2.nd S2.bg
        rw [List.length_append] at f2
        refine ⟨(65 - prs.length : Int).toNat, by omega, Lp2, us2, prs ++ ext, _, _, _, _, _, rfl, S2, by omega, by rw [List.length_append]; omega, fun z => ?_, by omega⟩
        rw [List.length_append] at z
        have : ext = [] := List.eq_nil_of_length_eq_zero (by omega)
        subst this
        rw [List.append_nil] at dd ⊢
        exact fun ru hru pl p e o => dd ru hru pl p e o
      · refine ⟨_, rfl, Lp, _, rfl, .inl (SqL.of S.eP), ?_⟩
        rw [List.length_map, lus]
        refine ⟨_, rfl, R, rfl, ⟨_, S.sm.seq hR⟩, ?_⟩
        refine for_list (xs := rs.map V.ref) (fun i σ H6 => ∃ (Lp : Addr) (us2 : List Addr) (ext : List (Str × Str)) (y5 y6 y7 y8 : Option V), σ = [some (.ref R), some (.ref Dh), some (.ref De), some (.ref Lp), some (.int (prs.length : Int)), y5, y6, y7, y8] ∧ BSt K rules ns H H6 Dh De Lp us2 (prs ++ ext) ∧ ∀ ru ∈ rules.take i, Did rules ns ru prs (prs ++ ext))
          ⟨Lp, us, [], _, _, _, _, rfl, by rw [List.append_nil]; exact S, fun ru hru => by simp at hru⟩ ?_ ?_ ?_
        · rintro i σ H6 _ ⟨Lp2, us2, ext, y5, y6, y7, y8, rfl, S2, _⟩
          exact S2.sm.seq hR
        · rintro i x σ H6 ex ⟨Lp2, us2, ext, y5, y6, y7, y8, rfl, S6, dd⟩
          rw [List.getElem?_map] at ex
          obtain ⟨r, er, rfl⟩ := Option.map_eq_some_iff.mp ex
          obtain ⟨ru, e1, p, v1, v2⟩ := hrl.get er
          have hru := List.mem_of_getElem? e1
          have h8r := hsm.few ru hru
          have tk : rules.take (i + 1) = rules.take i ++ [ru] := by rw [List.take_add_one, e1]; rfl
          refine ⟨r, _, rfl, S6.sm.tup v1, rfl, _, _, rfl, _, _, rfl, rfl, ?_⟩
          refine ⟨_, rfl, p, _, rfl, .inr (S6.sm.tup v2), _, rfl, by rw [List.length_map]; omega, by rw [List.length_map]; omega, ?_⟩
          rw [List.length_map, Int.toNat_natCast]
          refine for_range (n := ru.2.length) (fun j σ H7 => ∃ (Lp : Addr) (us2 : List Addr) (ex2 : List (Str × Str)) (y7 y8 : Option V), σ = [some (.ref R), some (.ref Dh), some (.ref De), some (.ref Lp), some (.int (prs.length : Int)), some (.str ru.1), some (.ref p), y7, y8] ∧ BSt K rules ns H H7 Dh De Lp us2 (prs ++ (ext ++ ex2)) ∧ DidN rules ns ru prs (prs ++ (ext ++ ex2)) j) ⟨Lp2, us2, [], _, _, rfl, by rw [List.append_nil]; exact S6, fun pl pp l => absurd l (Nat.not_lt_zero _)⟩ ?_ ?_
          · rintro j σ H7 hj ⟨Lp3, us3, ex2, y7, y8, rfl, S7, did⟩
            have subp : ∀ x ∈ prs, x ∈ prs ++ (ext ++ ex2) := fun x hx => List.mem_append_left _ hx
            generalize hpr : prs ++ (ext ++ ex2) = pr2 at *
            obtain ⟨pt, ept⟩ : ∃ pt, ru.2[j]? = some pt := ⟨_, List.getElem?_eq_getElem hj⟩
            have atp : atI (ru.2.map V.str) (0 + (j : Int)) = some (.str pt) := by
              rw [Int.zero_add]
              exact atI_nat (by rw [List.getElem?_map, ept]; rfl)
            have cut : cutV (ru.2.map V.str) none (some (0 + (j : Int))) = (ru.2.take j).map V.str := by
              rw [Int.zero_add]
              unfold cutV
              rw [show HT.sIx (ru.2.map V.str).length 0 none = 0 from rfl, HT.sIx_nat, List.drop_zero, Nat.sub_zero, List.map_take, ← List.take_eq_take_min]
            refine goN ?_
            refine ⟨_, rfl, _, rfl, _, rfl, p, _, rfl, S7.sm.tup v2, fun p2 H8 s8 ep2 => ?_⟩
            rw [cut] at ep2
            refine ⟨p2, rfl, ⟨_, ep2⟩, fun D9 hD9 => comp_boolsT (zs := ru.2.take j) [some (.ref De)] (fun z => decide (z ∈ ns)) rfl ep2 (by rw [List.length_take]; omega) hD9 (fun z _ HA Qy sA hq => ?_) fun H9 s9 e9 => ?_⟩
            · refine ⟨_, rfl, _, rfl, De, _, rfl, .inl (SqL.of (sA _ _ (s8 _ _ S7.eE))), rfl, flat_strs _, ?_⟩
              rw [inV_str]
              exact hq
            · have S9 := S7.same (s8.trans s9)
              refine ⟨D9, _, rfl, SqL.of e9, _, rfl, ?_⟩
              rw [all_map]
              cases ca : (ru.2.take j).all fun x => decide (x ∈ ns) with
              | false =>
                refine iteF ?_
                refine ⟨Lp3, us3, ex2, _, _, rfl, by rw [hpr]; exact S9, ?_⟩
                rw [hpr]
                intro pl pp l e o
                by_cases cj : pl < j
                · exact did pl pp cj e o
                · have : pl = j := by omega
                  subst this
                  rw [List.all_eq_true.mpr fun x hx => decide_eq_true (o x hx)] at ca
                  cases ca
              | true =>
                have opj : Op ns ru j := fun x hx => of_decide_eq_true (List.all_eq_true.mp ca x hx)
                refine iteT ?_
                refine ⟨_, rfl, _, rfl, p, _, _, _, rfl, rfl, S9.sm.tup v2, atp, (by show 1 ≤ sizeLine; decide), fun Dw hDw => ?_⟩
                have kA := same_laid hDw (.lst [V.str pt])
                have eA : upd H9 Dw (.lst [V.str pt]) Dw = some (.lst [V.str pt]) := upd_same
                generalize upd H9 Dw (.lst [V.str pt]) = HA at kA eA
                have SA := S9.same kA
                have lf := few pr2 SA.nd SA.bg
                have lus3 := Paired.length SA.pP
                refine ⟨fun σ HB => ∃ (Dv : Addr) (wsl : List Str), σ = [some (.ref R), some (.ref Dh), some (.ref De), some (.ref Lp3), some (.int (prs.length : Int)), some (.str ru.1), some (.ref p), some (.int (0 + (j : Int))), some (.ref Dv)] ∧ Same HA HB ∧ HB Dv = some (.lst (wsl.map V.str)) ∧ wsl.Nodup ∧ wsl.length ≤ 64 ∧ (pt ∉ M11.hm rules → wsl = [pt]) ∧ (pt ∈ M11.hm rules → ∀ x, x ∈ wsl ↔ (pt, x) ∈ pr2), ?_, ?_⟩
                · refine ⟨_, rfl, _, rfl, p, _, _, _, rfl, rfl, SA.sm.tup v2, atp, _, rfl, Dh, _, rfl, .inl (SqL.of SA.eH), rfl, flat_strs _, _, rfl, ?_⟩
                  rw [inV_str]
                  refine ite2 (fun cc => ?_) (fun cc => ?_)
                  · have hin : pt ∈ M11.hm rules := of_decide_eq_true cc
                    refine ⟨_, rfl, Lp3, rfl, ⟨_, SqL.of SA.eP⟩, fun DA hDA => compG_list (xs := us3.map V.ref) (fun m ys σ2 HC => ys = (((pr2.take m).filter fun q => decide (q.1 = pt)).map fun q => V.str q.2) ∧ (∃ y0 y1, σ2 = [y0, y1, some (.ref p), some (.int (0 + (j : Int)))]) ∧ Same HA HC ∧ HC DA = some (.lst ys)) ⟨rfl, ⟨none, none, rfl⟩, same_laid hDA _, upd_same⟩ (fun m ys σ2 HC _ h => ?_) (fun m x ys σ2 HC ex h => ?_) (fun ys σ2 HC h => ?_)⟩
                    · obtain ⟨_, _, sm, _⟩ := h
                      exact SqL.of (sm _ _ SA.eP)
                    · obtain ⟨rfl, ⟨y0, y1, rfl⟩, sm, eD⟩ := h
                      rw [List.getElem?_map] at ex
                      obtain ⟨u, eu, rfl⟩ := Option.map_eq_some_iff.mp ex
                      have lm := (List.getElem?_eq_some_iff.mp eu).1
                      obtain ⟨qq, eqq⟩ : ∃ qq, pr2[m]? = some qq := ⟨_, List.getElem?_eq_getElem (by omega)⟩
                      obtain ⟨u', eu', vu⟩ := Paired.at_ SA.pP m qq eqq
                      rw [eu] at eu'
                      cases eu'
                      have tkq := take_filter (fun q : Str × Str => decide (q.1 = pt)) eqq
                      have lfq : ((pr2.take m).filter fun q => decide (q.1 = pt)).length ≤ 64 := Nat.le_trans (List.length_filter_le _ _) (by rw [List.length_take]; omega)
                      refine ⟨u, _, rfl, sm.tup vu, rfl, _, _, rfl, _, _, rfl, rfl, ?_⟩
                      refine ⟨_, rfl, _, rfl, _, rfl, p, _, _, _, rfl, rfl, (SA.sm.trans sm).tup v2, atp, rfl, _, rfl, ?_⟩
                      have dv : decide (V.str qq.1 = V.str pt) = decide (qq.1 = pt) := by
                        by_cases c : qq.1 = pt
                        · rw [c, decide_eq_true rfl, decide_eq_true rfl]
                        · rw [decide_eq_false c, decide_eq_false (fun z => c (by injection z))]
                      rw [dv]
                      refine ite2 (fun c3 => ?_) (fun c3 => ?_)
                      · refine ⟨_, rfl, eD, fits' (by rw [List.length_map]; omega), ?_, ⟨_, _, rfl⟩, fun b o hb => ?_, upd_same⟩
                        · rw [tkq, if_pos c3, List.map_append]; rfl
                        · rw [upd_ne (fun z => by rw [z, hDA] at hb; cases hb)]
                          exact sm b o hb
                      · exact ⟨by rw [tkq, if_neg c3, List.append_nil], ⟨_, _, rfl⟩, sm, eD⟩
                    · obtain ⟨rfl, _, sm, eD⟩ := h
                      rw [List.length_map, lus3, List.take_length] at eD
                      refine goN ?_
                      refine ⟨DA, (pr2.filter fun q => decide (q.1 = pt)).map (·.2), rfl, sm, by rw [eD, List.map_map]; rfl, nd_sel pt SA.nd, by rw [List.length_map]; exact Nat.le_trans (List.length_filter_le _ _) lf, fun h => absurd hin h, fun _ x => ?_⟩
                      rw [List.mem_map]
                      constructor
                      · rintro ⟨q2, hq2, rfl⟩
                        obtain ⟨a1, a2⟩ := List.mem_filter.mp hq2
                        rw [← of_decide_eq_true a2]
                        exact a1
                      · exact fun hx => ⟨(pt, x), List.mem_filter.mpr ⟨hx, decide_eq_true rfl⟩, rfl⟩
                  · have nin : pt ∉ M11.hm rules := fun z => cc (decide_eq_true z)
                    exact ⟨Dw, [pt], rfl, Same.refl _, eA, by simp, by simp, fun _ => rfl, fun h => absurd h nin⟩
                rintro σ HB ⟨Dv, wsl, rfl, sB, eB, nw, lw, w1, w2⟩
                have SB := SA.same sB
                refine ⟨_, rfl, _, rfl, Dv, rfl, ⟨_, SqL.of eB⟩, fun DC hDC => compG_list (xs := wsl.map V.str) (fun m ys σ2 HC => (∃ vs : List Addr, ys = vs.map V.ref ∧ Paired (PrV K HC) vs (newP pr2 ru.1 (wsl.take m))) ∧ (∃ y0, σ2 = [y0, some (.str ru.1), some (.ref Lp3)]) ∧ Same HB HC ∧ HC DC = some (.lst ys)) ⟨⟨[], rfl, .nil⟩, ⟨none, rfl⟩, same_laid hDC _, upd_same⟩ (fun m ys σ2 HC _ h => ?_) (fun m x ys σ2 HC ex h => ?_) (fun ys σ2 HC h => ?_)⟩
                · obtain ⟨_, _, sm, _⟩ := h
                  exact SqL.of (sm _ _ eB)
                · obtain ⟨⟨vs, rfl, pv⟩, ⟨y0, rfl⟩, sm, eD⟩ := h
                  rw [List.getElem?_map] at ex
                  obtain ⟨wd, ewd, rfl⟩ := Option.map_eq_some_iff.mp ex
                  have lvs := Paired.length pv
                  have lnp : (newP pr2 ru.1 (wsl.take m)).length ≤ 64 := by
                    unfold newP
                    rw [List.length_map]
                    exact Nat.le_trans (List.length_filter_le _ _) (by rw [List.length_take]; omega)
                  have tkw : newP pr2 ru.1 (wsl.take (m + 1)) = newP pr2 ru.1 (wsl.take m) ++ if (!decide ((ru.1, wd) ∈ pr2)) = true then [(ru.1, wd)] else [] := by
                    unfold newP
                    rw [take_filter _ ewd, List.map_append]
                    congr 1
                    split <;> rfl
                  refine goN ?_
                  refine ⟨_, rfl, _, rfl, (by show 2 ≤ sizeLine; decide), fun u1 hu1 => ?_⟩
                  have kD := same_laid hu1 (.tup [V.str ru.1, V.str wd])
                  have eu1 : SqT K (upd HC u1 (.tup [V.str ru.1, V.str wd])) u1 [.str ru.1, .str wd] := SqT.of upd_same
                  generalize upd HC u1 (.tup [V.str ru.1, V.str wd]) = HD at kD eu1
                  have SD := SB.same (sm.trans kD)
                  have eDD := kD _ _ eD
                  refine ⟨_, rfl, u1, Lp3, (ru.1, wd), us3, pr2, rfl, rfl, eu1, SqL.of SD.eP, SD.pP, _, rfl, ?_⟩
                  show if (!decide ((ru.1, wd) ∈ pr2)) = true then _ else _
                  refine ite2 (fun cc => ?_) (fun cc => ?_)
                  · refine ⟨_, rfl, _, rfl, (by show 2 ≤ sizeLine; decide), fun u2 hu2 => ?_⟩
                    have kE := same_laid hu2 (.tup [V.str ru.1, V.str wd])
                    have eu2 : SqT K (upd HD u2 (.tup [V.str ru.1, V.str wd])) u2 [.str ru.1, .str wd] := SqT.of upd_same
                    generalize upd HD u2 (.tup [V.str ru.1, V.str wd]) = HE at kE eu2
                    have eDE := kE _ _ eDD
                    refine ⟨eDE, fits' (by rw [List.length_map]; omega), ⟨vs ++ [u2], by rw [List.map_append]; rfl, ?_⟩, ⟨_, rfl⟩, fun b o hb => ?_, upd_same⟩
                    · rw [tkw, if_pos cc]
                      exact Paired.snoc (Paired.mapP pv fun a b z => sqt_upd eDE ((kD.trans kE).tup z)) (sqt_upd eDE eu2)
                    · rw [upd_ne (fun z => by rw [z, hDC] at hb; cases hb)]
                      exact kE _ _ (kD _ _ (sm b o hb))
                  · exact ⟨⟨vs, rfl, by rw [tkw, if_neg cc, List.append_nil]; exact Paired.mapP pv fun a b z => kD.tup z⟩, ⟨_, rfl⟩, sm.trans kD, eDD⟩
                · obtain ⟨⟨vs, rfl, pv⟩, _, sm, eD⟩ := h
                  rw [List.length_map, List.take_length] at pv
                  have SC := SB.same sm
                  have lvs := Paired.length pv
                  have lnp : (newP pr2 ru.1 wsl).length ≤ 64 := by
                    unfold newP
                    rw [List.length_map]
                    exact Nat.le_trans (List.length_filter_le _ _) lw
                  refine ⟨Lp3, DC, us3.map V.ref, vs.map V.ref, rfl, rfl, SC.eP, eD, fits (by rw [List.length_map, List.length_map]; omega), fun L4 hL4 => ?_⟩
                  have kF := same_laid hL4 (.lst (us3.map V.ref ++ vs.map V.ref))
                  have eF : upd HC L4 (.lst (us3.map V.ref ++ vs.map V.ref)) L4 = some (.lst ((us3 ++ vs).map V.ref)) := by rw [upd_same, List.map_append]
                  generalize upd HC L4 (.lst (us3.map V.ref ++ vs.map V.ref)) = HF at kF eF
                  have SF := SC.same kF
                  have bgn : ∀ x ∈ pr2 ++ newP pr2 ru.1 wsl, Beg rules ns x.2 x.1 := fun x hx => by
                    rcases List.mem_append.mp hx with h | h
                    · exact SF.bg x h
                    · obtain ⟨z1, z2, _⟩ := mem_newP.mp h
                      rw [z1]
                      by_cases hp : pt ∈ M11.hm rules
                      · exact .name hru opj ept (SF.bg _ ((w2 hp x.2).mp z2))
                      · have h1 := w1 hp
                        rw [h1] at z2
                        rw [List.mem_singleton.mp z2]
                        exact .word hru opj ept hp
                  have inn : ∀ x ∈ wsl, (ru.1, x) ∈ pr2 ++ newP pr2 ru.1 wsl := fun x hx => by
                    by_cases hc : (ru.1, x) ∈ pr2
                    · exact List.mem_append_left _ hc
                    · exact List.mem_append_right _ (mem_newP.mpr ⟨rfl, hx, hc⟩)
                  have eap : prs ++ (ext ++ (ex2 ++ newP pr2 ru.1 wsl)) = pr2 ++ newP pr2 ru.1 wsl := by rw [← hpr]; simp only [List.append_assoc]
                  refine ⟨L4, us3 ++ vs, ex2 ++ newP pr2 ru.1 wsl, _, _, rfl, ?_, ?_⟩
                  · rw [eap]
                    exact ⟨SF.sm, SF.eH, SF.eE, eF, SC.sm.free hL4, Paired.app2 SF.pP (Paired.mapP pv fun _ _ z => kF.tup z), nd_newP SF.nd nw, bgn⟩
                  · rw [eap]
                    intro pl pp l e o
                    by_cases cj : pl < j
                    · obtain ⟨a1, a2⟩ := did pl pp cj e o
                      exact ⟨fun n => List.mem_append_left _ (a1 n), fun h w hw => List.mem_append_left _ (a2 h w hw)⟩
                    · have : pl = j := by omega
                      subst this
                      rw [ept] at e
                      cases e
                      refine ⟨fun n => inn pt ?_, fun h w hw => inn w ((w2 h w).mpr (subp _ hw))⟩
                      rw [w1 n]
                      exact List.mem_singleton.mpr rfl
          · rintro σ H7 ⟨Lp3, us3, ex2, y7, y8, rfl, S7, did⟩
            refine ⟨Lp3, us3, ext ++ ex2, _, _, _, _, rfl, S7, fun ru' hru' => ?_⟩
            rw [tk] at hru'
            rcases List.mem_append.mp hru' with h | h
            · exact (dd ru' h).mono (fun _ z => z) fun x hx => by rw [← List.append_assoc]; exact List.mem_append_left _ hx
            · rw [List.mem_singleton.mp h]
              exact fun pl pp e o => did pl pp (List.getElem?_eq_some_iff.mp e).1 e o
        · rintro σ H6 ⟨Lp2, us2, ext, y5, y6, y7, y8, rfl, S6, dd⟩
          refine ⟨Lp2, us2, ext, _, _, _, _, rfl, S6, fun ru hru => dd ru ?_⟩
          rw [List.length_map, ll, List.take_length]
          exact hru
    · have c' : ¬ (many < (us.map V.ref).length) := fun z => c (decide_eq_true z)
      rw [List.length_map, lus] at c'
      have hcl := cl (by omega)
      exact ⟨_, rfl, q Lp us prs H5 S.fP S.sm S.eP S.pP S.nd (fun x => ⟨fun h => S.bg x h, fun b => Beg.in_ hcl b⟩) (few _ S.nd S.bg)⟩
end
end K11
namespace L2
open PySem PySem.Spec PyProof.Rows
section
variable {prog : Program} {w : World} {A : Around} {E : Value → Shared → Prop} {s : Shared}
theorem sort_short {a : Addr} {vs : List Value} {n : Nat} {P : Fin → Shared → Prop} (ho : s.heap.get? a = some (seqObj "list" vs.toArray n)) (h1 : vs.length < 2)
    (h : P (.done (.ret .none)) { s with heap := sortedHeap s.heap a vs ((pairsOf vs).map (·.2)) }) :
    wpAny (model prog w) A (Builtin.«list.sort» ⟨[.ref a], []⟩) P E s := by
  rw [list_sort_plain]
  have ha : a < s.heap.objs.size := Heap.lt_size ho
  refine wpAny_bind (listItems_at ho rfl ?_)
  refine wpAny_bind (listUpdate_at ho rfl ?_)
  obtain ⟨e1, ho1⟩ : ∃ e1, (s.heap.update a (Obj.mapSeq fun _ => #[])).get? a = some (seqObj "list" #[] e1) := ⟨_, get?_update_seq ho (fun _ => #[])⟩
  refine wpAny_bind (seqEpoch_at ho1 rfl ?_)
  refine wpAny_bind (wpAny_newTuple ?_)
  refine wpAny_bind (wpAny_newList ?_)
  refine wpAny_holding ?_
  have ho6 : (((s.heap.update a (Obj.mapSeq fun _ => #[])).push (seqObj "tuple" vs.toArray 0)).push (seqObj "list" #[] 0)).get? a = some (seqObj "list" #[] e1) := by
    rw [Heap.get?_push_ne _ _ _ (by rw [size_push', Heap.size_update]; exact Nat.ne_of_lt (Nat.lt_succ_of_lt ha)), Heap.get?_push_ne _ _ _ (by rw [Heap.size_update]; exact Nat.ne_of_lt ha)]
    exact ho1
  show wpAny (model prog w) A _ P E { s with heap := ((s.heap.update a (Obj.mapSeq fun _ => #[])).push (seqObj "tuple" vs.toArray 0)).push (seqObj "list" #[] 0) }
  dsimp only
  have h2 : vs.toArray.size < 2 := by simpa using h1
  rw [if_pos h2, if_pos h2]
  refine wpAny_bind (wpAny_pure ?_)
  rw [StateT.run_pure]
  refine wpAny_bind (wpAny_pure ?_)
  dsimp only
  refine wpAny_bind (seqEpoch_at ho6 rfl ?_)
  refine wpAny_bind (listUpdate_at ho6 rfl ?_ (hsz2 := by rw [Array.size_map]; show (pairsOf vs).size ≤ _; rw [pairsOf_size, sizeLine_eq]; omega))
  simp only [bne_self_eq_false, Bool.false_eq_true, if_false]
  exact wpAny_pure h
theorem sorted_short {l : Addr} {vs : List Value} {Q : Value → Shared → Prop} (hl : s.heap.IsList l vs.toArray) (h1 : vs.length < 2)
    (h : Q (.ref (s.heap.objs.size + 1)) { s with heap := sortedAll s.heap vs ((pairsOf vs).map (·.2)) }) :
    wpAny (model prog w) A (call (.builtin "sorted") [.ref l]) Q E s := by
  refine Calls.call_function_entry kind_sorted plain_sorted entry_sorted (args_sorted1 _) ?_
  unfold Builtin.«sorted»
  refine wpAny_bind (m := checkCount "sorted" 1 1 _) (wpAny_pure ?_)
  refine wpAny_bind (collect_list hl ?_)
  refine wpAny_bind (wpAny_newList ?_)
  have hsz : ((s.heap.push (seqObj "list" #[] 0)).update s.heap.objs.size (Obj.mapSeq (· ++ vs.toArray))).objs.size = s.heap.objs.size + 1 := by
    rw [Heap.size_update, size_push']
  have hoL : (((s.heap.push (seqObj "list" #[] 0)).update s.heap.objs.size (Obj.mapSeq (· ++ vs.toArray))).push (seqObj "list" vs.toArray 0)).get? (s.heap.objs.size + 1) = some (seqObj "list" vs.toArray 0) := by
    rw [← hsz]; exact Heap.get?_push_size _ rfl
  show wpAny _ _ _ _ _ { s with heap := ((s.heap.push (seqObj "list" #[] 0)).update s.heap.objs.size (Obj.mapSeq (· ++ vs.toArray))).push (seqObj "list" vs.toArray 0) }
  rw [hsz]
  refine wpAny_bind (wpAny_holding (wpAny_call_entry slot_list_sort ⟨_, hoL, rfl⟩ entry_list_sort (sort_short hoL h1 ⟨_, rfl, ?_⟩) (args_list_sort _)))
  exact wpAny_pure ⟨_, rfl, h⟩
end
theorem pairs_snd : ∀ (vs : List Value), ((pairsOf vs).map (·.2)) = vs.toArray := fun vs => by
  apply Array.toList_inj.mp
  rw [Array.toList_map, pairsOf_toList, List.map_snd_zip (Nat.le_refl _)]
theorem call_sortP {X : Cx} : CallR X (.builtin "sorted") (fun xs H Q => ∃ a ts prs, xs = [.ref a] ∧ SqL X.K H a (ts.map V.ref) ∧ prRel X H ts prs ∧ ts.length < 64 ∧ ∀ l ts' prs', H l = none → prRel X H ts' prs' → prs'.Perm prs → SrtP prs' → Q (.ref l) (upd H l (.lst (ts'.map V.ref)))) := by
  intro pins s σ H xs us Q I r h
  obtain ⟨a, ts, prs, rfl, hq, hr, h64, q⟩ := h
  by_cases h2 : 2 ≤ ts.length
  · exact call_sortP2 pins s σ H _ us Q I r ⟨a, ts, prs, rfl, hq, hr, h2, h64, q⟩
  · obtain ⟨u, rfl, rx⟩ := vals1 r
    cases (show u = Value.ref a from rx)
    obtain ⟨its, r', pl, hz⟩ := I.list hq
    have ei := refs_vals r'
    subst ei
    have lp := Paired.length hr
    refine sorted_short pl.isList (by rw [List.length_map]; omega) ?_
    rw [pairs_snd]
    obtain ⟨e, he⟩ := sortedAll_at s.heap (ts.map Value.ref) (ts.map Value.ref).toArray
    have srt : SrtP prs := by
      match prs, lp with
      | [], _ => exact .nil
      | [_], _ => exact List.pairwise_singleton _ _
      | _ :: _ :: _, z => simp at z; omega
    refine ⟨.ref (s.heap.objs.size + 1), _, I.laid (t' := s.toks) (fun b o hb => sortedAll_old hb) (Nat.le_succ _) (show ObjOk X.prog X.w _ _ _ (.lst (ts.map V.ref)) from ⟨hz, ts.map Value.ref, e, r', by rw [he]⟩), rfl, q _ ts prs (I.hok.fresh (Nat.le_succ _)) hr (List.Perm.refl _) srt⟩
theorem op_eq_deepL {X : Cx} (n : Nat) (hu : X.A.units + (n + 1) < cLine) : OpR X (compareOp .Eq) (rDeep X.K true n) := by
  intro pins s σ H x y v u Q I rx ry h
  obtain ⟨a, b, xs, ys, rfl, rfl, ha, hb, p, q⟩ := h
  cases rx
  cases ry
  obtain ⟨its, r, pl, hz⟩ := I.list ha
  obtain ⟨its2, r2, pl2, hz2⟩ := I.list hb
  have l1 := r.length
  have l2 := r2.length
  have lp := Paired.length p
  refine SeqAt.RcAt.lists (e := fun _ => true) pl.isList pl2.isList (by simp only [List.size_toArray]; omega) (by omega) (fun j h1 h2 => deq_items r r2 p (fun x y u v d r1 r2 => deq_eq I n X.A.in1 x y u v d r1 r2 (by rw [Around.in1_units]; omega)) j h1 h2) X.prog X.w X.xe _ ?_
  have e : ((List.range its.toArray.size).all fun _ => true) = true := by simp
  rw [e]
  exact ⟨.bl true, H, I, rfl, q⟩
end L2
namespace L2
open PySem
theorem sl_tupGK {X : Cx} (K : PySem.W.Frag) (hK : X.K = K := by rfl) : SlR X (rSlG2 K) := by subst hK; exact sl_tupG
theorem cut_but (xs : List V) : cutV xs none (some (-1)) = xs.take (xs.length - 1) := by
  unfold cutV
  have h : HT.sIx xs.length xs.length (some (-1)) = xs.length - 1 := by
    unfold HT.sIx
    show (if (-1 : Int) < 0 then ((-1 : Int) + (xs.length : Int)).toNat else min (-1 : Int).toNat xs.length) = _
    rw [if_pos (by decide)]
    omega
  rw [h]
  rfl
end L2
namespace K11
open PySem L2 M11
abbrev sLaw : Stmt := top 25
theorem un_of {A : Around} {k n : Nat} (hr : Room k A) (h : n ≤ 16 * k + 200) : A.units + n < cLine := by have := hr.un; omega
theorem Paired.take2 {α β : Type} {F : α → β → Prop} : ∀ {xs : List α} {ys : List β} (k : Nat), Paired F xs ys → Paired F (xs.take k) (ys.take k)
  | _, _, 0, _ => by simp only [List.take_zero]; exact .nil
  | _, _, _ + 1, .nil => .nil
  | _, _, k + 1, .cons a b => .cons a (Paired.take2 k b)
theorem dI (a b : Int) : decide (V.int a = V.int b) = decide (a = b) := by
  by_cases c : a = b
  · rw [c, decide_eq_true rfl, decide_eq_true rfl]
  · rw [decide_eq_false c, decide_eq_false (fun z => c (by injection z))]
theorem prs_deq {K : PySem.W.Frag} {H : Hp} : ∀ {as bs : List Addr} {prs : List (Str × Str)}, Paired (fun t (q : Str × Str) => SqT K H t [.str q.1, .str q.2]) as prs → Paired (fun t (q : Str × Str) => SqT K H t [.str q.1, .str q.2]) bs prs → Paired (DEq K H 1) (as.map V.ref) (bs.map V.ref)
  | _, _, _, .nil, .nil => .nil
  | _, _, _, .cons a t, .cons b u => .cons (.inr ⟨_, _, _, _, rfl, rfl, .inr ⟨a, b⟩, .cons (DEq.self (.inl rfl) 0) (.cons (DEq.self (.inl rfl) 0) .nil)⟩) (prs_deq t u)
section
variable {P : Program} {w : World} {K : PySem.W.Frag} {mg : Str → Option Value} {base : Heap} {f : Addr} {fd : FuncData}
def spLaw (K : PySem.W.Frag) : Sp := fun vs H Q _ => ∃ (a : Addr) (ns : List Int), vs = [.ref a] ∧ SqL K H a (ns.map V.int) ∧ ns.length ≤ 1000 ∧ ∀ H', Q (.bl true) H'
abbrev NLw : List Str := ["_law_script", "_law_cell", "_law_names_here", "_law_words_here", "_law_rules", "_law_empties_here", "_law_given", "_law_due", "_law_good_here", "_law_begins_here", "_law_pairs"]
theorem scLaw : FnScope NLw ["_law_script"] (defScope sLaw) := ⟨rfl, rfl, rfl, by decide +kernel, rfl, by decide +kernel, by decide +kernel⟩
theorem ok_law (F : Fun K "law" "law" sLaw f fd) (T : Txt mg) (hSo : mg "sorted" = none) (hSe : mg "set" = none)
    (GC : CalleeD P w K mg base 4 "_law_cell_at" ["_law_script", "_law_k"] (spCell K)) (GN : CalleeD P w K mg base 4 "_law_names" ["_law_cell"] spNames) (GW : CalleeD P w K mg base 4 "_law_words" ["_law_cell"] spWordsL)
    (GM : CalleeD P w K mg base 4 "_law_more" ["_law_script", "_law_at", "_law_names_here", "_law_many", "_law_words_here"] (spMore K)) (GLE : CalleeD P w K mg base 4 "_law_empties" ["_law_rules", "_law_cell"] (spLEmpties K))
    (GF : CalleeD P w K mg base 4 "_law_free" ["_law_script", "_law_at", "_law_many", "_law_rules", "_law_words_here"] (spFree K)) (GE : CalleeD P w K mg base 4 "_law_ended" ["_law_rules", "_law_words_here"] (spEnded K))
    (GES : CalleeD P w K mg base 4 "empties_stand" ["rules", "told"] (spEStand K)) (GEL : CalleeD P w K mg base 4 "empties_lack" ["rules", "names"] (spELack K)) (GR : CalleeD P w K mg base 4 "_law_rows" ["_law_rules", "_law_names_here", "_law_cell"] (spRows K))
    (GBS : CalleeD P w K mg base 4 "begins_stand" ["rules", "names", "told"] (spBStand K)) (GBL : CalleeD P w K mg base 4 "begins_lack" ["rules", "names", "pairs"] (spBLack K)) (GB : CalleeD P w K mg base 4 "_law_begins" ["_law_rules"] (spBegins K)) : FnOk P w K mg base CX0 5 f fd ["_law_script"] (spLaw K) := by
  refine F.ok scLaw (fun vs H Q E h => ?_) (fun cdv A outer s H vs Q E hr h => ?_)
  · obtain ⟨a, ns, rfl, _⟩ := h; rfl
  · obtain ⟨S, ns, rfl, hS, hl, q⟩ := h
    have hu1 := un_of (n := 1 + 1) hr (by decide)
    have hu := hu_of hr
    have hu0 := Nat.lt_of_succ_lt hu
    refine ⟨_, pss_cons (ps_set (i := 1) scLaw.nd rfl (Or.inl rfl) (pe_fn GC hr rfl (pa_cons (pv 0) (pa_cons pe_int pa_nil))))
      (pss_cons (ps_set (i := 2) scLaw.nd rfl (Or.inl rfl) (pe_fn GN hr rfl (pa_cons (pv 1) pa_nil)))
      (pss_cons (ps_set (i := 3) scLaw.nd rfl (Or.inl rfl) (pe_fn GW hr rfl (pa_cons (pv 1) pa_nil)))
      (pss_cons (ps_set (i := 4) scLaw.nd rfl (Or.inl rfl) (pe_fn GM hr rfl (pa_cons (pv 0) (pa_cons pe_int (pa_cons (pv 2) (pa_cons (pe_op op_add pe_int (pe_op op_mod (pe_op op_fdiv (pv 1) pe_int) pe_int)) (pa_cons (pv 3) pa_nil)))))))
      (pss_cons (ps_set (i := 5) scLaw.nd rfl (Or.inl rfl) (pe_fn GLE hr rfl (pa_cons (pv 4) (pa_cons (pe_op op_fdiv (pv 1) pe_int) pa_nil))))
      (pss_cons (ps_cutS (ps_if (pt_cmpR op_eq (pe_op op_mod (pe_op op_fdiv (pv 1) pe_int) pe_int) pe_int (nomark _)) (pss_one (ps_set (i := 5) scLaw.nd rfl (Or.inl rfl) (pe_slice sl_list (pv 5) po_none (po_some (pe_un un_neg pe_int))))) pss_nil))
      (pss_cons (ps_cutS (ps_if (pt_cmpR op_eq (pe_op op_mod (pe_op op_fdiv (pv 1) pe_int) pe_int) pe_int (nomark _)) (pss_one (ps_set (i := 5) scLaw.nd rfl (Or.inl rfl) (pe_fn GF hr rfl (pa_cons (pv 0) (pa_cons pe_int (pa_cons (pe_op op_mod (pe_op op_fdiv (pv 1) pe_int) pe_int) (pa_cons (pv 4) (pa_cons (pe_lst pa_nil) pa_nil)))))))) pss_nil))
      (pss_cons (ps_setC (iy := 6) ["_law_one"] [] scLaw.nd rfl rfl rfl (pi_list (pv 5)) (caps_of rfl rfl) (by decide +kernel) rfl (by decide +kernel)
        (fun _ _ _ _ _ => pg_name (i := 0) (show (["_law_one"] : List Str).Nodup by decide +kernel) rfl (Or.inl rfl)) (fun _ _ _ _ _ => pif_nil) (fun _ _ _ _ _ => pe_ix (ix_tupK K) (pv 0) pe_int (fun _ _ => rfl)))
      (pss_cons (ps_set (i := 7) scLaw.nd rfl (Or.inl rfl) (pe_sortedSet rfl rfl hSo rfl hSe (pe_fn GE hr rfl (pa_cons (pv 4) (pa_cons pe_bl pa_nil)))))
      (pss_cons (ps_cutS (ps_set (i := 8) scLaw.nd rfl (Or.inl rfl) (pe_and (pe_fn GES hr rfl (pa_cons (pv 4) (pa_cons (pv 5) pa_nil))) (pe_one (pe_cmp (pc_isN (pe_fn GEL hr rfl (pa_cons (pv 4) (pa_cons (pv 6) pa_nil)))))))))
      (pss_cons (ps_cutS (ps_if (PW.pt (pw_or (PW.pt (pw_and (pt_val (pv 8)) (pw_and1 (pt_cmpR (op_ne_same hu0) (pe_callB call_sortS rfl hSo PyProof.Rows.boot_sorted (pa_cons (pv 6) pa_nil)) (pv 7) (nomark _))))) (pw_or1 (PW.pt (pw_and (pt_not (pt_val (pv 8))) (pw_and1 (pt_cmpR op_in_seq (pe_op op_mod (pe_op op_fdiv (pv 1) pe_int) pe_int) (pe_tup (pa_cons pe_int (pa_cons pe_int pa_nil))) rfl)))))))
        (pss_one (ps_ret pe_bl)) pss_nil))
      (pss_cons (ps_if (pt_not (pt_val (pv 8))) (pss_one (ps_ret pe_bl)) pss_nil)
      (pss_cons (ps_set (i := 9) scLaw.nd rfl (Or.inl rfl) (pe_fn GR hr rfl (pa_cons (pv 4) (pa_cons (pv 6) (pa_cons (pe_op op_fdiv (pv 1) pe_int) pa_nil)))))
      (pss_cons (ps_cutS (ps_if (pt_cmpR op_eq (pe_op op_mod (pe_op op_fdiv (pv 1) pe_int) pe_int) pe_int (nomark _)) (pss_one (ps_set (i := 9) scLaw.nd rfl (Or.inl rfl) (pe_slice sl_list (pv 9) po_none (po_some (pe_un un_neg pe_int))))) pss_nil))
      (pss_cons (ps_cutS (ps_if (pt_cmpR op_eq (pe_op op_mod (pe_op op_fdiv (pv 1) pe_int) pe_int) pe_int (nomark _)) (pss_one (ps_set (i := 9) scLaw.nd rfl (Or.inl rfl) (pe_fn GF hr rfl (pa_cons (pv 0) (pa_cons pe_int (pa_cons (pe_op op_mod (pe_op op_fdiv (pv 1) pe_int) pe_int) (pa_cons (pv 4) (pa_cons (pv 3) pa_nil)))))))) pss_nil))
      (pss_cons (ps_setC (iy := 10) ["_law_one"] [] scLaw.nd rfl rfl rfl (pi_list (pv 9)) (caps_of rfl rfl) (by decide +kernel) rfl (by decide +kernel)
        (fun _ _ _ _ _ => pg_name (i := 0) (show (["_law_one"] : List Str).Nodup by decide +kernel) rfl (Or.inl rfl)) (fun _ _ _ _ _ => pif_nil) (fun _ _ _ _ _ => pe_slice (sl_tupGK K) (pv 0) po_none (po_some pe_int)))
      (pss_cons (ps_cutS (ps_set (i := 8) scLaw.nd rfl (Or.inl rfl) (pe_and (pe_fn GBS hr rfl (pa_cons (pv 4) (pa_cons (pv 6) (pa_cons (pv 9) pa_nil)))) (pe_one (pe_cmp (pc_isN (pe_fn GBL hr rfl (pa_cons (pv 4) (pa_cons (pv 6) (pa_cons (pv 10) pa_nil))))))))))
      (pss_cons (ps_if (pt_val (pv 8)) (pss_one (ps_ret (pe_cmpR (op_eq_deepL 1 hu1) (pe_callB call_sortP rfl hSo PyProof.Rows.boot_sorted (pa_cons (pv 10) pa_nil)) (pe_callB call_sortP rfl hSo PyProof.Rows.boot_sorted (pa_cons (pe_fn GB hr rfl (pa_cons (pv 4) pa_nil)) pa_nil)) (nomark _)))) pss_nil)
      (pss_one (ps_ret (pe_cmpR op_in_seq (pe_op op_mod (pe_op op_fdiv (pv 1) pe_int) pe_int) (pe_tup (pa_cons pe_int (pa_cons pe_int pa_nil))) rfl)))))))))))))))))))), ?_⟩
    refine ⟨_, rfl, S, ns, 0, rfl, hS, hl, fun c _ => ?_⟩
    refine ⟨_, rfl, c, rfl, fun N nms H1 fN s1 eN n1 n5 => ?_⟩
    refine ⟨_, rfl, c, rfl, fun W H2 fW s2 eW => ?_⟩
    obtain ⟨m, em⟩ : ∃ m : Nat, 1 + c / 9 % 5 = (m : Int) := ⟨(1 + c / 9 % 5).toNat, by omega⟩
    have gl := gWords_len c
    refine ⟨_, rfl, _, rfl, _, rfl, _, _, rfl, rfl, ⟨by decide, by decide⟩, _, _, rfl, rfl, (by show (0 : Int) < 5; decide), _, _, rfl, rfl, _, rfl, ?_⟩
    refine ⟨S, N, W, ns, 1, m, nms, gWords c, (by show [V.ref S, V.int 1, V.ref N, V.int (1 + c / 9 % 5), V.ref W] = _; rw [em]; rfl), (s1.trans s2).seq hS, hl, s2 _ _ eN, eW, by omega, n5, by omega, by omega, fun R rs rules H3 fR s3 eR hrl lm ins => ?_⟩
    have s13 := (s1.trans s2).trans s3
    have hS3 := s13.seq hS
    have eW3 := s3 _ _ eW
    clear fN eN s1 s2 s3 fR fW eW s13
    have sml : Small rules := ⟨by omega, by omega, fun ru h => (ins ru h).2.1⟩
    have h8 : ∀ ru ∈ rules, ru.2.length ≤ 8 := fun ru h => by have := (ins ru h).2.1; omega
    have htx : ∀ ru ∈ rules, ∀ x ∈ ru.2, x ∈ nms ++ gWords c := fun ru h => (ins ru h).2.2
    have ltx : (nms ++ gWords c).length ≤ 8 := by rw [List.length_append]; omega
    have lr : rules.length ≤ 5 := by omega
    have lr1 : 1 ≤ rules.length := by omega
    refine ⟨_, rfl, _, rfl, _, _, rfl, rfl, ⟨by decide, by decide⟩, R, rs, rules, c / 45, rfl, SqL.of eR, hrl, by omega, by omega, h8, fun L0 ts0 ks0 H4 fL0 s4 eL0 pk0 st0 cl0 l0 => ?_⟩
    refine ⟨fun σ H5 => ∃ (L : Addr) (ts : List Addr) (ks : List Nat), σ = [some (.ref S), some (.int c), some (.ref N), some (.ref W), some (.ref R), some (.ref L), none, none, none, none, none] ∧ Same H3 H5 ∧ H5 L = some (.lst (ts.map V.ref)) ∧ Paired (TkV K rules H5) ts ks ∧ ks.length ≤ 100 ∧ (c / 45 % 4 ≠ 1 → stE rules ks [] = true ∧ Cl rules (ks.map (hk rules))), ?_, ?_⟩
    · refine ⟨_, rfl, _, _, rfl, rfl, ⟨by decide, by decide⟩, _, _, rfl, rfl, (by show (0 : Int) < 4; decide), rfl, _, rfl, ?_⟩
      rw [dI]
      refine ite2 (fun cc => ?_) (fun cc => ?_)
      · have cc := of_decide_eq_true cc
        refine ⟨_, rfl, 1, rfl, _, rfl, L0, _, rfl, SqL.of eL0, fun L hL => ?_⟩
        exact ⟨L, ts0.take (ts0.length - 1), ks0.take (ts0.length - 1), rfl, s4.trans (same_laid hL _), by rw [upd_same, cut_but, List.length_map, List.map_take], Paired.mapP (Paired.take2 _ pk0) fun _ _ z => z.same (same_laid hL _), by rw [List.length_take]; omega, fun h => absurd cc h⟩
      · exact ⟨L0, ts0, ks0, rfl, s4, eL0, pk0, l0, fun _ => ⟨st0, cl0⟩⟩
    rintro σ H5 ⟨L1, ts1, ks1, rfl, s5, eL1, pk1, l1, g1⟩
    clear pk0 st0 cl0 l0 eL0 s4 fL0
    refine ⟨fun σ H6 => ∃ (L : Addr) (ts : List Addr) (ks : List Nat), σ = [some (.ref S), some (.int c), some (.ref N), some (.ref W), some (.ref R), some (.ref L), none, none, none, none, none] ∧ Same H3 H6 ∧ H6 L = some (.lst (ts.map V.ref)) ∧ Paired (TkV K rules H6) ts ks ∧ ks.length ≤ 100 ∧ (c / 45 % 4 ≠ 1 → c / 45 % 4 ≠ 2 → stE rules ks [] = true ∧ Cl rules (ks.map (hk rules))), ?_, ?_⟩
    · refine ⟨_, rfl, _, _, rfl, rfl, ⟨by decide, by decide⟩, _, _, rfl, rfl, (by show (0 : Int) < 4; decide), rfl, _, rfl, ?_⟩
      rw [dI]
      refine ite2 (fun cc => ?_) (fun cc => ?_)
      · have cc := of_decide_eq_true cc
        obtain ⟨m2, em2⟩ : ∃ m2 : Nat, c / 180 % 4 = (m2 : Int) := ⟨(c / 180 % 4).toNat, by omega⟩
        refine ⟨_, rfl, _, rfl, _, _, rfl, rfl, ⟨by decide, by decide⟩, _, _, rfl, rfl, (by show (0 : Int) < 4; decide), _, rfl, (by show 0 ≤ sizeLine; decide), fun W0 hW0 => ?_⟩
        have k6 := same_laid hW0 (.lst [])
        have e6 : upd H5 W0 (.lst []) W0 = some (.lst []) := upd_same
        generalize upd H5 W0 (.lst []) = H6 at k6 e6
        have s6 := s5.trans k6
        refine ⟨S, R, W0, ns, 6, m2, rs, rules, [], (by show [V.ref S, V.int 6, V.int (c / 180 % 4), V.ref R, V.ref W0] = _; rw [em2]; rfl), s6.seq hS3, hl, by omega, s6.seq (SqL.of eR), hrl.same s6, by omega, by omega, SqL.of e6, .inl ⟨rfl, fun L ts ks H7 fL s7 eL pk l => ?_⟩⟩
        exact ⟨L, ts, ks, rfl, s6.trans s7, eL, pk, by omega, fun _ h => absurd cc h⟩
      · exact ⟨L1, ts1, ks1, rfl, s5, eL1, pk1, l1, fun h _ => g1 h⟩
    rintro σ H6 ⟨L, ts, ks, rfl, s6, eL, pk, l6, g6⟩
    clear pk1 g1 l1 eL1 s5
    have lts := Paired.length pk
    refine ⟨_, rfl, L, rfl, ⟨_, SqL.of eL⟩, fun G hG => compG_list (xs := ts.map V.ref) (fun m ys σ2 HC => ys = ((ks.take m).map fun k => V.str (hk rules k)) ∧ (∃ y0, σ2 = [y0]) ∧ Same H6 HC ∧ HC G = some (.lst ys)) ⟨rfl, ⟨none, rfl⟩, same_laid hG _, upd_same⟩ (fun m ys σ2 HC _ h => ?_) (fun m x ys σ2 HC ex h => ?_) (fun ys σ2 HC h => ?_)⟩
    · obtain ⟨_, _, sm, _⟩ := h
      exact sm.seq (SqL.of eL)
    · obtain ⟨rfl, ⟨y0, rfl⟩, sm, eD⟩ := h
      rw [List.getElem?_map] at ex
      obtain ⟨t, et, rfl⟩ := Option.map_eq_some_iff.mp ex
      have lm := (List.getElem?_eq_some_iff.mp et).1
      obtain ⟨k, ek⟩ : ∃ k, ks[m]? = some k := ⟨_, List.getElem?_eq_getElem (by omega)⟩
      obtain ⟨t', et', ru, eru, vt⟩ := Paired.at_ pk m k ek
      rw [et] at et'
      cases et'
      refine goN (goT ?_)
      refine ⟨_, rfl, t, _, _, _, rfl, rfl, sm.tup vt, rfl, eD, fits' (by rw [List.length_map, List.length_take]; omega), ?_, ⟨_, rfl⟩, fun b o hb => ?_, upd_same⟩
      · rw [List.take_add_one, ek, List.map_append, ← hk_of eru]; rfl
      · rw [upd_ne (fun z => by rw [z, hG] at hb; cases hb)]
        exact sm b o hb
    obtain ⟨rfl, _, s7, eG⟩ := h
    rw [List.length_map, lts, List.take_length] at eG
    have eG7 : HC G = some (.lst ((ks.map (hk rules)).map V.str)) := by rw [eG, List.map_map]; rfl
    clear eG
    have eL7 := s7 _ _ eL
    have pk7 : Paired (TkV K rules HC) ts ks := Paired.mapP pk fun _ _ z => z.same s7
    have s37 := s6.trans s7
    clear s6 s7 eL pk
    refine goN ?_
    have lgv : (ks.map (hk rules)).length ≤ 100 := by rw [List.length_map]; exact l6
    refine ⟨_, rfl, R, rs, rules, false, rfl, s37.seq (SqL.of eR), hrl.same s37, sml, fun D8 H8 fD8 s8 eD8 l8 => ?_⟩
    have hlE : (endedM false rules).length < 64 := by
      have h1 := M11.nodup_len (endedM false rules) (hm rules) (ended_nd rules) fun z hz => by
        cases (ended_em rules z).mp hz with
        | mk hr h => exact List.mem_map_of_mem hr
      rw [List.length_map] at h1; omega
    refine ⟨D8, _, rfl, SqL.of eD8, hlE, fun D zs hD pz sz => ?_⟩
    have k9 := same_laid hD (.lst (zs.map V.str))
    have eD9 : upd H8 D (.lst (zs.map V.str)) D = some (.lst (zs.map V.str)) := upd_same
    generalize upd H8 D (.lst (zs.map V.str)) = H9 at k9 eD9
    have s79 := s8.trans k9
    have s39 := s37.trans s79
    have eG9 := s79 _ _ eG7
    have eL9 := s79 _ _ eL7
    have pk9 : Paired (TkV K rules H9) ts ks := Paired.mapP pk7 fun _ _ z => z.same s79
    clear eG7 eL7 pk7 s79 s37 s8 k9 eD8 fD8
    generalize hgv : ks.map (hk rules) = gv at *
    refine ⟨fun σ HA => ∃ b : Bool, σ = [some (.ref S), some (.int c), some (.ref N), some (.ref W), some (.ref R), some (.ref L), some (.ref G), some (.ref D), some (.bl b), none, none] ∧ Same H9 HA ∧ (b = true → stE rules ks [] = true ∧ Cl rules gv) ∧ (b = false → ¬ (stE rules ks [] = true ∧ Cl rules gv)), ?_, ?_⟩
    · refine ⟨_, rfl, _, rfl, R, L, rs, ts, rules, ks, rfl, s39.seq (SqL.of eR), hrl.same s39, by omega, h8, SqL.of eL9, pk9, by omega, fun HB sB => ⟨_, rfl, ?_⟩⟩
      cases est : stE rules ks [] with
      | false => exact iteF ⟨false, rfl, sB, fun h => (by cases h), fun _ h => (by cases h.1)⟩
      | true =>
        refine iteT ?_
        refine ⟨_, rfl, _, rfl, R, G, rs, rules, gv, rfl, (s39.trans sB).seq (SqL.of eR), hrl.same (s39.trans sB), by omega, h8, SqL.of (sB _ _ eG9), by omega, fun HD sD => ⟨fun h => ?_, fun h k => ?_⟩⟩
        · exact ⟨true, rfl, sB.trans sD, fun _ => ⟨rfl, clE_iff.mp h⟩, fun h => (by cases h)⟩
        · refine ⟨false, rfl, sB.trans sD, fun h => (by cases h), fun _ hh => ?_⟩
          rw [clE_iff.mpr hh.2] at h
          cases h
    rintro σ HA ⟨b, rfl, sA, hb1, hb2⟩
    refine ⟨fun σ HB => σ = [some (.ref S), some (.int c), some (.ref N), some (.ref W), some (.ref R), some (.ref L), some (.ref G), some (.ref D), some (.bl b), none, none] ∧ Same H9 HB, ?_, ?_⟩
    · refine ⟨_, rfl, b, rfl, ?_⟩
      cases b with
      | true =>
        obtain ⟨st, cl⟩ := hb1 rfl
        rw [← hgv] at cl
        obtain ⟨gnd, gin⟩ := told_all st cl
        rw [hgv] at gnd gin
        have lg6 := M11.nodup_len gv (endedM false rules) gnd fun z hz => (gin z).mp hz
        refine iteT ?_
        refine ⟨_, rfl, G, gv, rfl, SqL.of (sA _ _ eG9), by omega, fun G2 gs hG2 pg sg => ?_⟩
        have kB := same_laid hG2 (.lst (gs.map V.str))
        have eB : upd HA G2 (.lst (gs.map V.str)) G2 = some (.lst (gs.map V.str)) := upd_same
        generalize upd HA G2 (.lst (gs.map V.str)) = HB at kB eB
        have egz : gs = zs := sortedS_unique sg sz (pg.trans (((List.perm_ext_iff_of_nodup gnd (dedS_nd _)).mpr fun x => by rw [gin x, dedS_mem]).trans pz.symm))
        subst egz
        refine ⟨_, rfl, G2, D, _, rfl, rfl, SqL.of eB, SqL.of ((sA.trans kB) _ _ eD9), fun v hv => ?_, _, rfl, ?_⟩
        · obtain ⟨z, _, rfl⟩ := List.mem_map.mp hv
          exact .inl rfl
        refine iteF ?_
        refine ⟨_, rfl, true, rfl, ?_⟩
        refine iteF (iteF ?_)
        exact ⟨rfl, sA.trans kB⟩
      | false =>
        refine iteF (iteF ?_)
        refine ⟨_, rfl, false, rfl, ?_⟩
        refine iteT ?_
        refine ⟨_, rfl, _, _, rfl, rfl, ⟨by decide, by decide⟩, _, _, rfl, rfl, (by show (0 : Int) < 4; decide), (by show 2 ≤ sizeLine; decide), fun tt htt => ?_⟩
        have kB := same_laid htt (.tup [V.int 0, V.int 3])
        have eB : SqT K (upd HA tt (.tup [V.int 0, V.int 3])) tt [V.int 0, V.int 3] := SqT.of upd_same
        generalize upd HA tt (.tup [V.int 0, V.int 3]) = HB at kB eB
        refine ⟨tt, _, rfl, .inr eB, rfl, rfl, _, rfl, ?_⟩
        have hd : ¬ (c / 45 % 4 ≠ 1 ∧ c / 45 % 4 ≠ 2) := fun h => hb2 rfl (g6 h.1 h.2)
        have hin : inV (V.int (c / 45 % 4)) [V.int 0, V.int 3] = false := by
          obtain h | h : c / 45 % 4 = 1 ∨ c / 45 % 4 = 2 := by omega
          · rw [h]; rfl
          · rw [h]; rfl
        refine ite2 (fun cc => ?_) (fun cc => ?_)
        · rw [if_neg Bool.false_ne_true, hin] at cc
          cases cc
        · exact ⟨rfl, sA.trans kB⟩
    rintro σ HB ⟨rfl, sB⟩
    refine ⟨_, rfl, b, rfl, ?_⟩
    cases b with
    | false => exact iteT (q HB)
    | true =>
    refine iteF ?_
    obtain ⟨st, cl⟩ := hb1 rfl
    rw [← hgv] at cl
    obtain ⟨gnd, gin⟩ := told_all st cl
    rw [hgv] at gnd gin
    have s3B := s39.trans sB
    have eGB := sB _ _ eG9
    clear sA sB eD9 eL9 pk9 eG9 hb1 hb2 g6 pz sz hgv st cl
    refine ⟨_, rfl, _, rfl, _, rfl, _, _, rfl, rfl, ⟨by decide, by decide⟩, R, G, rs, rules, gv, nms ++ gWords c, c / 720, rfl, s3B.seq (SqL.of eR), hrl.same s3B, by omega, lr1, fun ru h => ⟨h8 ru h, htx ru h⟩, ltx, SqL.of eGB, by omega, fun L0 ts0 bs0 H4 fL0 s4 eL0 pk0 st0 cl0 l0 => ?_⟩
    refine ⟨fun σ H5 => ∃ (L2 : Addr) (ts : List Addr) (bs : List Tb), σ = [some (.ref S), some (.int c), some (.ref N), some (.ref W), some (.ref R), some (.ref L), some (.ref G), some (.ref D), some (.bl true), some (.ref L2), none] ∧ Same HB H5 ∧ H5 L2 = some (.lst (ts.map V.ref)) ∧ Paired (TbV K rules H5) ts bs ∧ bs.length ≤ 100 ∧ (c / 720 % 4 ≠ 1 → stB rules gv bs [] = true ∧ ClB rules gv (bs.map (tbP rules))), ?_, ?_⟩
    · refine ⟨_, rfl, _, _, rfl, rfl, ⟨by decide, by decide⟩, _, _, rfl, rfl, (by show (0 : Int) < 4; decide), rfl, _, rfl, ?_⟩
      rw [dI]
      refine ite2 (fun cc => ?_) (fun cc => ?_)
      · have cc := of_decide_eq_true cc
        refine ⟨_, rfl, 1, rfl, _, rfl, L0, _, rfl, SqL.of eL0, fun L hL => ?_⟩
        exact ⟨L, ts0.take (ts0.length - 1), bs0.take (ts0.length - 1), rfl, s4.trans (same_laid hL _), by rw [upd_same, cut_but, List.length_map, List.map_take], Paired.mapP (Paired.take2 _ pk0) fun _ _ z => z.same (same_laid hL _), by rw [List.length_take]; omega, fun h => absurd cc h⟩
      · exact ⟨L0, ts0, bs0, rfl, s4, eL0, pk0, l0, fun _ => ⟨st0, cl0⟩⟩
    rintro σ H5 ⟨L1, ts1, bs1, rfl, s5, eL1, pk1, l1, g1⟩
    clear pk0 st0 cl0 l0 eL0 s4 fL0
    refine ⟨fun σ H6 => ∃ (L2 : Addr) (ts : List Addr) (bs : List Tb), σ = [some (.ref S), some (.int c), some (.ref N), some (.ref W), some (.ref R), some (.ref L), some (.ref G), some (.ref D), some (.bl true), some (.ref L2), none] ∧ Same HB H6 ∧ H6 L2 = some (.lst (ts.map V.ref)) ∧ Paired (TbV K rules H6) ts bs ∧ bs.length ≤ 100 ∧ (c / 720 % 4 ≠ 1 → c / 720 % 4 ≠ 2 → stB rules gv bs [] = true ∧ ClB rules gv (bs.map (tbP rules))), ?_, ?_⟩
    · refine ⟨_, rfl, _, _, rfl, rfl, ⟨by decide, by decide⟩, _, _, rfl, rfl, (by show (0 : Int) < 4; decide), rfl, _, rfl, ?_⟩
      rw [dI]
      refine ite2 (fun cc => ?_) (fun cc => ?_)
      · have cc := of_decide_eq_true cc
        obtain ⟨m2, em2⟩ : ∃ m2 : Nat, c / 2880 % 9 = (m2 : Int) := ⟨(c / 2880 % 9).toNat, by omega⟩
        have s35 := s3B.trans s5
        refine ⟨_, rfl, _, rfl, _, _, rfl, rfl, ⟨by decide, by decide⟩, _, _, rfl, rfl, (by show (0 : Int) < 9; decide), _, rfl, _, rfl, ?_⟩
        refine ⟨S, R, W, ns, 10, m2, rs, rules, gWords c, (by show [V.ref S, V.int 10, V.int (c / 2880 % 9), V.ref R, V.ref W] = _; rw [em2]; rfl), s35.seq hS3, hl, by omega, s35.seq (SqL.of eR), hrl.same s35, by omega, by omega, s35.seq (SqL.of eW3), .inr ⟨gl, fun L ts bs H7 fL s7 eL pk l => ?_⟩⟩
        exact ⟨L, ts, bs, rfl, s5.trans s7, eL, pk, by omega, fun _ h => absurd cc h⟩
      · exact ⟨L1, ts1, bs1, rfl, s5, eL1, pk1, l1, fun h _ => g1 h⟩
    rintro σ H6 ⟨L2, ts2, bs, rfl, s6, eL2, pk2, l2, g2⟩
    clear pk1 g1 l1 eL1 s5
    have lt2 := Paired.length pk2
    refine ⟨_, rfl, L2, rfl, ⟨_, SqL.of eL2⟩, fun G2 hG2 => compG_list (xs := ts2.map V.ref) (fun m ys σ2 HC => (∃ vs : List Addr, ys = vs.map V.ref ∧ Paired (PrV K HC) vs ((bs.take m).map (tbP rules))) ∧ (∃ y0, σ2 = [y0]) ∧ Same H6 HC ∧ HC G2 = some (.lst ys)) ⟨⟨[], rfl, .nil⟩, ⟨none, rfl⟩, same_laid hG2 _, upd_same⟩ (fun m ys σ2 HC _ h => ?_) (fun m x ys σ2 HC ex h => ?_) (fun ys σ2 HC h => ?_)⟩
    · obtain ⟨_, _, sm, _⟩ := h
      exact sm.seq (SqL.of eL2)
    · obtain ⟨⟨vs, rfl, pv⟩, ⟨y0, rfl⟩, sm, eD⟩ := h
      rw [List.getElem?_map] at ex
      obtain ⟨t, et, rfl⟩ := Option.map_eq_some_iff.mp ex
      have lm := (List.getElem?_eq_some_iff.mp et).1
      obtain ⟨k, ek⟩ : ∃ k, bs[m]? = some k := ⟨_, List.getElem?_eq_getElem (by omega)⟩
      obtain ⟨t', et', ru, eru, vt⟩ := Paired.at_ pk2 m k ek
      rw [et] at et'
      cases et'
      have lvs := Paired.length pv
      rw [List.length_map, List.length_take] at lvs
      refine goN (goT ?_)
      refine ⟨_, rfl, _, rfl, t, _, rfl, sm.tup vt, fun u1 HD sD eu1 => ?_⟩
      have eu2 : PrV K HD u1 (tbP rules k) := by
        unfold tbP PrV
        rw [hk_of eru]
        exact eu1
      have eDD := sD _ _ eD
      refine ⟨eDD, fits' (by rw [List.length_map]; omega), ⟨vs ++ [u1], by rw [List.map_append]; rfl, ?_⟩, ⟨_, rfl⟩, fun b o hb => ?_, upd_same⟩
      · rw [List.take_add_one, ek, List.map_append]
        exact Paired.snoc (Paired.mapP pv fun a b z => sqt_upd eDD (sD.tup z)) (sqt_upd eDD eu2)
      · rw [upd_ne (fun z => by rw [z, hG2] at hb; cases hb)]
        exact sD _ _ (sm b o hb)
    obtain ⟨⟨vs, rfl, pv⟩, _, s7, eG2⟩ := h
    rw [List.length_map, lt2, List.take_length] at pv
    refine goN ?_
    have sBC := s6.trans s7
    have s3C := s3B.trans sBC
    have eLC := s7 _ _ eL2
    have pkC : Paired (TbV K rules HC) ts2 bs := Paired.mapP pk2 fun _ _ z => z.same s7
    have eGC := sBC _ _ eGB
    clear pk2 eL2 eGB s6 s7 sBC s3B
    refine ⟨fun σ HA => ∃ b : Bool, σ = [some (.ref S), some (.int c), some (.ref N), some (.ref W), some (.ref R), some (.ref L), some (.ref G), some (.ref D), some (.bl b), some (.ref L2), some (.ref G2)] ∧ Same HC HA ∧ (b = true → stB rules gv bs [] = true ∧ ClB rules gv (bs.map (tbP rules))) ∧ (b = false → ¬ (stB rules gv bs [] = true ∧ ClB rules gv (bs.map (tbP rules)))), ?_, ?_⟩
    · refine ⟨_, rfl, _, rfl, _, rfl, R, G, L2, rs, ts2, rules, gv, bs, rfl, s3C.seq (SqL.of eR), hrl.same s3C, by omega, h8, SqL.of eGC, by omega, SqL.of eLC, pkC, by omega, fun HE sE => ⟨_, rfl, ?_⟩⟩
      cases est : stB rules gv bs [] with
      | false => exact iteF ⟨false, rfl, sE, fun h => (by cases h), fun _ h => (by cases h.1)⟩
      | true =>
        refine iteT ?_
        refine ⟨_, rfl, _, rfl, _, rfl, R, G, G2, rs, vs, rules, gv, bs.map (tbP rules), rfl, (s3C.trans sE).seq (SqL.of eR), hrl.same (s3C.trans sE), by omega, h8, SqL.of (sE _ _ eGC), by omega, SqL.of (sE _ _ eG2), Paired.mapP pv fun _ _ z => z.same sE, by rw [List.length_map]; omega, fun HD sD => ⟨fun h => ?_, fun h k => ?_⟩⟩
        · exact ⟨true, rfl, sE.trans sD, fun _ => ⟨rfl, h⟩, fun h => (by cases h)⟩
        · exact ⟨false, rfl, sE.trans sD, fun h => (by cases h), fun _ hh => h hh.2⟩
    rintro σ HA ⟨b, rfl, sA, hb1, hb2⟩
    have s3A := s3C.trans sA
    refine ⟨_, rfl, b, rfl, ?_⟩
    cases b with
    | true =>
      obtain ⟨st, cl⟩ := hb1 rfl
      obtain ⟨bnd, bin⟩ := toldB_all st cl
      have few : ∀ prs : List (Str × Str), prs.Nodup → (∀ x ∈ prs, Beg rules gv x.2 x.1) → prs.length < 64 := fun prs h hb => by
        have h1 := pairs_few h hb htx
        have h2 : rules.length * (nms ++ gWords c).length ≤ 5 * 8 := Nat.mul_le_mul lr ltx
        omega
      have lvs := Paired.length pv
      have lfw := few _ bnd fun x hx => (bin x).mp hx
      refine iteT ?_
      refine ⟨_, rfl, G2, vs, bs.map (tbP rules), rfl, SqL.of (sA _ _ eG2), Paired.mapP pv fun _ _ z => sA.tup z, by omega, fun G3 t3 p3 hG3 r3 pm3 so3 => ?_⟩
      have kB := same_laid hG3 (.lst (t3.map V.ref))
      have eB : upd HA G3 (.lst (t3.map V.ref)) G3 = some (.lst (t3.map V.ref)) := upd_same
      generalize upd HA G3 (.lst (t3.map V.ref)) = HE at kB eB
      have s3E := s3A.trans kB
      refine ⟨_, rfl, R, rs, rules, nms ++ gWords c, rfl, s3E.seq (SqL.of eR), hrl.same s3E, sml, htx, ltx, fun B5 u5 p5 H7 fB5 s7 eB5 pr5 nd5 in5 l5 => ?_⟩
      have in6 : ∀ x, x ∈ p5 ↔ Beg rules gv x.2 x.1 := fun x => (in5 x).trans ⟨fun z => z.congr fun y hy => (gin y).mpr hy, fun z => z.congr fun y hy => (gin y).mp hy⟩
      have lu5 := Paired.length pr5
      have lp5 := few _ nd5 fun x hx => (in6 x).mp hx
      refine ⟨B5, u5, p5, rfl, SqL.of eB5, pr5, by omega, fun G6 t6 p6 hG6 r6 pm6 so6 => ?_⟩
      have k8 := same_laid hG6 (.lst (t6.map V.ref))
      have e8 : upd H7 G6 (.lst (t6.map V.ref)) G6 = some (.lst (t6.map V.ref)) := upd_same
      generalize upd H7 G6 (.lst (t6.map V.ref)) = H8 at k8 e8
      have e36 : p3 = p6 := srtP_unique so3 so6 (pm3.trans (((List.perm_ext_iff_of_nodup bnd nd5).mpr fun x => (bin x).trans (in6 x).symm).trans pm6.symm))
      subst e36
      refine ⟨G3, G6, _, _, rfl, rfl, SqL.of ((s7.trans k8) _ _ eB), SqL.of e8, prs_deq (Paired.mapP r3 fun _ _ z => ((kB.trans s7).trans k8).tup z) (Paired.mapP r6 fun _ _ z => k8.tup z), ?_⟩
      exact q H8
    | false =>
      refine iteF ?_
      refine ⟨_, rfl, _, _, rfl, rfl, ⟨by decide, by decide⟩, _, _, rfl, rfl, (by show (0 : Int) < 4; decide), (by show 2 ≤ sizeLine; decide), fun tt htt => ?_⟩
      refine ⟨tt, _, rfl, .inr (SqT.of upd_same), rfl, rfl, ?_⟩
      have hd : ¬ (c / 720 % 4 ≠ 1 ∧ c / 720 % 4 ≠ 2) := fun h => hb2 rfl (g2 h.1 h.2)
      have hin : inV (V.int (c / 720 % 4)) [V.int 1, V.int 2] = true := by
        obtain h | h : c / 720 % 4 = 1 ∨ c / 720 % 4 = 2 := by omega
        · rw [h]; rfl
        · rw [h]; rfl
      show Q (.bl (inV (V.int (c / 720 % 4)) [V.int 1, V.int 2])) _
      rw [hin]
      exact q _
end
end K11
namespace L2
open PySem
def HasD (K : PySem.W.Frag) (x : Str) (st : Stmt) : Prop := ∃ (g : Addr) (oc : Value) (od an : Option Addr) (sl : Array (Option Value)) (kV dc pm cd ct : Value), PySem.W.nsIn K mainGlobals x = some (some (.ref g)) ∧
  K.lookup g = some ⟨oc, od, .func (PySem.W.fnOf x x (defArgs st) (defBody st) (defScope st) .none kV dc pm an cd ct), sl⟩ ∧ PySem.W.codeIn K cd x = true ∧ PySem.W.keepIn K (.ref g) = true
theorem HasD.get {K : PySem.W.Frag} {h : Heap} {mg : Str → Option Value} {x : Str} {st : Stmt} (X : K.In h) (G : h.Ns mainGlobals mg) (H : HasD K x st) : ∃ g gd, Fun K x x st g gd ∧ mg x = some (.ref g) := by
  obtain ⟨g, oc, od, an, sl, kV, dc, pm, cd, ct, a, l, c, k⟩ := H
  exact ⟨g, _, fun_mk (st := st) l c k, PySem.W.mg_of X G a⟩
theorem HasD.c {K : PySem.W.Frag} {h : Heap} {mg : Str → Option Value} {x : Str} {st : Stmt} {P : Program} {w : World} {base : Heap} {k : Nat} {ps : List Str} {sp : Sp} (H : HasD K x st) (X : K.In h) (G : h.Ns mainGlobals mg)
    (b : ∀ (kV doc pm : Value) (an : Option Addr) (cdv ct : Value) (us : List Value), us.length = ps.length → bindArgs (PySem.W.fnOf x x (defArgs st) (defBody st) (defScope st) .none kV doc pm an cdv ct) ⟨us, []⟩ = pure (ps.zip us))
    (o : ∀ {f : Addr} {fd : FuncData}, Fun K x x st f fd → mg x = some (.ref f) → Binds K fd ps [] → FnOk P w K mg base CX0 k f fd ps sp) : CalleeD P w K mg base k x ps sp := by
  obtain ⟨f, fd, F, m⟩ := H.get X G
  have B := F.binds b
  exact ⟨f, fd, o F m B, B, F.kp, m⟩
theorem hD {K : PySem.W.Frag} {x : Str} {st : Stmt} (g c : Addr) (pm : Value) (h : (PySem.W.nsIn K mainGlobals x, K.lookup g, PySem.W.codeIn K (.ref c) x, PySem.W.keepIn K (.ref g)) = (some (some (.ref g)), some ⟨.type "function", none, .func (PySem.W.fnOf x x (defArgs st) (defBody st) (defScope st) .none .none .none pm none (.ref c) .none), #[]⟩, true, true)) : HasD K x st := by
  simp only [Prod.mk.injEq] at h
  exact ⟨g, _, _, _, _, _, _, _, _, _, h.1, h.2.1, h.2.2.1, h.2.2.2⟩
end L2
namespace K11
open PySem L2 M11
structure Top (K : PySem.W.Frag) : Prop where
  h0 : HasD K "heads_of" sHeads
  h1 : HasD K "_law_cell_at" sCell
  h2 : HasD K "_law_digits" sDigits
  h3 : HasD K "_law_names" sNames
  h4 : HasD K "_law_words" sWordsL
  h5 : HasD K "_law_more" sMore
  h6 : HasD K "_law_ended" sEnded
  h7 : HasD K "is_number_below" sBelow
  h8 : HasD K "is_rule_of" sRuleOf
  h9 : HasD K "empties_stand" sEStand
  h10 : HasD K "empties_lack" sELack
  h11 : HasD K "begins_stand" sBStand
  h12 : HasD K "words_told" sTold
  h13 : HasD K "begins_lack" sBLack
  h14 : HasD K "_law_empties" sLEmpties
  h15 : HasD K "_law_rows" sRows
  h16 : HasD K "_law_free" sFree
  h17 : HasD K "_law_begins" sBegins
  hlaw : HasD K "law" sLaw
  zlen : PySem.W.nsIn K mainGlobals "len" = some none
  zrange : PySem.W.nsIn K mainGlobals "range" = some none
  zisinstance : PySem.W.nsIn K mainGlobals "isinstance" = some none
  ztuple : PySem.W.nsIn K mainGlobals "tuple" = some none
  zlist : PySem.W.nsIn K mainGlobals "list" = some none
  zdict : PySem.W.nsIn K mainGlobals "dict" = some none
  zall : PySem.W.nsIn K mainGlobals "all" = some none
  zany : PySem.W.nsIn K mainGlobals "any" = some none
  zstr : PySem.W.nsIn K mainGlobals "str" = some none
  zint : PySem.W.nsIn K mainGlobals "int" = some none
  zbool : PySem.W.nsIn K mainGlobals "bool" = some none
  zenumerate : PySem.W.nsIn K mainGlobals "enumerate" = some none
  zsum : PySem.W.nsIn K mainGlobals "sum" = some none
  zmax : PySem.W.nsIn K mainGlobals "max" = some none
  zmin : PySem.W.nsIn K mainGlobals "min" = some none
  zset : PySem.W.nsIn K mainGlobals "set" = some none
  zsorted : PySem.W.nsIn K mainGlobals "sorted" = some none
theorem all_mk {l : PySem.W.OpenLaw} {w : World} {K : PySem.W.Frag} {h : Heap} {mg : Str → Option Value} {fa : Addr} (X : K.In h) (G : h.Ns mainGlobals mg) (hfa : mg "law" = some (.ref fa)) (tp : Top K) :
    ∃ fd : FuncData, (∀ (s : Shared) (v : Value), BindsTo s fd ⟨[v], []⟩ [("_law_script", v)]) ∧ ∀ base : Heap, K.In base → base.Ns mainGlobals mg → FnOk l.prog w K mg base CX0 5 fa fd ["_law_script"] (spLaw K) := by
  have T : Txt mg := ⟨PySem.W.mg_none_of X G tp.zlen, PySem.W.mg_none_of X G tp.zrange, PySem.W.mg_none_of X G tp.zisinstance, PySem.W.mg_none_of X G tp.ztuple, PySem.W.mg_none_of X G tp.zlist, PySem.W.mg_none_of X G tp.zdict, PySem.W.mg_none_of X G tp.zall, PySem.W.mg_none_of X G tp.zany, PySem.W.mg_none_of X G tp.zstr, PySem.W.mg_none_of X G tp.zint, PySem.W.mg_none_of X G tp.zbool, PySem.W.mg_none_of X G tp.zenumerate, PySem.W.mg_none_of X G tp.zsum, PySem.W.mg_none_of X G tp.zmax, PySem.W.mg_none_of X G tp.zmin⟩
  obtain ⟨f9, d9, F9, m9⟩ := tp.hlaw.get X G
  have e := hfa.symm.trans m9
  cases e
  obtain ⟨oc, od, kV, doc, pm, an, cdv, ct, osl, eL, lk, hcd⟩ := F9.ex
  refine ⟨d9, fun s v => ?_, fun base _ _ => ?_⟩
  · rw [eL]; exact .of_eq rfl
  have c0 := tp.h0.c (P := l.prog) (w := w) (base := base) X G (fun _ _ _ _ _ _ us hl => match us, hl with | [_], _ => rfl) fun F m B => ok_heads F T
  have c1 := tp.h1.c (P := l.prog) (w := w) (base := base) X G (fun _ _ _ _ _ _ us hl => match us, hl with | [_, _], _ => rfl) fun F m B => ok_cell F T
  have c2 := tp.h2.c (P := l.prog) (w := w) (base := base) X G (fun _ _ _ _ _ _ us hl => match us, hl with | [_, _, _], _ => rfl) fun F m B => ok_digits F T
  have c3 := tp.h3.c (P := l.prog) (w := w) (base := base) X G (fun _ _ _ _ _ _ us hl => match us, hl with | [_], _ => rfl) fun F m B => ok_names F T
  have c4 := tp.h4.c (P := l.prog) (w := w) (base := base) X G (fun _ _ _ _ _ _ us hl => match us, hl with | [_], _ => rfl) fun F m B => ok_wordsL F T
  have c5 := tp.h5.c (P := l.prog) (w := w) (base := base) X G (fun _ _ _ _ _ _ us hl => match us, hl with | [_, _, _, _, _], _ => rfl) fun F m B => ok_more F T (c1.mono (by decide)) (c2.mono (by decide))
  have c6 := tp.h6.c (P := l.prog) (w := w) (base := base) X G (fun _ _ _ _ _ _ us hl => match us, hl with | [_, _], _ => rfl) fun F m B => ok_ended F T
  have c7 := tp.h7.c (P := l.prog) (w := w) (base := base) X G (fun _ _ _ _ _ _ us hl => match us, hl with | [_, _], _ => rfl) fun F m B => ok_below F T
  have c8 := tp.h8.c (P := l.prog) (w := w) (base := base) X G (fun _ _ _ _ _ _ us hl => match us, hl with | [_, _, _], _ => rfl) fun F m B => ok_ruleOf F T (c7.mono (by decide))
  have c9 := tp.h9.c (P := l.prog) (w := w) (base := base) X G (fun _ _ _ _ _ _ us hl => match us, hl with | [_, _], _ => rfl) fun F m B => ok_eStand F T (c8.mono (by decide))
  have c10 := tp.h10.c (P := l.prog) (w := w) (base := base) X G (fun _ _ _ _ _ _ us hl => match us, hl with | [_, _], _ => rfl) fun F m B => ok_eLack F T
  have c11 := tp.h11.c (P := l.prog) (w := w) (base := base) X G (fun _ _ _ _ _ _ us hl => match us, hl with | [_, _, _], _ => rfl) fun F m B => ok_bStand F T (c0.mono (by decide)) (c8.mono (by decide)) (c7.mono (by decide))
  have c12 := tp.h12.c (P := l.prog) (w := w) (base := base) X G (fun _ _ _ _ _ _ us hl => match us, hl with | [_, _], _ => rfl) fun F m B => ok_told F T (c0.mono (by decide))
  have c13 := tp.h13.c (P := l.prog) (w := w) (base := base) X G (fun _ _ _ _ _ _ us hl => match us, hl with | [_, _, _], _ => rfl) fun F m B => ok_bLack F T (c12.mono (by decide))
  have c14 := tp.h14.c (P := l.prog) (w := w) (base := base) X G (fun _ _ _ _ _ _ us hl => match us, hl with | [_, _], _ => rfl) fun F m B => ok_lEmpties F T
  have c15 := tp.h15.c (P := l.prog) (w := w) (base := base) X G (fun _ _ _ _ _ _ us hl => match us, hl with | [_, _, _], _ => rfl) fun F m B => ok_rows F T
  have c16 := tp.h16.c (P := l.prog) (w := w) (base := base) X G (fun _ _ _ _ _ _ us hl => match us, hl with | [_, _, _, _, _], _ => rfl) fun F m B => ok_free F T (c1.mono (by decide))
  have c17 := tp.h17.c (P := l.prog) (w := w) (base := base) X G (fun _ _ _ _ _ _ us hl => match us, hl with | [_], _ => rfl) fun F m B => ok_begins F T (c6.mono (by decide))
  exact ok_law F9 T (PySem.W.mg_none_of X G tp.zsorted) (PySem.W.mg_none_of X G tp.zset) (c1.mono (by decide)) (c3.mono (by decide)) (c4.mono (by decide)) (c5.mono (by decide)) (c14.mono (by decide)) (c16.mono (by decide)) (c6.mono (by decide)) (c9.mono (by decide)) (c10.mono (by decide)) (c15.mono (by decide)) (c11.mono (by decide)) (c13.mono (by decide)) (c17.mono (by decide))
theorem walk {l : PySem.W.OpenLaw} {q : Program} {loose : List Str} {XP : (Str → Option Value) → Heap → Prop} {YP : World → Heap → Prop} {d : DefRec} {K : Params → PySem.W.Frag} (hn : l.most = some 63) (hdf : d.params.defaults = [])
    (hY : ∀ (w : World) (h : Heap), YP w h → (K w.params).In h)
    (F : ∀ (w : World) (mg : Str → Option Value) (fa : Addr) (h : Heap), (K w.params).In h → h.Ns mainGlobals mg → mg d.name = some (.ref fa) →
      ∃ fd : FuncData, (∀ (s : Shared) (u : Value), BindsTo s fd ⟨[u], []⟩ [("_law_script", u)]) ∧ ∀ base : Heap, (K w.params).In base → base.Ns mainGlobals mg → FnOk l.prog w (K w.params) mg base CX0 5 fa fd ["_law_script"] (spLaw (K w.params))) :
    PySem.W.WalkO q loose XP YP l.row.toRowW d [] (fun f vs => PySem.call f vs) :=
  L2.walk_of (n := 63) (k := 5) (x := "_law_script") (CX := fun _ => CX0) (sp := fun w => spLaw (K w.params)) hn (by decide) hdf ⟨rfl, by decide, by decide⟩ hY F (fun _ _ a ns hl _ hS => ⟨a, ns, rfl, hS, (Nat.le_trans hl (by decide)), fun _ => rfl⟩) fun _ _ _ _ _ z => z
end K11
namespace HD
open PySem PySem.W
def runT (st : SharedT → Thread → Option (SharedT × Thread)) (ok : Thread → Bool) : Nat → SharedT → Thread → Option SharedT
  | 0, _, _ => none
  | n + 1, s, t => match through t with
    | true => some s
    | false => match ok t with
      | false => none
      | true => match st s t with
        | some (s', t') => runT st ok n s' t'
        | none => none
theorem runT_of {tb : String → Option Builtin} {p : Program} {w : World} {n₀ : Nat} {ann : Option Value} : ∀ {n : Nat} {s s' : SharedT} {t : Thread}, runT (stepT (denote tb) p w) (stepOk n₀ ann) n s t = some s' → topRun tb p w n₀ ann n s.abs t = some s'.abs
  | 0, _, _, _, h => by cases h
  | n + 1, s, s', t, h => by
    unfold runT at h
    unfold topRun
    cases he : through t with
    | true => rw [he] at h; cases h; rfl
    | false =>
      rw [he] at h
      cases hk : stepOk n₀ ann t with
      | false => rw [hk] at h; cases h
      | true =>
        rw [hk] at h
        cases hs : stepT (denote tb) p w s t with
        | none => rw [hs] at h; cases h
        | some r => obtain ⟨s₂, t₂⟩ := r; rw [hs] at h; rw [stepT_spec hs]; exact runT_of h
def ofL : List Obj → Nat → BT → BT
  | [], _, t => t
  | o :: r, i, t => ofL r (i + 1) (t.ins i o)
noncomputable def bootT (P : Params) : BT := ofL (boot_heap P).objs.toList 0 .nil
theorem bootT_abs (P : Params) : absHeap (bootT P) 11 {} = boot_heap P := by kernel_rfl
def forceL {α β : Type} : List α → (List α → β) → β
  | [], k => k []
  | x :: r, k => forceL r fun ys => k (x :: ys)
def forceO {β : Type} : Obj → (Obj → β) → β
  | ⟨c, d, t, s⟩, k => k ⟨c, d, t, s⟩
def forceLO {β : Type} : List Obj → (List Obj → β) → β
  | [], k => k []
  | x :: r, k => forceO x fun y => forceLO r fun ys => k (y :: ys)
theorem forceLO_eq {β : Type} : ∀ (l : List Obj) (k : List Obj → β), forceLO l k = k l
  | [], _ => rfl
  | ⟨c, d, t, s⟩ :: r, k => by
    show forceLO r (fun ys => k (⟨c, d, t, s⟩ :: ys)) = _
    rw [forceLO_eq r]
def looks (p q : Program) (loose : List Str) (Xt : Shared → Bool) {α : Type} (Yf : Shared → α) (g0 : Bool) (h₀ : Heap) (s : Shared) :=
  ((staticsOk (importedModules p.main.body) h₀ s.heap && namesBound p s.heap && gensDone s && laidKept h₀ s.heap), openSeen q loose (importedModules p.main.body) Xt g0 s, Yf s)
def seenT {β : Type} (f : Shared → β) (s : SharedT) : β := forceLO (s.tree.list s.n) fun l => f ⟨⟨l.toArray, s.life⟩, s.gens, s.drawn, s.toks, s.os⟩
theorem seenT_eq {β : Type} (f : Shared → β) (s : SharedT) : seenT f s = f s.abs := forceLO_eq _ _
theorem leftT {p q : Program} {loose : List Str} {Xt : Shared → Bool} {α : Type} {Yf : Shared → α} {Ya : World → α} {N : Nat} {g0 : Bool} {ann : Option Value} {M : Nat}
    (open_ : ∀ w : World, (fencedOpening treeTable p w N).map (fun s => (s.heap, s.gens, s.drawn, s.toks)) = some (boot_heap w.params, Array.mk [], boot_drawn, boot_toks))
    (size : ∀ w : World, ((boot_heap w.params).isNs mainGlobals && (Array.mk [] : Array GenState).size == 0, (boot_heap w.params).objs.size, (boot_heap w.params).nsMap mainGlobals "__annotations__") = (true, 11, ann))
    (run : ∀ (w : World) (os : OsState), (runT (stepT (denote treeTable) p w) (stepOk 11 ann) M ⟨bootT w.params, 11, {}, Array.mk [], boot_drawn, boot_toks, os⟩ (topStub p)).map (seenT (looks p q loose Xt Yf g0 (boot_heap w.params))) = some (true, openGood q loose, Ya w))
    (le : Nat.ble M N = true) : LeftO p q loose Xt Yf Ya N g0 := fun w => by
  obtain ⟨⟨h, gs, d, k, os⟩, e, e'⟩ := Option.map_eq_some_iff.mp (open_ w)
  obtain ⟨rfl, rfl, rfl, rfl⟩ : h = boot_heap w.params ∧ gs = Array.mk [] ∧ d = boot_drawn ∧ k = boot_toks := by simpa using e'
  obtain ⟨z1, z2, z3⟩ : _ ∧ _ ∧ _ := by simpa only [Prod.mk.injEq] using size w
  obtain ⟨s', r0, l0⟩ := Option.map_eq_some_iff.mp (run w os)
  rw [seenT_eq] at l0
  obtain ⟨l1, l2, l3⟩ : _ ∧ _ ∧ _ := by simpa only [looks, Prod.mk.injEq] using l0
  have r := runT_of r0
  have ea : SharedT.abs ⟨bootT w.params, 11, {}, Array.mk [], boot_drawn, boot_toks, os⟩ = ⟨boot_heap w.params, Array.mk [], boot_drawn, boot_toks, os⟩ := by
    unfold SharedT.abs
    rw [bootT_abs]
  rw [ea] at r
  have r := topRun_mono (N - M) _ _ _ _ r
  rw [show M + (N - M) = N by have := Nat.le_of_ble_eq_true le; omega] at r
  have t : topFrom treeTable p w N ⟨boot_heap w.params, Array.mk [], boot_drawn, boot_toks, os⟩ = some s'.abs := by
    unfold topFrom
    dsimp only
    rw [z1, z2, z3, r]
    show (match staticsOk (importedModules p.main.body) (boot_heap w.params) s'.abs.heap && namesBound p s'.abs.heap && gensDone s'.abs && laidKept (boot_heap w.params) s'.abs.heap with | true => _ | false => _) = _
    rw [l1]
  unfold openEnds
  rw [e]
  show (topFrom treeTable p w N _).map _ = _
  rw [t]
  exact congrArg some (Prod.ext l2 l3)
end HD
set_option maxHeartbeats 0
namespace HD
open PySem PySem.W L2
def dE (P : Params) (x : Str) (t : Tok) (v : Value) : DictEntry := ⟨PyData.keyHash P x, .str x t, v⟩
def top (p : Program) (i : Nat) : Stmt := p.main.body.getD i (.Pass ⟨0, 0, 0, 0⟩)
def posOf (s : Stmt) : Pos := match s with
  | .FunctionDef _ _ _ _ _ _ _ _ _ p => p
  | _ => ⟨0, 0, 0, 0⟩
noncomputable def K' (p : Program) (P : Params) : Frag := [
  (2, ⟨.none, none, .dict #[] 0, #[]⟩),
  (3, ⟨.type "dict", none, .dict #[dE P "__name__" 165 (.str "law_wright_k24_whole_begins_let_by" 244), dE P "__doc__" 166 (.none), dE P "__package__" 167 (.none), dE P "__loader__" 168 (.builtin "__main__.__loader__#opaque"), dE P "__spec__" 169 (.none), dE P "__annotations__" 170 (.ref 6), dE P "__builtins__" 171 (.ref 4), dE P "__file__" 173 (.str "/claim/cut.py" 172), dE P "__cached__" 174 (.none), dE P "heads_of" 194 (.ref 19), dE P "is_rule_of" 203 (.ref 26), dE P "is_number_below" 211 (.ref 33), dE P "empties_stand" 219 (.ref 38), dE P "empties_lack" 225 (.ref 43), dE P "begins_stand" 231 (.ref 48), dE P "begins_lack" 237 (.ref 53), dE P "words_told" 243 (.ref 58), dE P "_law_cell_at" 253 (.ref 65), dE P "_law_names" 259 (.ref 70), dE P "_law_words" 266 (.ref 77), dE P "_law_digits" 278 (.ref 84), dE P "_law_skeleton" 292 (.ref 91), dE P "_law_more" 308 (.ref 98), dE P "_law_ended" 314 (.ref 103), dE P "_law_not_vast" 320 (.ref 108), dE P "_law_good" 326 (.ref 113), dE P "_law_grammar" 340 (.ref 120), dE P "_law_begins" 346 (.ref 125), dE P "_law_empties" 352 (.ref 130), dE P "_law_rows" 358 (.ref 135), dE P "_law_free" 373 (.ref 142), dE P "law" 379 (.ref 147)] 32, #[]⟩),
  (18, ⟨.type "code", none, .fields #[.str "heads_of" 189, .str "heads_of" 190, .str "/claim/cut.py" 191, .int (2) 0, .int (1) 0, .int (0) 0, .int (0) 0, .int (3) 0, .ref 15, .bool true, .int (181) 0, .ref 16, .none, .none, .none, .ref 17, .int (192) 0, .int (2) 0, .str "/claim/cut.py" 193], #[]⟩),
  (19, ⟨.type "function", none, .func (fnOf "heads_of" "heads_of" (defArgs (top p 1)) (defBody (top p 1)) (defScope (top p 1)) (.none) (.none) (.none) (.str "wright.rules" 187) (none) (.ref 18) (.none)), #[]⟩),
  (25, ⟨.type "code", none, .fields #[.str "is_rule_of" 195, .str "is_rule_of" 196, .str "/claim/cut.py" 197, .int (4) 0, .int (3) 0, .int (0) 0, .int (0) 0, .int (3) 0, .ref 20, .bool true, .int (181) 0, .ref 21, .none, .ref 22, .ref 23, .ref 24, .int (201) 0, .int (4) 0, .str "/claim/cut.py" 202], #[]⟩),
  (26, ⟨.type "function", none, .func (fnOf "is_rule_of" "is_rule_of" (defArgs (top p 2)) (defBody (top p 2)) (defScope (top p 2)) (.none) (.none) (.none) (.str "wright.rules" 187) (none) (.ref 25) (.none)), #[]⟩),
  (32, ⟨.type "code", none, .fields #[.str "is_number_below" 204, .str "is_number_below" 205, .str "/claim/cut.py" 206, .int (6) 0, .int (2) 0, .int (0) 0, .int (0) 0, .int (3) 0, .ref 27, .bool true, .int (181) 0, .ref 28, .none, .ref 29, .ref 30, .ref 31, .int (209) 0, .int (6) 0, .str "/claim/cut.py" 210], #[]⟩),
  (33, ⟨.type "function", none, .func (fnOf "is_number_below" "is_number_below" (defArgs (top p 3)) (defBody (top p 3)) (defScope (top p 3)) (.none) (.none) (.none) (.str "wright.rules" 187) (none) (.ref 32) (.none)), #[]⟩),
  (37, ⟨.type "code", none, .fields #[.str "empties_stand" 214, .str "empties_stand" 215, .str "/claim/cut.py" 216, .int (9) 0, .int (2) 0, .int (0) 0, .int (0) 0, .int (3) 0, .ref 34, .bool true, .int (181) 0, .ref 35, .none, .none, .none, .ref 36, .int (217) 0, .int (9) 0, .str "/claim/cut.py" 218], #[]⟩),
  (38, ⟨.type "function", none, .func (fnOf "empties_stand" "empties_stand" (defArgs (top p 5)) (defBody (top p 5)) (defScope (top p 5)) (.none) (.none) (.none) (.str "wright.begin_checks" 212) (none) (.ref 37) (.none)), #[]⟩),
  (42, ⟨.type "code", none, .fields #[.str "empties_lack" 220, .str "empties_lack" 221, .str "/claim/cut.py" 222, .int (18) 0, .int (2) 0, .int (0) 0, .int (0) 0, .int (3) 0, .ref 39, .bool true, .int (181) 0, .ref 40, .none, .none, .none, .ref 41, .int (223) 0, .int (18) 0, .str "/claim/cut.py" 224], #[]⟩),
  (43, ⟨.type "function", none, .func (fnOf "empties_lack" "empties_lack" (defArgs (top p 6)) (defBody (top p 6)) (defScope (top p 6)) (.none) (.none) (.none) (.str "wright.begin_checks" 212) (none) (.ref 42) (.none)), #[]⟩),
  (47, ⟨.type "code", none, .fields #[.str "begins_stand" 226, .str "begins_stand" 227, .str "/claim/cut.py" 228, .int (24) 0, .int (3) 0, .int (0) 0, .int (0) 0, .int (3) 0, .ref 44, .bool true, .int (181) 0, .ref 45, .none, .none, .none, .ref 46, .int (229) 0, .int (24) 0, .str "/claim/cut.py" 230], #[]⟩),
  (48, ⟨.type "function", none, .func (fnOf "begins_stand" "begins_stand" (defArgs (top p 7)) (defBody (top p 7)) (defScope (top p 7)) (.none) (.none) (.none) (.str "wright.begin_checks" 212) (none) (.ref 47) (.none)), #[]⟩),
  (52, ⟨.type "code", none, .fields #[.str "begins_lack" 232, .str "begins_lack" 233, .str "/claim/cut.py" 234, .int (39) 0, .int (3) 0, .int (0) 0, .int (0) 0, .int (3) 0, .ref 49, .bool true, .int (181) 0, .ref 50, .none, .none, .none, .ref 51, .int (235) 0, .int (39) 0, .str "/claim/cut.py" 236], #[]⟩),
  (53, ⟨.type "function", none, .func (fnOf "begins_lack" "begins_lack" (defArgs (top p 8)) (defBody (top p 8)) (defScope (top p 8)) (.none) (.none) (.none) (.str "wright.begin_checks" 212) (none) (.ref 52) (.none)), #[]⟩),
  (57, ⟨.type "code", none, .fields #[.str "words_told" 238, .str "words_told" 239, .str "/claim/cut.py" 240, .int (51) 0, .int (2) 0, .int (0) 0, .int (0) 0, .int (3) 0, .ref 54, .bool true, .int (181) 0, .ref 55, .none, .none, .none, .ref 56, .int (241) 0, .int (51) 0, .str "/claim/cut.py" 242], #[]⟩),
  (58, ⟨.type "function", none, .func (fnOf "words_told" "words_told" (defArgs (top p 9)) (defBody (top p 9)) (defScope (top p 9)) (.none) (.none) (.none) (.str "wright.begin_checks" 212) (none) (.ref 57) (.none)), #[]⟩),
  (64, ⟨.type "code", none, .fields #[.str "_law_cell_at" 246, .str "_law_cell_at" 247, .str "/claim/cut.py" 248, .int (58) 0, .int (2) 0, .int (0) 0, .int (0) 0, .int (3) 0, .ref 59, .bool true, .int (181) 0, .ref 60, .none, .ref 61, .ref 62, .ref 63, .int (251) 0, .int (58) 0, .str "/claim/cut.py" 252], #[]⟩),
  (65, ⟨.type "function", none, .func (fnOf "_law_cell_at" "_law_cell_at" (defArgs (top p 11)) (defBody (top p 11)) (defScope (top p 11)) (.none) (.none) (.none) (.str "law_wright_k24_whole_begins_let_by" 244) (none) (.ref 64) (.none)), #[]⟩),
  (69, ⟨.type "code", none, .fields #[.str "_law_names" 254, .str "_law_names" 255, .str "/claim/cut.py" 256, .int (62) 0, .int (1) 0, .int (0) 0, .int (0) 0, .int (3) 0, .ref 66, .bool true, .int (181) 0, .ref 67, .none, .none, .none, .ref 68, .int (257) 0, .int (62) 0, .str "/claim/cut.py" 258], #[]⟩),
  (70, ⟨.type "function", none, .func (fnOf "_law_names" "_law_names" (defArgs (top p 12)) (defBody (top p 12)) (defScope (top p 12)) (.none) (.none) (.none) (.str "law_wright_k24_whole_begins_let_by" 244) (none) (.ref 69) (.none)), #[]⟩),
  (76, ⟨.type "code", none, .fields #[.str "_law_words" 260, .str "_law_words" 261, .str "/claim/cut.py" 262, .int (68) 0, .int (1) 0, .int (0) 0, .int (0) 0, .int (3) 0, .ref 71, .bool true, .int (181) 0, .ref 72, .none, .ref 73, .ref 74, .ref 75, .int (264) 0, .int (68) 0, .str "/claim/cut.py" 265], #[]⟩),
  (77, ⟨.type "function", none, .func (fnOf "_law_words" "_law_words" (defArgs (top p 13)) (defBody (top p 13)) (defScope (top p 13)) (.none) (.none) (.none) (.str "law_wright_k24_whole_begins_let_by" 244) (none) (.ref 76) (.none)), #[]⟩),
  (83, ⟨.type "code", none, .fields #[.str "_law_digits" 267, .str "_law_digits" 268, .str "/claim/cut.py" 269, .int (70) 0, .int (3) 0, .int (0) 0, .int (0) 0, .int (3) 0, .ref 78, .bool true, .int (181) 0, .ref 79, .none, .ref 80, .ref 81, .ref 82, .int (276) 0, .int (70) 0, .str "/claim/cut.py" 277], #[]⟩),
  (84, ⟨.type "function", none, .func (fnOf "_law_digits" "_law_digits" (defArgs (top p 14)) (defBody (top p 14)) (defScope (top p 14)) (.none) (.none) (.none) (.str "law_wright_k24_whole_begins_let_by" 244) (none) (.ref 83) (.none)), #[]⟩),
  (97, ⟨.type "code", none, .fields #[.str "_law_more" 293, .str "_law_more" 294, .str "/claim/cut.py" 295, .int (92) 0, .int (5) 0, .int (0) 0, .int (0) 0, .int (3) 0, .ref 92, .bool true, .int (181) 0, .ref 93, .none, .ref 94, .ref 95, .ref 96, .int (306) 0, .int (92) 0, .str "/claim/cut.py" 307], #[]⟩),
  (98, ⟨.type "function", none, .func (fnOf "_law_more" "_law_more" (defArgs (top p 16)) (defBody (top p 16)) (defScope (top p 16)) (.none) (.none) (.none) (.str "law_wright_k24_whole_begins_let_by" 244) (none) (.ref 97) (.none)), #[]⟩),
  (102, ⟨.type "code", none, .fields #[.str "_law_ended" 309, .str "_law_ended" 310, .str "/claim/cut.py" 311, .int (102) 0, .int (2) 0, .int (0) 0, .int (0) 0, .int (3) 0, .ref 99, .bool true, .int (181) 0, .ref 100, .none, .none, .none, .ref 101, .int (312) 0, .int (102) 0, .str "/claim/cut.py" 313], #[]⟩),
  (103, ⟨.type "function", none, .func (fnOf "_law_ended" "_law_ended" (defArgs (top p 17)) (defBody (top p 17)) (defScope (top p 17)) (.none) (.none) (.none) (.str "law_wright_k24_whole_begins_let_by" 244) (none) (.ref 102) (.none)), #[]⟩),
  (124, ⟨.type "code", none, .fields #[.str "_law_begins" 341, .str "_law_begins" 342, .str "/claim/cut.py" 343, .int (159) 0, .int (1) 0, .int (0) 0, .int (0) 0, .int (3) 0, .ref 121, .bool true, .int (181) 0, .ref 122, .none, .none, .none, .ref 123, .int (344) 0, .int (159) 0, .str "/claim/cut.py" 345], #[]⟩),
  (125, ⟨.type "function", none, .func (fnOf "_law_begins" "_law_begins" (defArgs (top p 21)) (defBody (top p 21)) (defScope (top p 21)) (.none) (.none) (.none) (.str "law_wright_k24_whole_begins_let_by" 244) (none) (.ref 124) (.none)), #[]⟩),
  (129, ⟨.type "code", none, .fields #[.str "_law_empties" 347, .str "_law_empties" 348, .str "/claim/cut.py" 349, .int (174) 0, .int (2) 0, .int (0) 0, .int (0) 0, .int (3) 0, .ref 126, .bool true, .int (181) 0, .ref 127, .none, .none, .none, .ref 128, .int (350) 0, .int (174) 0, .str "/claim/cut.py" 351], #[]⟩),
  (130, ⟨.type "function", none, .func (fnOf "_law_empties" "_law_empties" (defArgs (top p 22)) (defBody (top p 22)) (defScope (top p 22)) (.none) (.none) (.none) (.str "law_wright_k24_whole_begins_let_by" 244) (none) (.ref 129) (.none)), #[]⟩),
  (134, ⟨.type "code", none, .fields #[.str "_law_rows" 353, .str "_law_rows" 354, .str "/claim/cut.py" 355, .int (185) 0, .int (3) 0, .int (0) 0, .int (0) 0, .int (3) 0, .ref 131, .bool true, .int (181) 0, .ref 132, .none, .none, .none, .ref 133, .int (356) 0, .int (185) 0, .str "/claim/cut.py" 357], #[]⟩),
  (135, ⟨.type "function", none, .func (fnOf "_law_rows" "_law_rows" (defArgs (top p 23)) (defBody (top p 23)) (defScope (top p 23)) (.none) (.none) (.none) (.str "law_wright_k24_whole_begins_let_by" 244) (none) (.ref 134) (.none)), #[]⟩),
  (141, ⟨.type "code", none, .fields #[.str "_law_free" 359, .str "_law_free" 360, .str "/claim/cut.py" 361, .int (203) 0, .int (5) 0, .int (0) 0, .int (0) 0, .int (3) 0, .ref 136, .bool true, .int (181) 0, .ref 137, .none, .ref 138, .ref 139, .ref 140, .int (371) 0, .int (203) 0, .str "/claim/cut.py" 372], #[]⟩),
  (142, ⟨.type "function", none, .func (fnOf "_law_free" "_law_free" (defArgs (top p 24)) (defBody (top p 24)) (defScope (top p 24)) (.none) (.none) (.none) (.str "law_wright_k24_whole_begins_let_by" 244) (none) (.ref 141) (.none)), #[]⟩),
  (146, ⟨.type "code", none, .fields #[.str "law" 374, .str "law" 375, .str "/claim/cut.py" 376, .int (213) 0, .int (1) 0, .int (0) 0, .int (0) 0, .int (3) 0, .ref 143, .bool true, .int (181) 0, .ref 144, .none, .none, .none, .ref 145, .int (377) 0, .int (213) 0, .str "/claim/cut.py" 378], #[]⟩),
  (147, ⟨.type "function", none, .func (fnOf "law" "law" (defArgs (top p 25)) (defBody (top p 25)) (defScope (top p 25)) (.none) (.none) (.none) (.str "law_wright_k24_whole_begins_let_by" 244) (none) (.ref 146) (.none)), #[]⟩)]
def as : List Addr := [2, 3, 18, 19, 25, 26, 32, 33, 37, 38, 42, 43, 47, 48, 52, 53, 57, 58, 64, 65, 69, 70, 76, 77, 83, 84, 97, 98, 102, 103, 124, 125, 129, 130, 134, 135, 141, 142, 146, 147]
def q' (p : Program) : Program := view p [1, 2, 3, 5, 6, 7, 8, 9, 11, 12, 13, 14, 15, 16, 17, 18, 19, 20, 21, 22, 23, 24, 25]
abbrev loose : List Str := []
abbrev steps : Nat := 715
abbrev bound : Nat := 2410
abbrev law : OpenLaw := PySem.Challenge.rw_wright_k24_whole_begins_let_by
noncomputable abbrev K (P : Params) : Frag := K' PySem.Challenge.pw_wright_k24_whole_begins_let_by P
theorem as_eq (P : Params) : as = (K P).map (·.1) := by kernel_rfl
noncomputable abbrev hook : Hook := kHook K as as_eq
theorem pre (h : law.row.wellSaid = true → law.row.Holds) : law.Holds := by
  o_law
  exact h (by assumption)
abbrev Xt : Shared → Bool := fun s => xlAt (q' PySem.Challenge.pw_wright_k24_whole_begins_let_by) [] s && recOk (RowW.records (OpenRow.toRowW (OpenLaw.row PySem.Challenge.rw_wright_k24_whole_begins_let_by))) s
theorem run (w : World) (os : OsState) : (runT (stepT (denote treeTable) PySem.Challenge.pw_wright_k24_whole_begins_let_by w) (stepOk 11 (some (.ref 6))) steps ⟨bootT w.params, 11, {}, Array.mk [], boot_drawn, boot_toks, os⟩ (topStub PySem.Challenge.pw_wright_k24_whole_begins_let_by)).map
    (seenT (looks PySem.Challenge.pw_wright_k24_whole_begins_let_by (q' PySem.Challenge.pw_wright_k24_whole_begins_let_by) loose Xt (Hook.obs hook) true (boot_heap w.params))) = some (true, openGood (q' PySem.Challenge.pw_wright_k24_whole_begins_let_by) loose, Hook.val hook w) := by
  rw [PySem.W.Fast.te10156331382660048174, PySem.W.Fast.te11892475500146522536, PySem.W.Fast.te14364793385576792824, PySem.W.Fast.te6613529449190102663, PySem.W.Fast.te18419180415105081178]
  kernel_rfl
theorem size (w : World) : ((boot_heap w.params).isNs mainGlobals && (Array.mk [] : Array GenState).size == 0, (boot_heap w.params).objs.size, (boot_heap w.params).nsMap mainGlobals "__annotations__") = (true, 11, some (.ref 6)) := by kernel_rfl
theorem open_ : ∀ w : World, (fencedOpening treeTable PySem.Challenge.pw_wright_k24_whole_begins_let_by w bound).map (fun s => (s.heap, s.gens, s.drawn, s.toks)) = some (boot_heap w.params, Array.mk [], boot_drawn, boot_toks) :=
  boot_open (by kernel_rfl) (by decide +kernel) (fun s => by kernel_rfl)
theorem left : LeftO (OpenRow.toRowW law.row).prog (q' PySem.Challenge.pw_wright_k24_whole_begins_let_by) loose Xt (Hook.obs hook) (Hook.val hook) bound := leftT open_ size run (by decide +kernel)
def lawRec : DefRec := { name := "law", params := defArgs (top PySem.Challenge.pw_wright_k24_whole_begins_let_by 25), body := defBody (top PySem.Challenge.pw_wright_k24_whole_begins_let_by 25), scope := defScope (top PySem.Challenge.pw_wright_k24_whole_begins_let_by 25), pos := posOf (top PySem.Challenge.pw_wright_k24_whole_begins_let_by 25) }
theorem ok1 : defOf (q' PySem.Challenge.pw_wright_k24_whole_begins_let_by) law.row.name = some (lawRec, []) := by kernel_rfl
theorem ok2 : law.row.prog.theDef law.row.name = some (lawRec.params, lawRec.body, lawRec.scope) := by kernel_rfl
theorem ok3 : kwWritten? lawRec.params.kwonlyargs lawRec.params.kw_defaults = some [] := by kernel_rfl
theorem ok4 : (chainsOk (q' PySem.Challenge.pw_wright_k24_whole_begins_let_by) && opensWell law.row.prog && (frees law.row.toRowW && law.row.within.isEmpty)) = true := by kernel_rfl
theorem ok5 : lawRec.params.defaults = [] := by kernel_rfl
theorem hold (h : WalkO (q' PySem.Challenge.pw_wright_k24_whole_begins_let_by) loose (XL (q' PySem.Challenge.pw_wright_k24_whole_begins_let_by) []) (Hook.says hook) law.row.toRowW lawRec [] fun f vs => PySem.call f vs) (hw : law.row.toRowW.promised) : law.Holds :=
  pre fun said => holds_open (q := q' PySem.Challenge.pw_wright_k24_whole_begins_let_by) (loose := loose) (Xt := Xt) (XP := XL (q' PySem.Challenge.pw_wright_k24_whole_begins_let_by) []) (Yf := Hook.obs hook) (Ya := Hook.val hook) (YP := Hook.says hook) (N := bound) left (Hook.of hook) (Hook.keeps hook) (fun s e => xl_of s (Bool.and_eq_true_iff.mp e).1) XL.keeps ok1 ok2 ok3 (fun s e => recFacts_of (Bool.and_eq_true_iff.mp e).2) rfl said ok4 ⟨rfl, rfl, rfl, rfl, rfl, by decide +kernel⟩ hw h
end HD
namespace HD
open PySem PySem.W
theorem tops (P : Params) : K11.Top (K P) := ⟨⟨19, .type "function", none, none, #[], .none, .none, .str "wright.rules" 187, .ref 18, .none, by kernel_rfl, by kernel_rfl, by kernel_rfl, by kernel_rfl⟩,
  ⟨65, .type "function", none, none, #[], .none, .none, .str "law_wright_k24_whole_begins_let_by" 244, .ref 64, .none, by kernel_rfl, by kernel_rfl, by kernel_rfl, by kernel_rfl⟩,
  ⟨84, .type "function", none, none, #[], .none, .none, .str "law_wright_k24_whole_begins_let_by" 244, .ref 83, .none, by kernel_rfl, by kernel_rfl, by kernel_rfl, by kernel_rfl⟩,
  ⟨70, .type "function", none, none, #[], .none, .none, .str "law_wright_k24_whole_begins_let_by" 244, .ref 69, .none, by kernel_rfl, by kernel_rfl, by kernel_rfl, by kernel_rfl⟩,
  ⟨77, .type "function", none, none, #[], .none, .none, .str "law_wright_k24_whole_begins_let_by" 244, .ref 76, .none, by kernel_rfl, by kernel_rfl, by kernel_rfl, by kernel_rfl⟩,
  ⟨98, .type "function", none, none, #[], .none, .none, .str "law_wright_k24_whole_begins_let_by" 244, .ref 97, .none, by kernel_rfl, by kernel_rfl, by kernel_rfl, by kernel_rfl⟩,
  ⟨103, .type "function", none, none, #[], .none, .none, .str "law_wright_k24_whole_begins_let_by" 244, .ref 102, .none, by kernel_rfl, by kernel_rfl, by kernel_rfl, by kernel_rfl⟩,
  ⟨33, .type "function", none, none, #[], .none, .none, .str "wright.rules" 187, .ref 32, .none, by kernel_rfl, by kernel_rfl, by kernel_rfl, by kernel_rfl⟩,
  ⟨26, .type "function", none, none, #[], .none, .none, .str "wright.rules" 187, .ref 25, .none, by kernel_rfl, by kernel_rfl, by kernel_rfl, by kernel_rfl⟩,
  ⟨38, .type "function", none, none, #[], .none, .none, .str "wright.begin_checks" 212, .ref 37, .none, by kernel_rfl, by kernel_rfl, by kernel_rfl, by kernel_rfl⟩,
  ⟨43, .type "function", none, none, #[], .none, .none, .str "wright.begin_checks" 212, .ref 42, .none, by kernel_rfl, by kernel_rfl, by kernel_rfl, by kernel_rfl⟩,
  ⟨48, .type "function", none, none, #[], .none, .none, .str "wright.begin_checks" 212, .ref 47, .none, by kernel_rfl, by kernel_rfl, by kernel_rfl, by kernel_rfl⟩,
  ⟨58, .type "function", none, none, #[], .none, .none, .str "wright.begin_checks" 212, .ref 57, .none, by kernel_rfl, by kernel_rfl, by kernel_rfl, by kernel_rfl⟩,
  ⟨53, .type "function", none, none, #[], .none, .none, .str "wright.begin_checks" 212, .ref 52, .none, by kernel_rfl, by kernel_rfl, by kernel_rfl, by kernel_rfl⟩,
  ⟨130, .type "function", none, none, #[], .none, .none, .str "law_wright_k24_whole_begins_let_by" 244, .ref 129, .none, by kernel_rfl, by kernel_rfl, by kernel_rfl, by kernel_rfl⟩,
  ⟨135, .type "function", none, none, #[], .none, .none, .str "law_wright_k24_whole_begins_let_by" 244, .ref 134, .none, by kernel_rfl, by kernel_rfl, by kernel_rfl, by kernel_rfl⟩,
  ⟨142, .type "function", none, none, #[], .none, .none, .str "law_wright_k24_whole_begins_let_by" 244, .ref 141, .none, by kernel_rfl, by kernel_rfl, by kernel_rfl, by kernel_rfl⟩,
  ⟨125, .type "function", none, none, #[], .none, .none, .str "law_wright_k24_whole_begins_let_by" 244, .ref 124, .none, by kernel_rfl, by kernel_rfl, by kernel_rfl, by kernel_rfl⟩,
  ⟨147, .type "function", none, none, #[], .none, .none, .str "law_wright_k24_whole_begins_let_by" 244, .ref 146, .none, by kernel_rfl, by kernel_rfl, by kernel_rfl, by kernel_rfl⟩,
  by kernel_rfl,
  by kernel_rfl,
  by kernel_rfl,
  by kernel_rfl,
  by kernel_rfl,
  by kernel_rfl,
  by kernel_rfl,
  by kernel_rfl,
  by kernel_rfl,
  by kernel_rfl,
  by kernel_rfl,
  by kernel_rfl,
  by kernel_rfl,
  by kernel_rfl,
  by kernel_rfl,
  by kernel_rfl,
  by kernel_rfl⟩
end HD
theorem PySem.Challenge.cw_wright_k24_whole_begins_let_by_holds : PySem.Challenge.rw_wright_k24_whole_begins_let_by.Holds := by
  refine HD.hold ?_ ?hw
  case hw => w_witness2
  refine K11.walk (l := PySem.Challenge.rw_wright_k24_whole_begins_let_by) (K := HD.K) rfl HD.ok5 (fun w h Y => PySem.W.kIn_of Y) ?F
  intro w mg fa h KX G hmg
  exact K11.all_mk KX G hmg (HD.tops w.params)
