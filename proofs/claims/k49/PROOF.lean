import PyProof.Rows.All
import Wide.All
import OpenK.AllK
import Wide.FinOn
import Lean
import PyProof.EqAt
import PyProof.EqKinds
import PyProof.TupleCall
import PyProof.IsiH_list
import PyProof.RaisesAny
import KE.KDictOf
import PyProof.CollectWalk
import PyProof.CompFree
import KE.KDictList
import PyProof.NeKinds
import PyProof.ConsumeWalk
import PyProof.StrBlockI
import PyProof.EnumFor
import PyProof.TupleIter
import PyProof.EnumMake
import PyProof.DictUpdate
import PyProof.SeqI3
import PyProof.DictWalks
import PyProof.ConsumeS
import PyProof.Rows.CallKwBuiltin
import PyProof.AutoListH
import PyProof.ZipIter
import PyProof.ListNew
import KE.KRevSl
import PyProof.StrOps
import PyProof.StrOps2
import PyProof.EnumIter
import PySem.Challenge.RW_wright_k49_papers_checked
set_option Elab.async false
set_option linter.all false
set_option maxRecDepth 100000
namespace L2
open PySem PySem.Spec PyProof.Rows
abbrev Key := Sum Int Str
def keyIs : Key → Value → Bool
  | .inl k, v => Value.isInt k v
  | .inr x, v => Value.isStrOf x v
def keyH (w : World) : Key → Int
  | .inl k => hashInt k
  | .inr x => hashStr w x
theorem keyIs_shape : ∀ {k : Key} {v : Value}, keyIs k v = true → (∃ i t, k = Sum.inl i ∧ v = Value.int i t) ∨ (∃ x t, k = Sum.inr x ∧ v = Value.str x t)
  | .inl i, v, h => by
    obtain ⟨t, e⟩ := Value.isInt_shape (k := i) (v := v) h
    exact .inl ⟨i, t, rfl, e⟩
  | .inr x, v, h => by
    obtain ⟨t, e⟩ := Value.isStrOf_shape (x := x) (v := v) h
    exact .inr ⟨x, t, rfl, e⟩
theorem keyIs_int (i : Int) (t : Tok) : keyIs (.inl i) (.int i t) = true := by simp [keyIs, Value.isInt]
theorem keyIs_str (x : Str) (t : Tok) : keyIs (.inr x) (.str x t) = true := by simp [keyIs, Value.isStrOf]
theorem key_ll (a b : Int) : decide ((Sum.inl a : Key) = Sum.inl b) = (a == b) := by
  by_cases e : a = b
  · subst e; simp
  · have h : ¬ (Sum.inl a : Key) = Sum.inl b := fun q => e (Sum.inl.inj q)
    rw [decide_eq_false h]
    exact (beq_eq_false_iff_ne.mpr e).symm
theorem key_rr (a b : Str) : decide ((Sum.inr a : Key) = Sum.inr b) = decide (a = b) := by
  by_cases e : a = b
  · subst e; simp
  · have h : ¬ (Sum.inr a : Key) = Sum.inr b := fun q => e (Sum.inr.inj q)
    rw [decide_eq_false h, decide_eq_false e]
theorem key_lr (a : Int) (b : Str) : decide ((Sum.inl a : Key) = Sum.inr b) = false := decide_eq_false (fun q => nomatch q)
theorem key_rl (a : Str) (b : Int) : decide ((Sum.inr a : Key) = Sum.inl b) = false := decide_eq_false (fun q => nomatch q)
def mixKind (prog : Program) (w : World) : PySem.KeyKind prog w Key where
  is := keyIs
  hash := keyH w
  inj := fun v a b ha hb => by
    rcases keyIs_shape ha with ⟨i, t, rfl, rfl⟩ | ⟨x, t, rfl, rfl⟩
    · rcases keyIs_shape hb with ⟨j, u, rfl, e⟩ | ⟨y, u, rfl, e⟩
      · injection e with e1 _; rw [e1]
      · exact nomatch e
    · rcases keyIs_shape hb with ⟨j, u, rfl, e⟩ | ⟨y, u, rfl, e⟩
      · exact nomatch e
      · injection e with e1 _; rw [e1]
  byValue := fun k v h => by
    rcases keyIs_shape h with ⟨i, t, rfl, rfl⟩ | ⟨x, t, rfl, rfl⟩ <;> rfl
  pyHash := fun hv h => by
    rcases keyIs_shape hv with ⟨i, t, rfl, rfl⟩ | ⟨x, t, rfl, rfl⟩
    · exact wpAny_pyHash_int h
    · exact wpAny_pyHash_str h
  eqBool := fun hu hv h => by
    rcases keyIs_shape hu with ⟨i, t, rfl, rfl⟩ | ⟨x, t, rfl, rfl⟩
    · rcases keyIs_shape hv with ⟨j, u, rfl, rfl⟩ | ⟨y, u, rfl, rfl⟩
      · rw [key_ll] at h; exact wpAny_eqBool_int h
      · rw [key_lr] at h; exact SeqAt.EqAt.int_str i t y u _ _ _ _ h
    · rcases keyIs_shape hv with ⟨j, u, rfl, rfl⟩ | ⟨y, u, rfl, rfl⟩
      · rw [key_rl] at h; exact SeqAt.EqAt.str_int x t j u _ _ _ _ h
      · rw [key_rr] at h; exact wpAny_eqBool_str h
  «strs» := fun k x t v h => by
    rcases keyIs_shape h with ⟨i, u, rfl, e⟩ | ⟨y, u, rfl, e⟩
    · exact nomatch e
    · injection e with e1 _
      subst e1
      cases v <;> rfl
theorem mixKind_int (prog : Program) (w : World) (i : Int) (t : Tok) : (mixKind prog w).is (.inl i) (.int i t) = true := keyIs_int i t
theorem mixKind_str (prog : Program) (w : World) (x : Str) (t : Tok) : (mixKind prog w).is (.inr x) (.str x t) = true := keyIs_str x t
end L2
namespace L2
open PySem PySem.Spec PyProof.Rows
inductive V where
  | non | bl (b : Bool) | int (i : Int) | str (x : Str) | byt (b : Array UInt8) | flt (b : UInt64) | ref (a : Addr) | ty (n : String)
  deriving DecidableEq
def RelV : V → Value → Prop
  | .non, u => u = Value.none
  | .bl b, u => u = Value.bool b
  | .int i, u => ∃ t, u = Value.int i t
  | .str x, u => ∃ t, u = Value.str x t
  | .byt b, u => ∃ t, u = Value.bytes b t
  | .flt b, u => ∃ t, u = Value.float b t
  | .ref a, u => u = Value.ref a
  | .ty n, u => u = Value.type n
abbrev Vals : List V → List Value → Prop := Paired RelV
theorem Vals.length {xs : List V} {us : List Value} (r : Vals xs us) : xs.length = us.length := Paired.length r
theorem Vals.get : ∀ {xs : List V} {us : List Value} {i : Nat} {x : V}, Vals xs us → xs[i]? = some x → ∃ u, us[i]? = some u ∧ RelV x u
  | _, _, _, _, .nil, e => by simp at e
  | _, _, 0, _, .cons r _, e => by simp at e; subst e; exact ⟨_, rfl, r⟩
  | _, _, i + 1, x, .cons _ t, e => by
    obtain ⟨u, h1, h2⟩ := Vals.get (i := i) (x := x) t (by simpa using e)
    exact ⟨u, by simpa using h1, h2⟩
theorem Vals.set {x : V} {u : Value} (r : RelV x u) : ∀ {xs : List V} {us : List Value} (i : Nat), Vals xs us → Vals (xs.set i x) (us.set i u)
  | _, _, _, .nil => .nil
  | _, _, 0, .cons _ t => .cons r t
  | _, _, i + 1, .cons q t => .cons q (Vals.set r i t)
theorem Vals.append : ∀ {xs ys : List V} {us ws : List Value}, Vals xs us → Vals ys ws → Vals (xs ++ ys) (us ++ ws)
  | _, _, _, _, .nil, s => s
  | _, _, _, _, .cons r t, s => .cons r (Vals.append t s)
theorem Vals.take : ∀ {xs : List V} {us : List Value} (n : Nat), Vals xs us → Vals (xs.take n) (us.take n)
  | _, _, 0, _ => .nil
  | _, _, _ + 1, .nil => .nil
  | _, _, n + 1, .cons r t => .cons r (Vals.take n t)
theorem Vals.drop : ∀ {xs : List V} {us : List Value} (n : Nat), Vals xs us → Vals (xs.drop n) (us.drop n)
  | _, _, 0, r => r
  | _, _, _ + 1, .nil => .nil
  | _, _, n + 1, .cons _ t => Vals.drop n t
def RelO : Option V → Option Value → Prop
  | some v, some u => RelV v u
  | none, none => True
  | _, _ => False
def KV {κ : Type} : List (κ × V) → List (κ × Value) → Prop := Paired fun (p : κ × V) (q : κ × Value) => p.1 = q.1 ∧ RelV p.2 q.2
def kV : Key → V
  | .inl i => .int i
  | .inr x => .str x
inductive HO where
  /-- a list -/
  | lst (xs : List V)
  /-- a tuple (never changes) -/
  | tup (xs : List V)
  /-- a dict whose keys are ints and texts; one whose keys are tuples of ints and texts (the empty one is both) -/
  | dK (kvs : List (Key × V)) | dT (kvs : List (List Key × V))
  /-- a set of ints: its members, its size -/
  | set (S : Int → Bool) (n : Nat)
  /-- an instance of the class at C, its dict at dx, its attributes -/
  | ins (C dx : Addr) (fs : List (Str × V))
  /-- the dict of the instance at x -/
  | own (x : Addr)
  /-- the dict of an exception -/
  | xd (fs : List (Str × V))
  /-- a bound method, f of x -/
  | met (f x : Addr)
  /-- a range object lo, lo + 1, .. below hi -/
  | rng (lo hi : Int)
  /-- a thing that is known to the object (the script; a dict while a loop walks it): read, never written while it is so -/
  | frz (o : Obj) (u : HO)
  /-- a code object's table -/
  | tbl (ps : Array Value)
  /-- any other thing, by what is true of its one object (a def of one's own: SetO a S n := HO.ext fun h => ..) -/
  | ext (φ : Heap → Prop)
abbrev Hp := Addr → Option HO
def upd (H : Hp) (a : Addr) (o : HO) : Hp := fun b => if b = a then some o else H b
theorem upd_same {H : Hp} {a : Addr} {o : HO} : upd H a o a = some o := by unfold upd; rw [if_pos rfl]
theorem upd_ne {H : Hp} {a b : Addr} {o : HO} (h : b ≠ a) : upd H a o b = H b := by unfold upd; rw [if_neg h]
theorem upd_upd {H : Hp} {a : Addr} {o u : HO} : upd (upd H a o) a u = upd H a u := by
  funext b; unfold upd; split <;> rfl
theorem ne_of {H : Hp} {a b : Addr} {o u : HO} (h : H a = some o) (h' : H b = some u) (d : o ≠ u) : a ≠ b := by
  intro e; subst e; rw [h] at h'; exact d (Option.some.inj h')
theorem ne_of_none {H : Hp} {a b : Addr} {o : HO} (h : H a = some o) (h' : H b = none) : a ≠ b := by
  intro e; subst e; rw [h] at h'; cases h'
section
variable (P : Program) (w : World)
def ObjOk (H : Hp) (h : Heap) (a : Addr) : HO → Prop
  | .lst xs => xs.length ≤ sizeLine ∧ ∃ (its : List Value) (n : Nat), Vals xs its ∧ h.get? a = some { cls := .type "list", data := .seq its.toArray n }
  | .tup xs => xs.length ≤ sizeLine ∧ ∃ its : List Value, Vals xs its ∧ IsTup h a its.toArray
  | .dK kvs => kvs.length ≤ sizeLine ∧ (a == sysModules) = false ∧ ∃ vs, KV kvs vs ∧ h.DictOf (mixKind P w) a vs
  | .dT kvs => kvs.length ≤ sizeLine ∧ (a == sysModules) = false ∧ ∃ xs : List (List Key × Addr × Value),
      Paired (fun (p : List Key × V) (q : List Key × Addr × Value) => p.1 = q.1 ∧ H q.2.1 = some (.tup (p.1.map kV)) ∧ RelV p.2 q.2.2) kvs xs ∧
      ∃ o es ep, h.get? a = some o ∧ o.ExactDict ∧ o.data = .dict es ep ∧ es.toList = xs.map (entryOfKey (tupleKind (mixKind P w))) ∧ (xs.map (·.1)).Nodup
  | .set S n => h.SetOf (intKind P w) a S n
  | .ins C dx fs => H dx = some (.own a) ∧ fs.length ≤ 1000 ∧ dx ≠ a ∧ h.get? a = some (PySem.W.instObj C dx) ∧
      ∃ mA, h.Ns1 dx mA ∧ (∀ f, RelO (fs.lookup f) (mA f)) ∧ PySem.Within mA (fs.map (·.1))
  | .own _ => ∃ o, h.get? a = some o
  | .xd fs => ∃ mA, h.Ns1 a mA ∧ ∀ f, RelO (fs.lookup f) (mA f)
  | .rng lo hi => ∃ t u v, h.get? a = some { cls := .type "range", data := .fields #[.int lo t, .int hi u, .int 1 v] }
  | .frz o u => h.get? a = some o ∧ ObjOk H h a u
  | .tbl ps => h.get? a = some { cls := .none, data := .fields ps }
  | .met f x => h.get? a = some (PySem.W.methodObj (.ref f) (.ref x))
  | .ext φ => φ h ∧ (∃ o, h.get? a = some o) ∧ ∀ h1 h2 : Heap, φ h1 → (∀ o, h1.get? a = some o → h2.get? a = some o) → φ h2
def HOk (H : Hp) (h : Heap) : Prop := ∀ a o, H a = some o → ObjOk P w H h a o
end
section
variable {P : Program} {w : World} {H H' : Hp} {h h' : Heap} {a : Addr} {o : HO}
theorem ObjOk.lt (x : ObjOk P w H h a o) : a < h.objs.size := by
  cases o with
  | lst xs => obtain ⟨_, _, _, _, e⟩ := x; exact Heap.lt_size e
  | tup xs => obtain ⟨_, _, _, p⟩ := x; exact p.lt
  | dK kvs => obtain ⟨_, _, _, _, o, _, _, e, _⟩ := x; exact Heap.lt_size e
  | dT kvs => obtain ⟨_, _, _, _, o, _, _, e, _⟩ := x; exact Heap.lt_size e
  | set S n => obtain ⟨o, _, _, _, e, _⟩ := x; exact Heap.lt_size e
  | ins C dx fs => obtain ⟨_, _, _, e, _⟩ := x; exact Heap.lt_size e
  | own y => obtain ⟨_, e⟩ := x; exact Heap.lt_size e
  | xd fs => obtain ⟨_, ⟨_, _, _, e, _⟩, _⟩ := x; exact Heap.lt_size e
  | rng lo hi => obtain ⟨_, _, _, e⟩ := x; exact Heap.lt_size e
  | frz ob u => obtain ⟨e, _⟩ := x; exact Heap.lt_size e
  | tbl ps => exact Heap.lt_size (show h.get? a = some _ from x)
  | met f y => exact Heap.lt_size (show h.get? a = some _ from x)
  | ext φ => obtain ⟨_, ⟨_, e⟩, _⟩ := x; exact Heap.lt_size e
theorem Paired.mapP {α β : Type} {F G : α → β → Prop} : ∀ {l₁ : List α} {l₂ : List β}, Paired F l₁ l₂ → (∀ a b, F a b → G a b) → Paired G l₁ l₂
  | _, _, .nil, _ => .nil
  | _, _, .cons r t, f => .cons (f _ _ r) (Paired.mapP t f)
theorem ObjOk.stay (x : ObjOk P w H h a o) (k : ∀ b u, (b = a ∨ H b = some (.own a)) → h.get? b = some u → h'.get? b = some u)
    (ho : ∀ b, H b = some (.own a) → H' b = some (.own a)) (ht : ∀ b xs, H b = some (.tup xs) → H' b = some (.tup xs)) : ObjOk P w H' h' a o := by
  induction o with
  | lst xs => obtain ⟨z, its, n, r, e⟩ := x; exact ⟨z, its, n, r, k _ _ (.inl rfl) e⟩
  | tup xs => obtain ⟨z, its, r, ob, e, c⟩ := x; exact ⟨z, its, r, ob, k _ _ (.inl rfl) e, c⟩
  | dK kvs => obtain ⟨z, y, vs, r, ob, es, ep, e, c⟩ := x; exact ⟨z, y, vs, r, ob, es, ep, k _ _ (.inl rfl) e, c⟩
  | dT kvs =>
    obtain ⟨z, y, xs, r, ob, es, ep, e, c⟩ := x
    exact ⟨z, y, xs, Paired.mapP r fun p q z => ⟨z.1, ht _ _ z.2.1, z.2.2⟩, ob, es, ep, k _ _ (.inl rfl) e, c⟩
  | set S n => obtain ⟨ob, es, ep, t, e, c⟩ := x; exact ⟨ob, es, ep, t, k _ _ (.inl rfl) e, c⟩
  | ins C dx fs =>
    obtain ⟨d, z, ne, e, mA, ⟨od, es, ep, e2, c⟩, r⟩ := x
    exact ⟨ho _ d, z, ne, k _ _ (.inl rfl) e, mA, ⟨od, es, ep, k _ _ (.inr d) e2, c⟩, r⟩
  | own y => obtain ⟨ob, e⟩ := x; exact ⟨ob, k _ _ (.inl rfl) e⟩
  | xd fs => obtain ⟨mA, ⟨od, es, ep, e, c⟩, r⟩ := x; exact ⟨mA, ⟨od, es, ep, k _ _ (.inl rfl) e, c⟩, r⟩
  | rng lo hi => obtain ⟨t, u, v, e⟩ := x; exact ⟨t, u, v, k _ _ (.inl rfl) e⟩
  | frz ob u ih => obtain ⟨e, q⟩ := x; exact ⟨k _ _ (.inl rfl) e, ih q⟩
  | tbl ps =>
    have e : h.get? a = some { cls := .none, data := .fields ps } := x
    show h'.get? a = some { cls := .none, data := .fields ps }
    exact k a _ (.inl rfl) e
  | met f y =>
    have e : h.get? a = some (PySem.W.methodObj (.ref f) (.ref y)) := x
    show h'.get? a = some (PySem.W.methodObj (.ref f) (.ref y))
    exact k a _ (.inl rfl) e
  | ext φ => obtain ⟨p, ⟨o, e⟩, st⟩ := x; exact ⟨st _ _ p fun o q => k _ _ (.inl rfl) q, ⟨o, k _ _ (.inl rfl) e⟩, st⟩
theorem HOk.lt (x : HOk P w H h) (e : H a = some o) : a < h.objs.size := (x a o e).lt
theorem HOk.fresh (x : HOk P w H h) (e : h.objs.size ≤ a) : H a = none := by
  cases q : H a with
  | none => rfl
  | some u => exact absurd (Nat.lt_of_lt_of_le (x.lt q) e) (Nat.lt_irrefl _)
theorem HOk.kept (x : HOk P w H h) (k : ∀ b u, h.get? b = some u → h'.get? b = some u) : HOk P w H h' := fun a o e =>
  (x a o e).stay (fun b u _ q => k b u q) (fun _ q => q) fun _ _ q => q
theorem HOk.laid (x : HOk P w H h) (k : ∀ b u, h.get? b = some u → h'.get? b = some u) (hp : h.objs.size ≤ a) (new : ObjOk P w (upd H a o) h' a o) : HOk P w (upd H a o) h' := fun b u e => by
  have hn := x.fresh hp
  by_cases hb : b = a
  · subst hb; rw [upd_same] at e; cases e; exact new
  · rw [upd_ne hb] at e
    exact (x b u e).stay (fun c v _ q => k c v q) (fun c q => by rw [upd_ne (ne_of_none q hn)]; exact q) fun c xs q => by rw [upd_ne (ne_of_none q hn)]; exact q
end
def Rd (H : Hp) (a : Addr) (u : HO) : Prop := H a = some u ∨ ∃ o, H a = some (.frz o u)
theorem Rd.of {H : Hp} {a : Addr} {u : HO} (h : H a = some u) : Rd H a u := .inl h
theorem Rd.ok {P : Program} {w : World} {H : Hp} {h : Heap} {a : Addr} {u : HO} (r : Rd H a u) (x : HOk P w H h) : ObjOk P w H h a u := by
  rcases r with r | ⟨o, r⟩
  · exact x a u r
  · obtain ⟨_, q⟩ := x a _ r
    exact q
def Mut : Option HO → Prop
  | some (.lst _) => True
  | some (.dK _) => True
  | some (.dT _) => True
  | some (.set _ _) => True
  | some (.ins _ _ _) => True
  | some (.ext _) => True
  | _ => False
section
variable {P : Program} {w : World} {H : Hp} {h h' : Heap} {x e : Addr} {o' : HO}
theorem HOk.write (ok : HOk P w H h) (mu : Mut (H x)) (he : e = x ∨ H e = some (.own x)) (k : ∀ b u, b ≠ e → h.get? b = some u → h'.get? b = some u) (heo : ∃ u, h'.get? e = some u)
    (new : ObjOk P w (upd H x o') h' x o') : HOk P w (upd H x o') h' := fun b u q => by
  have nown : ∀ c y, H c = some (.own y) → c ≠ x := fun c y r z => by subst z; rw [r] at mu; exact mu
  have ntup : ∀ c xs, H c = some (.tup xs) → c ≠ x := fun c xs r z => by subst z; rw [r] at mu; exact mu
  by_cases hb : b = x
  · subst hb; rw [upd_same] at q; cases q; exact new
  · rw [upd_ne hb] at q
    by_cases hbe : b = e
    · have q' : H b = some (.own x) := by
        rcases he with z | z
        · exact absurd (hbe.trans z) hb
        · rw [hbe]; exact z
      rw [q] at q'; cases q'
      obtain ⟨v, hv⟩ := heo
      exact ⟨v, by rw [hbe]; exact hv⟩
    · refine (ok b u q).stay (fun c v hc r => k c v ?_ r) (fun c r => by rw [upd_ne (nown c b r)]; exact r) fun c xs r => by rw [upd_ne (ntup c xs r)]; exact r
      rcases hc with rfl | hc
      · exact hbe
      · rintro rfl
        rcases he with z | z
        · exact nown c b hc z
        · rw [hc] at z; cases z; exact hb rfl
end
structure Un (fs ex : List Addr) (H H' : Hp) (h h' : Heap) : Prop where
  keep : ∀ b o, h.get? b = some o → H b = none → b ∉ fs → b ∉ ex → h'.get? b = some o
  slot : ∀ b o, h.get? b = some o → H b = none → b ∈ fs → b ∉ ex → ∃ sl, h'.get? b = some { o with slots := sl }
  free : ∀ b o, h.get? b = some o → H b = none → b ∉ ex → H' b = none
  there : ∀ b o, h.get? b = some o → b ∉ ex → ∃ o', h'.get? b = some o'
  tups : ∀ b xs, H b = some (.tup xs) → H' b = some (.tup xs)
  frzs : ∀ b o u, H b = some (.frz o u) → H' b = some (.frz o u)
  tbls : ∀ b ps, H b = some (.tbl ps) → ∃ more, H' b = some (.tbl (ps ++ more))
section
variable {fs fs' ex ex' : List Addr} {H H1 H2 : Hp} {h h1 h2 h' : Heap} {a x e : Addr} {o : HO}
theorem Un.any (u : Un fs ex H H1 h h1) {b : Addr} {ob : Obj} (q : h.get? b = some ob) (n : H b = none) (hx : b ∉ ex) : ∃ sl, h1.get? b = some { ob with slots := sl } := by
  by_cases hb : b ∈ fs
  · exact u.slot b ob q n hb hx
  · exact ⟨ob.slots, u.keep b ob q n hb hx⟩
theorem Un.trans (a : Un fs ex H H1 h h1) (b : Un fs ex H1 H2 h1 h2) : Un fs ex H H2 h h2 where
  keep := fun c ob q n hc hx => b.keep c ob (a.keep c ob q n hc hx) (a.free c ob q n hx) hc hx
  slot := fun c ob q n hc hx => by
    obtain ⟨sl, e1⟩ := a.slot c ob q n hc hx
    obtain ⟨sl', e2⟩ := b.slot c _ e1 (a.free c ob q n hx) hc hx
    exact ⟨sl', e2⟩
  free := fun c ob q n hx => by
    obtain ⟨o', e1⟩ := a.there c ob q hx
    exact b.free c o' e1 (a.free c ob q n hx) hx
  there := fun c ob q hx => by
    obtain ⟨o', e1⟩ := a.there c ob q hx
    exact b.there c o' e1 hx
  tups := fun c xs q => b.tups c xs (a.tups c xs q)
  frzs := fun c ob xs q => b.frzs c ob xs (a.frzs c ob xs q)
  tbls := fun c ps q => by
    obtain ⟨m1, e1⟩ := a.tbls c ps q
    obtain ⟨m2, e2⟩ := b.tbls c _ e1
    exact ⟨m1 ++ m2, by rw [e2, Array.append_assoc]⟩
theorem Un.kept (k : ∀ b u, h.get? b = some u → h'.get? b = some u) : Un fs ex H H h h' :=
  ⟨fun b ob q _ _ _ => k b ob q, fun b ob q _ _ _ => ⟨ob.slots, k b ob q⟩, fun _ _ _ n _ => n, fun b ob q _ => ⟨ob, k b ob q⟩, fun _ _ q => q, fun _ _ _ q => q, fun _ ps q => ⟨#[], by rw [q]; simp⟩⟩
theorem Un.refl : Un fs ex H H h h := Un.kept fun _ _ q => q
theorem Un.laid (k : ∀ b u, h.get? b = some u → h'.get? b = some u) (hp : h.objs.size ≤ a) (hn : H a = none) : Un fs ex H (upd H a o) h h' where
  keep := fun b u q _ _ _ => k b u q
  slot := fun b u q _ _ _ => ⟨u.slots, k b u q⟩
  free := fun b u q n _ => by rw [upd_ne (Nat.ne_of_lt (Nat.lt_of_lt_of_le (Heap.lt_size q) hp))]; exact n
  there := fun b u q _ => ⟨u, k b u q⟩
  tups := fun b xs q => by rw [upd_ne (ne_of_none q hn)]; exact q
  frzs := fun b u xs q => by rw [upd_ne (ne_of_none q hn)]; exact q
  tbls := fun b ps q => ⟨#[], by rw [upd_ne (ne_of_none q hn), q]; simp⟩
theorem Un.write (mu : Mut (H x)) (he : e = x ∨ H e = some (.own x)) (k : ∀ b u, b ≠ e → h.get? b = some u → h'.get? b = some u) (heo : ∃ u, h'.get? e = some u) : Un fs ex H (upd H x o) h h' := by
  have hx : ∀ b, H b = none → b ≠ x := fun b n z => by subst z; rw [n] at mu; exact mu
  have hb : ∀ b, H b = none → b ≠ e := fun b n z => by
    subst z
    rcases he with r | r
    · exact hx b n r
    · rw [n] at r; cases r
  have hm : ∀ b u, H b = some u → ¬ Mut (some u) → b ≠ x := fun b u q nm z => by subst z; rw [q] at mu; exact nm mu
  refine ⟨fun b u q n _ _ => k b u (hb b n) q, fun b u q n _ _ => ⟨u.slots, k b u (hb b n) q⟩, fun b u q n _ => by rw [upd_ne (hx b n)]; exact n, fun b u q _ => ?_,
    fun b xs q => by rw [upd_ne (hm b _ q fun z => z)]; exact q, fun b u xs q => by rw [upd_ne (hm b _ q fun z => z)]; exact q, fun b ps q => ⟨#[], by rw [upd_ne (hm b _ q fun z => z), q]; simp⟩⟩
  by_cases hbe : b = e
  · subst hbe; exact heo
  · exact ⟨u, k b u hbe q⟩
theorem Un.mono (u : Un fs ex H H1 h h1) (hs : ∀ b ∈ fs, b ∈ fs') (hx : ∀ b ∈ ex, b ∈ ex') : Un fs' ex' H H1 h h1 :=
  ⟨fun b ob q n hb he => u.keep b ob q n (fun z => hb (hs b z)) fun z => he (hx b z), fun _ _ q n _ he => u.any q n fun z => he (hx _ z), fun b ob q n he => u.free b ob q n fun z => he (hx b z), fun b ob q he => u.there b ob q fun z => he (hx b z), u.tups, u.frzs, u.tbls⟩
end
def trk (h : Heap) (H : Hp) : List Addr := (List.range h.objs.size).filter fun a => (H a).isSome
def hidT (h : Heap) (H : Hp) : Heap := PySem.W.hideAll h (trk h H)
theorem hidT_size (h : Heap) (H : Hp) : (hidT h H).objs.size = h.objs.size := PySem.W.hideAll_size _ _
theorem hidT_get {h : Heap} {H : Hp} {b : Addr} {o : Obj} (e : h.get? b = some o) (n : H b = none) : (hidT h H).get? b = some o :=
  PySem.W.hideAll_get _ e fun hm => by
    have q : (H b).isSome = true := (List.mem_filter.mp hm).2
    rw [n] at q; simp at q
theorem of_hidT {h : Heap} {H : Hp} {b : Addr} {o : Obj} (e : (hidT h H).get? b = some o) : h.get? b = some o ∧ H b = none := by
  have e' : h.get? b = some o := PySem.W.of_hideAll (trk h H) e
  refine ⟨e', ?_⟩
  cases q : H b with
  | none => rfl
  | some x =>
    have hm : b ∈ trk h H := List.mem_filter.mpr ⟨List.mem_range.mpr (Heap.lt_size e'), by simp [q]⟩
    have z : (hidT h H).get? b = none := PySem.W.hideAll_none (trk h H) hm
    rw [z] at e; cases e
def allNews (g h : Heap) (L : Addr) : List (Addr × Obj) := (List.range h.objs.size).filterMap fun a => if a = L ∨ (g.get? a).isSome = true then none else (h.get? a).map fun o => (a, o)
def rest (g h : Heap) (L d : Addr) : List (Addr × Obj) := (allNews g h L).filter fun p => decide (p.1 ≠ d)
end L2
namespace L2
open PySem PySem.Spec PyProof.Rows
structure Mod (K : PySem.W.Frag) (mg : Str → Option Value) (base : Heap) : Prop where
  kin : K.In base
  glob : base.Ns mainGlobals mg
  blt : ∃ mb, base.Ns builtinsNs mb ∧ ∀ x : Str, x ≠ "__name__" → mb x = bootBuiltins x
  nolimit : base.NoLimit
structure Cx where
  prog : Program
  w : World
  K : PySem.W.Frag
  mg : Str → Option Value
  base : Heap
  A : Around
  N : List Str
  s₀ : Shared
  H₀ : Hp
  env : Env
  outer : List Env
  stack : List Env
  ex : List Addr
  fn : Str → Bool
  calm : Bool
  pn : List (Addr × Obj)
  xe : Value → Shared → Prop
def frs (l : List Env) : List Addr := l.filterMap (·.frame)
abbrev Cx.fs (X : Cx) : List Addr := frs X.outer
def Vis (sc : Scope) (x : Str) : Prop := sc.names.lookup x = some .local ∨ sc.names.lookup x = some .cell ∨ sc.names.lookup x = some .free
def Loc (sc : Scope) (x : Str) : Prop := sc.names.lookup x = some .local ∨ sc.names.lookup x = some .cell
def Look (env : Env) (h : Heap) (m : Str → Option Value) (x : Str) (u : Value) : Prop :=
  (env.kindOf x = some .local ∧ m x = some u) ∨ ((env.kindOf x = some .cell ∨ env.kindOf x = some .free) ∧ ∃ c, env.cells.lookup x = some c ∧ h.IsCell c (some u))
structure Cx.Ok (X : Cx) : Prop where
  mod : Mod X.K X.mg X.base
  kind : X.env.scope.kind = .function
  glob : X.env.globals = mainGlobals
  blt : X.env.builtins = builtinsNs
  above : X.s₀.heap.objs.size ≤ X.env.locals
  inj : ∀ x y c, X.env.cells.lookup x = some c → X.env.cells.lookup y = some c → x = y
  has : ∀ x, (X.env.kindOf x = some .cell ∨ X.env.kindOf x = some .free) → ∃ c, X.env.cells.lookup x = some c
  cab : ∀ x c, X.fn x = true → X.env.cells.lookup x = some c → X.s₀.heap.objs.size ≤ c
  hd : X.calm = true → X.A.handled = none
  frames : X.A.frames = some X.stack
  stk : X.stack = X.outer ∨ (X.stack = X.env :: X.outer ∧ X.env.frame = some X.env.locals)
  exf : ∀ b ∈ X.ex, b ≠ X.env.locals ∧ ∀ x c, X.env.cells.lookup x = some c → c ≠ b
  bs : ∀ b o, X.base.get? b = some o → X.s₀.heap.get? b = some o ∧ X.H₀ b = none
  bsz : X.base.objs.size ≤ X.s₀.heap.objs.size
  noex : ∀ b o, X.base.get? b = some o → b ∉ X.ex
  exfs : ∀ b ∈ X.ex, b ∉ X.fs
  funs : X.s₀.heap.FunFrames X.base X.outer
  frf : ∀ b ∈ X.fs, X.H₀ b = none
structure Inv (X : Cx) (pins : List (Addr × Obj)) (σ : List (Option V)) (H : Hp) (s : Shared) : Prop where
  ok : X.Ok
  os : s.os = X.s₀.os
  bare : AllBare s.gens
  base : Un X.fs X.ex X.H₀ H X.s₀.heap s.heap
  loc : ∃ m, s.heap.Ns X.env.locals m ∧ ∀ (i : Nat) (x : Str) (v : V), X.N[i]? = some x → σ[i]? = some (some v) → Vis X.env.scope x → ∃ u, RelV v u ∧ Look X.env s.heap m x u
  cell : ∀ x c, X.env.cells.lookup x = some c → ∃ v, s.heap.IsCell c v
  free : H X.env.locals = none
  freeC : ∀ x c, X.env.cells.lookup x = some c → H c = none
  pin : ∀ p ∈ X.pn ++ pins, s.heap.get? p.1 = some p.2 ∧ H p.1 = none ∧ p.1 ≠ X.env.locals ∧ p.1 ∉ X.fs ∧ ∀ v, p.2.data ≠ .cell v
  hok : HOk X.prog X.w H s.heap
  len : σ.length = X.N.length
section
variable {X : Cx} {pins : List (Addr × Obj)} {σ : List (Option V)} {H H' : Hp} {s : Shared} {h' : Heap}
theorem Cx.Ok.nofr (ok : X.Ok) {b : Addr} {o : Obj} (e : X.base.get? b = some o) : b ∉ X.fs := fun hb => by
  have := (ok.funs.mem hb).1
  rw [e] at this; cases this
theorem Inv.bs (I : Inv X pins σ H s) : ∀ b o, X.base.get? b = some o → s.heap.get? b = some o ∧ H b = none := fun b o e =>
  ⟨I.base.keep b o (I.ok.bs b o e).1 (I.ok.bs b o e).2 (I.ok.nofr e) (I.ok.noex b o e), I.base.free b o (I.ok.bs b o e).1 (I.ok.bs b o e).2 (I.ok.noex b o e)⟩
theorem Inv.bk (I : Inv X pins σ H s) : ∀ b o, X.base.get? b = some o → s.heap.get? b = some o := fun b o e => (I.bs b o e).1
theorem Inv.mod (I : Inv X pins σ H s) : Mod X.K X.mg X.base := I.ok.mod
theorem Inv.kIn (I : Inv X pins σ H s) : X.K.In s.heap := I.ok.mod.kin.keeps I.bk
theorem Inv.nolimit (I : Inv X pins σ H s) : s.heap.NoLimit := I.ok.mod.nolimit.keeps I.bk
theorem Inv.fr (I : Inv X pins σ H s) : ∃ m, Fr X.base X.env.locals s.heap m :=
  let ⟨m, hn, _⟩ := I.loc
  ⟨m, hn, I.bk, Nat.le_trans I.ok.bsz I.ok.above⟩
theorem Inv.lt (I : Inv X pins σ H s) : X.env.locals < s.heap.objs.size := let ⟨_, hn, _⟩ := I.loc; hn.lt
theorem Inv.sz (I : Inv X pins σ H s) : X.s₀.heap.objs.size ≤ s.heap.objs.size := Nat.le_trans I.ok.above (Nat.le_of_lt I.lt)
theorem Inv.nofs (I : Inv X pins σ H s) {a : Addr} (h : s.heap.objs.size ≤ a) : a ∉ X.fs := fun hb => by
  obtain ⟨_, o, ho, _⟩ := I.ok.funs.mem hb
  exact absurd (Nat.lt_of_lt_of_le (Heap.lt_size ho) (Nat.le_trans I.sz h)) (Nat.lt_irrefl _)
theorem Inv.cne (I : Inv X pins σ H s) : ∀ x c, X.env.cells.lookup x = some c → c ≠ X.env.locals := fun x c e z => by
  obtain ⟨v, o, ho, hd⟩ := I.cell x c e
  obtain ⟨m, ⟨o', es, ep, ho', hd', _⟩, _⟩ := I.loc
  rw [z, ho'] at ho; cases ho; rw [hd'] at hd; cases hd
theorem Inv.funs (I : Inv X pins σ H s) : s.heap.FunFrames X.base X.outer := by
  have all : ∀ (l : List Env), (∀ b ∈ frs l, b ∈ X.fs) → X.s₀.heap.FunFrames X.base l → s.heap.FunFrames X.base l := by
    intro l
    induction l with
    | nil => intro _ _; trivial
    | cons env r ih =>
      intro hs hl
      obtain ⟨hk, ⟨L, o, hf, hn, ho, hd⟩, hr⟩ := hl
      have hL : L ∈ X.fs := hs L (by unfold frs; rw [List.filterMap_cons, hf]; exact List.mem_cons_self)
      obtain ⟨sl, e⟩ := I.base.slot L o ho (I.ok.frf L hL) hL fun z => I.ok.exfs L z hL
      exact ⟨hk, ⟨L, _, hf, hn, e, hd⟩, ih (fun b hb => hs b (by unfold frs; rw [List.filterMap_cons, hf]; exact List.mem_cons_of_mem _ hb)) hr⟩
  exact all X.outer (fun _ hb => hb) I.ok.funs
theorem Inv.stack (I : Inv X pins σ H s) : s.heap.FunFrames X.base X.stack := by
  rcases I.ok.stk with e | ⟨e, hf⟩
  · rw [e]; exact I.funs
  · rw [e]
    obtain ⟨m, hn, _⟩ := I.loc
    refine .cons (by rw [I.ok.kind]; decide) hf hn ?_ I.funs
    exact Heap.get?_none_of_le (Nat.le_trans I.ok.bsz I.ok.above)
theorem Inv.stkSub (I : Inv X pins σ H s) : ∀ b ∈ frs X.stack, b ∈ X.env.locals :: X.fs := fun b hb => by
  rcases I.ok.stk with e | ⟨e, hf⟩
  · rw [e] at hb; exact List.mem_cons_of_mem _ hb
  · rw [e] at hb
    unfold frs at hb
    rw [List.filterMap_cons, hf] at hb
    exact hb
theorem Inv.stkFree (I : Inv X pins σ H s) : ∀ b ∈ frs X.stack, H b = none := fun b hb => by
  rcases List.mem_cons.mp (I.stkSub b hb) with e | hb
  · rw [e]; exact I.free
  · obtain ⟨_, o, ho, _⟩ := I.ok.funs.mem hb
    exact I.base.free b o ho (I.ok.frf b hb) fun z => I.ok.exfs b z hb
theorem Inv.step {g' : Array GenState} {t' : Nat} {d' : Drawn} {ch : List Addr} (I : Inv X pins σ H s)
    (hch : ∀ b ∈ ch, (b ∈ X.ex ∨ X.s₀.heap.objs.size ≤ b) ∧ b ≠ X.env.locals ∧ (∀ x c, X.env.cells.lookup x = some c → c ≠ b) ∧ ∀ p ∈ X.pn ++ pins, p.1 ≠ b)
    (keep : ∀ b o, b ≠ X.env.locals → b ∉ X.fs → b ∉ ch → s.heap.get? b = some o → H b = none → h'.get? b = some o)
    (slot : ∀ b o, b ≠ X.env.locals → b ∈ X.fs → b ∉ ch → s.heap.get? b = some o → H b = none → ∃ sl, h'.get? b = some { o with slots := sl }) (free : ∀ b o, b ∉ ch → s.heap.get? b = some o → H b = none → H' b = none)
    (there : ∀ b o, b ∉ ch → s.heap.get? b = some o → ∃ o', h'.get? b = some o')
    (tups : ∀ b xs, H b = some (.tup xs) → H' b = some (.tup xs)) (frzs : ∀ b o u, H b = some (.frz o u) → H' b = some (.frz o u)) (tbls : ∀ b ps, H b = some (.tbl ps) → ∃ more, H' b = some (.tbl (ps ++ more)))
    (ns : ∀ m, s.heap.Ns X.env.locals m → h'.Ns X.env.locals m) (hok : HOk X.prog X.w H' h') (hg : AllBare g') :
    Inv X pins σ H' { s with heap := h', gens := g', drawn := d', toks := t' } := by
  have neL : ∀ b o, X.s₀.heap.get? b = some o → b ≠ X.env.locals := fun b o e => Nat.ne_of_lt (Nat.lt_of_lt_of_le (Heap.lt_size e) I.ok.above)
  have neC : ∀ b o, X.s₀.heap.get? b = some o → b ∉ X.ex → b ∉ ch := fun b o e hx hb => by
    rcases (hch b hb).1 with z | z
    · exact hx z
    · exact absurd (Nat.lt_of_lt_of_le (Heap.lt_size e) z) (Nat.lt_irrefl _)
  have cellK : ∀ x c, X.env.cells.lookup x = some c → ∀ v, s.heap.IsCell c v → h'.IsCell c v := fun x c e v ⟨o, ho, hd⟩ => by
    have nch : c ∉ ch := fun z => (hch c z).2.2.1 x c e rfl
    by_cases hc : c ∈ X.fs
    · obtain ⟨sl, q⟩ := slot c o (I.cne x c e) hc nch ho (I.freeC x c e)
      exact ⟨_, q, hd⟩
    · exact ⟨o, keep c o (I.cne x c e) hc nch ho (I.freeC x c e), hd⟩
  refine ⟨I.ok, I.os, hg, ⟨fun b o e n hb hx => ?_, fun b o e n hb hx => ?_, fun b o e n hx => ?_, fun b o e hx => ?_, fun b xs e => tups b xs (I.base.tups b xs e), fun b o xs e => frzs b o xs (I.base.frzs b o xs e), fun b ps e => ?_⟩, ?_, fun x c e => ?_, ?_, fun x c e => ?_, fun p hp => ?_, hok, I.len⟩
  · exact keep b o (neL b o e) hb (neC b o e hx) (I.base.keep b o e n hb hx) (I.base.free b o e n hx)
  · obtain ⟨sl, e1⟩ := I.base.slot b o e n hb hx
    obtain ⟨sl', e2⟩ := slot b _ (neL b o e) hb (neC b o e hx) e1 (I.base.free b o e n hx)
    exact ⟨sl', e2⟩
  · obtain ⟨o', e1⟩ := I.base.there b o e hx
    exact free b o' (neC b o e hx) e1 (I.base.free b o e n hx)
  · obtain ⟨o', e1⟩ := I.base.there b o e hx
    exact there b o' (neC b o e hx) e1
  · obtain ⟨m1, e1⟩ := I.base.tbls b ps e
    obtain ⟨m2, e2⟩ := tbls b _ e1
    exact ⟨m1 ++ m2, by rw [e2, Array.append_assoc]⟩
  · obtain ⟨m, hn, hl⟩ := I.loc
    refine ⟨m, ns m hn, fun i x v e1 e2 e3 => ?_⟩
    obtain ⟨u, r, l⟩ := hl i x v e1 e2 e3
    refine ⟨u, r, ?_⟩
    rcases l with l | ⟨k, c, e, z⟩
    · exact .inl l
    · exact .inr ⟨k, c, e, cellK x c e _ z⟩
  · obtain ⟨v, z⟩ := I.cell x c e
    exact ⟨v, cellK x c e v z⟩
  · obtain ⟨m, ⟨o, _, _, ho, _⟩, _⟩ := I.loc
    exact free _ o (fun z => (hch _ z).2.1 rfl) ho I.free
  · obtain ⟨v, o, ho, hd⟩ := I.cell x c e
    exact free c o (fun z => (hch c z).2.2.1 x c e rfl) ho (I.freeC x c e)
  · obtain ⟨e, n, ne, nf, d⟩ := I.pin p hp
    have nch : p.1 ∉ ch := fun z => (hch p.1 z).2.2.2 p hp rfl
    exact ⟨keep p.1 p.2 ne nf nch e n, free p.1 p.2 nch e n, ne, nf, d⟩
theorem Inv.un {t' : Nat} (I : Inv X pins σ H s) (u : Un X.fs [] H H' s.heap h') (hok : HOk X.prog X.w H' h') : Inv X pins σ H' { s with heap := h', toks := t' } := by
  obtain ⟨m, ⟨o, es, ep, ho, r⟩, _⟩ := id I.loc
  obtain ⟨sl, hL⟩ := u.any ho I.free (by simp)
  exact I.step (g' := s.gens) (d' := s.drawn) (ch := []) (fun _ z => nomatch z) (fun b o _ hb _ e n => u.keep b o e n hb (by simp)) (fun b o _ hb _ e n => u.slot b o e n hb (by simp)) (fun b o _ e n => u.free b o e n (by simp)) (fun b o _ e => u.there b o e (by simp)) u.tups u.frzs u.tbls (fun m' hm => by
    obtain ⟨o', es', ep', ho', r'⟩ := hm
    rw [ho] at ho'; cases ho'
    exact ⟨_, es', ep', hL, r'⟩) hok I.bare
theorem Inv.call {g' : Array GenState} {t' : Nat} {d' : Drawn} {ch : List Addr} (I : Inv X pins σ H s) (u : Un (frs X.stack) ch H H' s.heap h') (hok : HOk X.prog X.w H' h') (hg : AllBare g')
    (hch : ∀ b ∈ ch, (b ∈ X.ex ∨ X.s₀.heap.objs.size ≤ b) ∧ b ≠ X.env.locals ∧ (∀ x c, X.env.cells.lookup x = some c → c ≠ b) ∧ ∀ p ∈ X.pn ++ pins, p.1 ≠ b) :
    Inv X pins σ H' { s with heap := h', gens := g', drawn := d', toks := t' } := by
  obtain ⟨m, ⟨o, es, ep, ho, r⟩, _⟩ := id I.loc
  obtain ⟨sl, hL⟩ := u.any ho I.free fun z => (hch _ z).2.1 rfl
  exact I.step (ch := ch) hch (fun b o hL hb hc e n => u.keep b o e n (fun z => (List.mem_cons.mp (I.stkSub b z)).elim hL hb) hc) (fun b o _ _ hc e n => u.any e n hc) (fun b o hc e n => u.free b o e n hc) (fun b o hc e => u.there b o e hc) u.tups u.frzs u.tbls (fun m' hm => by
    obtain ⟨o', es', ep', ho', r'⟩ := hm
    rw [ho] at ho'; cases ho'
    exact ⟨_, es', ep', hL, r'⟩) hok hg
theorem Inv.turned {t' : Nat} {it : Addr} (I : Inv X pins σ H s) (k : ∀ b o, b ≠ it → s.heap.get? b = some o → h'.get? b = some o) (hn : H it = none) (hL : it ≠ X.env.locals)
    (h1 : it ∈ X.ex ∨ X.s₀.heap.objs.size ≤ it) (h2 : ∀ x c, X.env.cells.lookup x = some c → c ≠ it) (h3 : ∀ p ∈ X.pn ++ pins, p.1 ≠ it) : Inv X pins σ H { s with heap := h', toks := t' } := by
  have nit : ∀ b u, H b = some u → b ≠ it := fun b u e z => by rw [z, hn] at e; cases e
  refine I.step (g' := s.gens) (d' := s.drawn) (ch := [it]) (fun b hb => ?_) (fun b o _ _ hc e _ => k b o (fun z => hc (by simp [z])) e) (fun b o _ _ hc e _ => ⟨o.slots, k b o (fun z => hc (by simp [z])) e⟩) (fun _ _ _ _ n => n)
    (fun b o hc e => ⟨o, k b o (fun z => hc (by simp [z])) e⟩) (fun _ _ e => e) (fun _ _ _ e => e) (fun b ps e => ⟨#[], by rw [e]; simp⟩) (fun m hm => ?_) (fun b u e => ?_) I.bare
  · have e : b = it := by simpa using hb
    subst e
    exact ⟨h1, hL, h2, h3⟩
  · obtain ⟨o, es, ep, ho, r⟩ := hm
    exact ⟨o, es, ep, k _ o (Ne.symm hL) ho, r⟩
  · refine (I.hok b u e).stay (fun c v hc q => k c v ?_ q) (fun _ q => q) fun _ _ q => q
    rcases hc with z | z
    · rw [z]; exact nit b u e
    · exact nit c _ z
theorem Inv.tok (I : Inv X pins σ H s) (t : Nat) : Inv X pins σ H { s with toks := t } := I.un (h' := s.heap) (t' := t) Un.refl I.hok
theorem Inv.kept {t' : Nat} (I : Inv X pins σ H s) (k : ∀ b u, s.heap.get? b = some u → h'.get? b = some u) : Inv X pins σ H { s with heap := h', toks := t' } := I.un (Un.kept k) (I.hok.kept k)
theorem Inv.laid {a : Addr} {o : HO} {t' : Nat} (I : Inv X pins σ H s) (k : ∀ b u, s.heap.get? b = some u → h'.get? b = some u) (hp : s.heap.objs.size ≤ a) (new : ObjOk X.prog X.w (upd H a o) h' a o) :
    Inv X pins σ (upd H a o) { s with heap := h', toks := t' } := I.un (Un.laid k hp (I.hok.fresh hp)) (I.hok.laid k hp new)
theorem Inv.write {x e : Addr} {o : HO} {t' : Nat} (I : Inv X pins σ H s) (mu : Mut (H x)) (he : e = x ∨ H e = some (.own x)) (k : ∀ b u, b ≠ e → s.heap.get? b = some u → h'.get? b = some u) (heo : ∃ u, h'.get? e = some u)
    (new : ObjOk X.prog X.w (upd H x o) h' x o) : Inv X pins σ (upd H x o) { s with heap := h', toks := t' } := I.un (Un.write mu he k heo) (I.hok.write mu he k heo new)
theorem Inv.pins_of {pins' : List (Addr × Obj)} (I : Inv X pins σ H s) (h : ∀ p ∈ pins', s.heap.get? p.1 = some p.2 ∧ H p.1 = none ∧ p.1 ≠ X.env.locals ∧ p.1 ∉ X.fs ∧ ∀ v, p.2.data ≠ .cell v) : Inv X pins' σ H s :=
  ⟨I.ok, I.os, I.bare, I.base, I.loc, I.cell, I.free, I.freeC, fun p hp => (List.mem_append.mp hp).elim (fun z => I.pin p (List.mem_append_left _ z)) (h p), I.hok, I.len⟩
theorem nodup_ix {N : List Str} (hN : N.Nodup) {i j : Nat} {x : Str} (a : N[i]? = some x) (b : N[j]? = some x) : i = j := by
  obtain ⟨h1, e1⟩ := List.getElem?_eq_some_iff.mp a
  obtain ⟨h2, e2⟩ := List.getElem?_eq_some_iff.mp b
  exact (List.getElem_inj hN).mp (e1.trans e2.symm)
theorem store_ok2 {M : Model} {A : Around} {E : Value → Shared → Prop} {i : Nat} {x : Str} {v : V} {u : Value} {Q : Unit → Shared → Prop} (I : Inv X pins σ H s) (hN : X.N.Nodup) (hi : X.N[i]? = some x) (hx : Loc X.env.scope x) (r : RelV v u)
    (h : ∀ s', Inv X pins (σ.set i (some v)) H s' → (∃ a, Heap.SameBut a s.heap s'.heap ∧ (a = X.env.locals ∨ X.env.cells.lookup x = some a)) → Q () s') (hf : X.fn x = true ∨ X.env.scope.names.lookup x = some .local := by first | exact .inl rfl | exact .inr rfl | assumption) : wpAny M A (storeName X.env x u) Q E s := by
  obtain ⟨m, hn, hl⟩ := id I.loc
  have hcls : (X.env.scope.kind == .class || (X.env.scope.kind == .module && X.env.locals != X.env.globals)) = false := by rw [I.ok.kind]; rfl
  have hiσ : i < σ.length := by rw [I.len]; exact (List.getElem?_eq_some_iff.mp hi).1
  have cne := I.cne
  have tracked : ∀ {a : Addr} {h' : Heap}, (∃ o, s.heap.get? a = some o ∧ H a = none) → Heap.SameBut a s.heap h' → HOk X.prog X.w H h' := fun {a h'} ha hs b ob e => by
    obtain ⟨_, _, hfree⟩ := ha
    refine (I.hok b ob e).stay (fun c w' hc q => (hs.2 c ?_).trans q) (fun _ q => q) fun _ _ q => q
    rintro rfl
    rcases hc with rfl | hc
    · rw [hfree] at e; cases e
    · rw [hfree] at hc; cases hc
  rcases hx with hk | hk
  · refine wpAny_storeName_local hk hn (fun h' hn' hs => ?_) hcls
    obtain ⟨oL, _, _, hoL, _⟩ := id hn
    refine h _ ⟨I.ok, I.os, I.bare, ⟨fun b o e n hb hx => ?_, fun b o e n hb hx => ?_, I.base.free, fun b o e hx => ?_, I.base.tups, I.base.frzs, I.base.tbls⟩, ⟨_, hn', fun j y v' e1 e2 e3 => ?_⟩, fun y c e => ?_, I.free, I.freeC, fun p hp => ?_, tracked ⟨oL, hoL, I.free⟩ hs, by simpa using I.len⟩ ⟨_, hs, .inl rfl⟩
    · exact (hs.2 b (Nat.ne_of_lt (Nat.lt_of_lt_of_le (Heap.lt_size e) I.ok.above))).trans (I.base.keep b o e n hb hx)
    · obtain ⟨sl, e1⟩ := I.base.slot b o e n hb hx
      exact ⟨sl, (hs.2 b (Nat.ne_of_lt (Nat.lt_of_lt_of_le (Heap.lt_size e) I.ok.above))).trans e1⟩
    · obtain ⟨o', e1⟩ := I.base.there b o e hx
      exact ⟨o', (hs.2 b (Nat.ne_of_lt (Nat.lt_of_lt_of_le (Heap.lt_size e) I.ok.above))).trans e1⟩
    · by_cases hj : j = i
      · subst hj
        rw [hi] at e1; cases e1
        rw [List.getElem?_set_self hiσ] at e2
        cases e2
        exact ⟨u, r, .inl ⟨hk, by simp⟩⟩
      · rw [List.getElem?_set_ne (Ne.symm hj)] at e2
        obtain ⟨u', r', q⟩ := hl j y v' e1 e2 e3
        refine ⟨u', r', ?_⟩
        rcases q with ⟨k, e⟩ | ⟨k, c, e, z⟩
        · refine .inl ⟨k, ?_⟩
          have : y ≠ x := fun e => hj (nodup_ix hN e1 (e ▸ hi))
          simp [this, e]
        · exact .inr ⟨k, c, e, z.sameBut hs (cne y c e)⟩
    · obtain ⟨w', z⟩ := I.cell y c e
      exact ⟨w', z.sameBut hs (cne y c e)⟩
    · obtain ⟨e, n, ne, nf, d⟩ := I.pin p hp
      exact ⟨(hs.2 p.1 ne).trans e, n, ne, nf, d⟩
  · have hfn : X.fn x = true := by
      rcases hf with z | z
      · exact z
      · rw [z] at hk; cases hk
    obtain ⟨c, hc⟩ := I.ok.has x (.inl hk)
    obtain ⟨w', z⟩ := I.cell x c hc
    refine wpAny_storeName_cell I.ok.kind hk hc z (fun h' hc' hs => ?_)
    obtain ⟨oc, hoc, hocd⟩ := id z
    refine h { s with heap := h' } ⟨I.ok, I.os, I.bare, ⟨fun b o e n hb hx => ?_, fun b o e n hb hx => ?_, I.base.free, fun b o e hx => ?_, I.base.tups, I.base.frzs, I.base.tbls⟩, ⟨m, hn.sameBut hs (Ne.symm (cne x c hc)), fun j y v' e1 e2 e3 => ?_⟩, fun y c' e => ?_, I.free, I.freeC, fun p hp => ?_, tracked ⟨oc, hoc, I.freeC x c hc⟩ hs, by simpa using I.len⟩ ⟨c, hs, .inr hc⟩
    · exact (hs.2 b (Nat.ne_of_lt (Nat.lt_of_lt_of_le (Heap.lt_size e) (I.ok.cab x c hfn hc)))).trans (I.base.keep b o e n hb hx)
    · obtain ⟨sl, e1⟩ := I.base.slot b o e n hb hx
      exact ⟨sl, (hs.2 b (Nat.ne_of_lt (Nat.lt_of_lt_of_le (Heap.lt_size e) (I.ok.cab x c hfn hc)))).trans e1⟩
    · obtain ⟨o', e1⟩ := I.base.there b o e hx
      exact ⟨o', (hs.2 b (Nat.ne_of_lt (Nat.lt_of_lt_of_le (Heap.lt_size e) (I.ok.cab x c hfn hc)))).trans e1⟩
    · by_cases hj : j = i
      · subst hj
        rw [hi] at e1; cases e1
        rw [List.getElem?_set_self hiσ] at e2
        cases e2
        exact ⟨u, r, .inr ⟨.inl hk, c, hc, hc'⟩⟩
      · rw [List.getElem?_set_ne (Ne.symm hj)] at e2
        obtain ⟨u', r', q⟩ := hl j y v' e1 e2 e3
        refine ⟨u', r', ?_⟩
        rcases q with q | ⟨k, c', e, z'⟩
        · exact .inl q
        · refine .inr ⟨k, c', e, z'.sameBut hs ?_⟩
          rintro rfl
          exact hj (nodup_ix hN e1 (I.ok.inj _ _ _ e hc ▸ hi))
    · by_cases hcc : c' = c
      · subst hcc; exact ⟨_, hc'⟩
      · obtain ⟨w2, z2⟩ := I.cell y c' e
        exact ⟨w2, z2.sameBut hs hcc⟩
    · obtain ⟨e, n, ne, nf, d⟩ := I.pin p hp
      refine ⟨(hs.2 p.1 ?_).trans e, n, ne, nf, d⟩
      intro q
      rw [q, hoc] at e
      have q' : oc = p.2 := Option.some.inj e
      exact d w' (by rw [← q']; exact hocd)
theorem store_ok {M : Model} {A : Around} {E : Value → Shared → Prop} {i : Nat} {x : Str} {v : V} {u : Value} {Q : Unit → Shared → Prop} (I : Inv X pins σ H s) (hN : X.N.Nodup) (hi : X.N[i]? = some x) (hx : Loc X.env.scope x) (r : RelV v u)
    (h : ∀ s', Inv X pins (σ.set i (some v)) H s' → Q () s') (hf : X.fn x = true ∨ X.env.scope.names.lookup x = some .local := by first | exact .inl rfl | exact .inr rfl | assumption) : wpAny M A (storeName X.env x u) Q E s :=
  store_ok2 I hN hi hx r (fun s' I' _ => h s' I') hf
theorem Inv.call' {s' : Shared} {ch : List Addr} (I : Inv X pins σ H s) (ho : s'.os = s.os) (u : Un (frs X.stack) ch H H' s.heap s'.heap) (hok : HOk X.prog X.w H' s'.heap) (hg : AllBare s'.gens)
    (hch : ∀ b ∈ ch, (b ∈ X.ex ∨ X.s₀.heap.objs.size ≤ b) ∧ b ≠ X.env.locals ∧ (∀ x c, X.env.cells.lookup x = some c → c ≠ b) ∧ ∀ p ∈ X.pn ++ pins, p.1 ≠ b) : Inv X pins σ H' s' := by
  obtain ⟨h', g', d', t', o'⟩ := s'
  have e : o' = s.os := ho
  subst e
  exact I.call (g' := g') (t' := t') (d' := d') u hok hg hch
end
abbrev XK := Value → Option Addr → Hp → Prop
abbrev St := List (Option V)
abbrev VK := V → Hp → Prop
abbrev TE := St → Hp → VK → Prop
abbrev TT := St → Hp → (Bool → Hp → Prop) → Prop
abbrev TA := St → Hp → (List V → Hp → Prop) → Prop
structure Ends where
  nx : St → Hp → Prop
  rt : VK
  bk : St → Hp → Prop := fun _ _ => False
  ct : St → Hp → Prop := fun _ _ => False
abbrev TS := Ends → St → Hp → Prop
def EP (X : Cx) (pins : List (Addr × Obj)) (σ : St) (Q : VK) (u : Value) (s' : Shared) : Prop := ∃ v H', Inv X pins σ H' s' ∧ RelV v u ∧ Q v H'
def TP (X : Cx) (pins : List (Addr × Obj)) (σ : St) (Q : Bool → Hp → Prop) (b : Bool) (s' : Shared) : Prop := ∃ H', Inv X pins σ H' s' ∧ Q b H'
def AP (X : Cx) (pins : List (Addr × Obj)) (σ : St) (Q : List V → Hp → Prop) (us : List Value) (s' : Shared) : Prop := ∃ vs H', Inv X pins σ H' s' ∧ Vals vs us ∧ Q vs H'
def SP (X : Cx) (pins : List (Addr × Obj)) (D : Ends) (f : Flow) (s' : Shared) : Prop :=
  match f with
  | .next => ∃ σ' H', Inv X pins σ' H' s' ∧ D.nx σ' H'
  | .brk => ∃ σ' H', Inv X pins σ' H' s' ∧ D.bk σ' H'
  | .cont => ∃ σ' H', Inv X pins σ' H' s' ∧ D.ct σ' H'
  | .ret u => ∃ v σ' H', Inv X pins σ' H' s' ∧ RelV v u ∧ D.rt v H'
def PE (X : Cx) (e : Expr) (t : TE) : Prop :=
  ∀ (pins : List (Addr × Obj)) (s : Shared) (σ : St) (H : Hp) (Q : VK), Inv X pins σ H s → t σ H Q → wpAny (model X.prog X.w) X.A (eval e X.env) (EP X pins σ Q) X.xe s
def PT (X : Cx) (e : Expr) (t : TT) : Prop :=
  ∀ (pins : List (Addr × Obj)) (s : Shared) (σ : St) (H : Hp) (Q : Bool → Hp → Prop), Inv X pins σ H s → t σ H Q → wpAny (model X.prog X.w) X.A (isTrue e X.env (eval e X.env)) (TP X pins σ Q) X.xe s
def PW (X : Cx) (e : Expr) (t : TT) : Prop :=
  ∀ (whole : Sem Value) (pins : List (Addr × Obj)) (s : Shared) (σ : St) (H : Hp) (Q : Bool → Hp → Prop), Inv X pins σ H s → t σ H Q → wpAny (model X.prog X.w) X.A (isTrue e X.env whole) (TP X pins σ Q) X.xe s
theorem PW.pt {X : Cx} {e : Expr} {t : TT} (h : PW X e t) : PT X e t := h _
def PA (X : Cx) (es : List Expr) (t : TA) : Prop :=
  ∀ (pos : Pos) (pins : List (Addr × Obj)) (s : Shared) (σ : St) (H : Hp) (Q : List V → Hp → Prop), Inv X pins σ H s → t σ H Q → wpAny (model X.prog X.w) X.A (spliced (backTo pos (starEach es X.env))) (AP X pins σ Q) X.xe s
def PS (X : Cx) (st : Stmt) (t : TS) : Prop :=
  ∀ (pins : List (Addr × Obj)) (s : Shared) (σ : St) (H : Hp) (D : Ends), Inv X pins σ H s → t D σ H → wpAny (model X.prog X.w) X.A (exec st X.env) (SP X pins D) X.xe s
def PSs (X : Cx) (st : List Stmt) (t : TS) : Prop :=
  ∀ (pins : List (Addr × Obj)) (s : Shared) (σ : St) (H : Hp) (D : Ends), Inv X pins σ H s → t D σ H → wpAny (model X.prog X.w) X.A (execs st X.env) (SP X pins D) X.xe s
theorem thn {α : Type} {t : Sem α} {Q Q' : α → Shared → Prop} {M : Model} {A : Around} {E : Value → Shared → Prop} {s : Shared} (h : wpAny M A t Q E s) (hQ : ∀ a s, Q a s → Q' a s) : wpAny M A t Q' E s := wpAny_mono h hQ fun _ _ x => x
end L2
namespace L2
open PySem PySem.Spec PyProof.Rows
section
variable {X : Cx}
theorem bin {a b : Expr} {ta tb : TE} (ha : PE X a ta) (hb : PE X b tb) {pins : List (Addr × Obj)} {s : Shared} {σ : St} {H : Hp} {R : V → V → Hp → Prop} (I : Inv X pins σ H s) (h : ta σ H fun x H1 => tb σ H1 fun y H2 => R x y H2)
    {α : Type} {Q : α → Shared → Prop} {f : Value → Value → Sem α}
    (hf : ∀ v u s2 x y H2, Inv X pins σ H2 s2 → RelV x v → RelV y u → R x y H2 → wpAny (model X.prog X.w) X.A (f v u) Q X.xe s2) :
    wpAny (model X.prog X.w) X.A (eval a X.env) (fun v s₁ => wpAny (model X.prog X.w) X.A (eval b X.env) (fun u s₂ => wpAny (model X.prog X.w) X.A (f v u) Q X.xe s₂) X.xe s₁) X.xe s := by
  refine thn (ha pins s σ H _ I h) fun v s1 ⟨x, H1, I1, r1, q1⟩ => ?_
  refine thn (hb pins s1 σ H1 _ I1 q1) fun u s2 ⟨y, H2, I2, r2, q2⟩ => ?_
  exact hf v u s2 x y H2 I2 r1 r2 q2
def tVar (i : Nat) : TE := fun σ H Q => ∃ v, σ[i]? = some (some v) ∧ Q v H
def tC (v : V) : TE := fun _ H Q => Q v H
theorem pe_var {i : Nat} {x : Str} {pos : Pos} (hN : X.N[i]? = some x) (hv : Vis X.env.scope x) (hd : (x == ("__debug__" : Str)) = false := by decide) (hcd : (x == ("__classdict__" : Str)) = false := by decide) : PE X (.Name x pos) (tVar i) := by
  intro pins s σ H Q I h
  obtain ⟨v, e, h⟩ := h
  obtain ⟨m, hn, hl⟩ := I.loc
  obtain ⟨u, r, l⟩ := hl i x v hN e hv
  have fin : EP X pins σ Q u s := ⟨v, H, I, r, h⟩
  rcases l with ⟨hk, hm⟩ | ⟨hk, c, hc, hcell⟩
  · exact wpAny_Name (wpAny_loadName_local I.ok.kind hk hn hm fin) hd
  · rcases hk with hk | hk
    · exact wpAny_Name (wpAny_loadName_cell I.ok.kind hk hc hcell fin) hd
    · exact wpAny_Name (wpAny_loadName_free I.ok.kind hk hc hcell fin hcd) hd
theorem pe_int {i j pos} : PE X (.Constant (.int i) j pos) (tC (.int i)) := fun _ _ _ H _ I h => wpAny_Constant_int ⟨.int i, H, I.tok _, ⟨_, rfl⟩, h⟩
theorem pe_bl {b j pos} : PE X (.Constant (.bool b) j pos) (tC (.bl b)) := fun _ _ _ H _ I h => Constant_bool ⟨.bl b, H, I, rfl, h⟩
theorem pe_str {x j pos} : PE X (.Constant (.str x) j pos) (tC (.str x)) := fun _ _ _ H _ I h => Calls.Constant_str ⟨.str x, H, I.tok _, ⟨_, rfl⟩, h⟩
def Gl (X : Cx) (x : Str) : Prop := X.env.kindOf x = some .globalImplicit
theorem ld_glob {E : Value → Shared → Prop} {pins : List (Addr × Obj)} {s : Shared} {σ : St} {H : Hp} {x : Str} {u : Value} {pos : Pos} {Q : Value → Shared → Prop} (I : Inv X pins σ H s) (hg : Gl X x) (hm : X.mg x = some u) (h : Q u s)
    (hd : (x == ("__debug__" : Str)) = false := by decide) : wpAny (model X.prog X.w) X.A (eval (.Name x pos) X.env) Q E s :=
  Calls.Name_function_global I.ok.kind hg (Calls.loadGlobal_global (by rw [I.ok.glob]; exact I.mod.glob.keeps I.bk) hm h) hd
theorem ld_blt {E : Value → Shared → Prop} {pins : List (Addr × Obj)} {s : Shared} {σ : St} {H : Hp} {x : Str} {u : Value} {pos : Pos} {Q : Value → Shared → Prop} (I : Inv X pins σ H s) (hg : Gl X x) (hm : X.mg x = none) (hv : bootBuiltins x = some u) (h : Q u s)
    (hn : x ≠ "__name__" := by decide) (hd : (x == ("__debug__" : Str)) = false := by decide) : wpAny (model X.prog X.w) X.A (eval (.Name x pos) X.env) Q E s := by
  obtain ⟨mb, h1, h2⟩ := I.mod.blt
  exact Calls.Name_function_global I.ok.kind hg (Calls.loadGlobal_builtin (by rw [I.ok.glob]; exact I.mod.glob.keeps I.bk) hm (by rw [I.ok.blt]; exact h1.keeps I.bk) ((h2 x hn).trans hv) h) hd
theorem pe_bltn {x : Str} {v : V} {u : Value} {pos : Pos} (hg : Gl X x) (hm : X.mg x = none) (hv : bootBuiltins x = some u) (r : RelV v u) (hn : x ≠ "__name__" := by decide) (hd : (x == ("__debug__" : Str)) = false := by decide) : PE X (.Name x pos) (tC v) :=
  fun _ _ _ H _ I h => ld_blt I hg hm hv ⟨v, H, I, r, h⟩ hn hd
variable {a b : Expr} {ta tb : TE} {pos : Pos}
def PC (X : Cx) (op : CmpOp) (a b : Expr) (t : TE) : Prop :=
  ∀ (pins : List (Addr × Obj)) (s : Shared) (σ : St) (H : Hp) (Q : VK), Inv X pins σ H s → t σ H Q →
    wpAny (model X.prog X.w) X.A (eval a X.env) (fun v s₁ => wpAny (model X.prog X.w) X.A (eval b X.env) (fun u s₂ => wpAny (model X.prog X.w) X.A (compareOp op v u) (EP X pins σ Q) X.xe s₂) X.xe s₁) X.xe s
theorem nobehind (b : Expr) {op : CmpOp} (h : op ≠ .In) (h2 : op ≠ .NotIn) : behindInMarks op b = false := by
  have e1 : (op == CmpOp.In) = false := by cases op <;> first | rfl | exact absurd rfl h
  have e2 : (op == CmpOp.NotIn) = false := by cases op <;> first | rfl | exact absurd rfl h2
  cases b <;> simp [behindInMarks, e1, e2]
def tB (t : TE) : TT := fun σ H Q => t σ H fun x H1 => ∃ c, x = .bl c ∧ Q c H1
theorem pe_cmp {op : CmpOp} {t : TE} (h : PC X op a b t) (h1 : behindInMarks op b = false := by first | exact nobehind _ (by decide) (by decide) | rfl) : PE X (.Compare a [op] [b] pos) t := fun pins s σ H Q I hw => wpAny_Compare1 (h pins s σ H Q I hw) h1
theorem pt_cmp {op : CmpOp} {t : TE} (h : PC X op a b t) (h1 : behindInMarks op b = false := by first | exact nobehind _ (by decide) (by decide) | rfl) : PT X (.Compare a [op] [b] pos) (tB t) := by
  intro pins s σ H Q I hw
  refine wpAny_isTrue_Compare1 (thn (h pins s σ H _ I hw) fun v s1 h1 => thn h1 fun u s2 h2 => thn h2 fun c s3 ⟨x, H1, I1, r1, q1⟩ => ?_) h1
  obtain ⟨d, rfl, q⟩ := q1
  cases r1
  exact wpAny_truthy_bool ⟨H1, I1, q⟩
theorem pt_val {e : Expr} {t : TE} (h : PE X e t) (he : ∀ whole, isTrue e X.env whole = (do let v ← whole; standAt e.pos; holding [v] (truthy v)) := by intro _; rfl) : PT X e (tB t) := by
  intro pins s σ H Q I hw
  refine isTrue_plain (thn (h pins s σ H _ I hw) fun v s1 ⟨x, H1, I1, r1, q1⟩ => ?_) (he _)
  obtain ⟨d, rfl, q⟩ := q1
  cases r1
  exact wpAny_truthy_bool ⟨H1, I1, q⟩
variable {tA tB' : TT} {rest : List Expr}
def tAnd (t u : TT) : TT := fun σ H Q => t σ H fun c H1 => if c = true then u σ H1 Q else Q false H1
def tOr (t u : TT) : TT := fun σ H Q => t σ H fun c H1 => if c = true then Q true H1 else u σ H1 Q
def tNot (t : TT) : TT := fun σ H Q => t σ H fun c H1 => Q (!c) H1
theorem pw_and1 (ha : PT X a tA) : PW X (.BoolOp .And [a] pos) tA := by
  intro wh pins s σ H Q I h
  refine isTrue_and (thn (ha pins s σ H Q I h) fun c s1 e => ?_)
  cases c with
  | true => exact isTrue_and_nil e
  | false => exact e
theorem pw_or1 (ha : PT X a tA) : PW X (.BoolOp .Or [a] pos) tA := by
  intro wh pins s σ H Q I h
  refine isTrue_or (thn (ha pins s σ H Q I h) fun c s1 e => ?_)
  cases c with
  | false => exact isTrue_or_nil e
  | true => exact e
theorem pw_and (ha : PT X a tA) (hb : PW X (.BoolOp .And (b :: rest) pos) tB') : PW X (.BoolOp .And (a :: b :: rest) pos) (tAnd tA tB') := by
  intro wh pins s σ H Q I h
  refine isTrue_and (thn (ha pins s σ H _ I h) fun c s1 ⟨H1, I1, q1⟩ => ?_)
  cases c with
  | true => exact hb wh pins s1 σ H1 Q I1 q1
  | false => exact ⟨H1, I1, q1⟩
theorem pw_or (ha : PT X a tA) (hb : PW X (.BoolOp .Or (b :: rest) pos) tB') : PW X (.BoolOp .Or (a :: b :: rest) pos) (tOr tA tB') := by
  intro wh pins s σ H Q I h
  refine isTrue_or (thn (ha pins s σ H _ I h) fun c s1 ⟨H1, I1, q1⟩ => ?_)
  cases c with
  | true => exact ⟨H1, I1, q1⟩
  | false => exact hb wh pins s1 σ H1 Q I1 q1
theorem pt_not (ha : PT X a tA) : PT X (.UnaryOp .Not a pos) (tNot tA) := by
  intro pins s σ H Q I h
  exact isTrue_not (ha pins s σ H (fun c H1 => Q (!c) H1) I h)
def tAndV (ta tb : TE) : TE := fun σ H Q => ta σ H fun x H1 => ∃ c, x = .bl c ∧ if c = true then tb σ H1 Q else Q (.bl false) H1
def tOrV (ta tb : TE) : TE := fun σ H Q => ta σ H fun x H1 => ∃ c, x = .bl c ∧ if c = true then Q (.bl true) H1 else tb σ H1 Q
def tNotV (ta : TE) : TE := fun σ H Q => ta σ H fun x H1 => ∃ c, x = .bl c ∧ Q (.bl (!c)) H1
theorem pe_one {op} {t : TE} (h : PE X a t) : PE X (.BoolOp op [a] pos) t := fun pins s σ H Q I hw => BoolOp_one (h pins s σ H Q I hw)
theorem pe_and (ha : PE X a ta) (hb : PE X (.BoolOp .And (b :: rest) pos) tb) : PE X (.BoolOp .And (a :: b :: rest) pos) (tAndV ta tb) := by
  intro pins s σ H Q I h
  refine BoolOp_and (thn (ha pins s σ H _ I h) fun v s1 ⟨x, H1, I1, r1, q1⟩ => ?_)
  obtain ⟨c, rfl, q1⟩ := q1
  cases r1
  refine wpAny_truthy_bool ?_
  cases c with
  | true => exact hb pins s1 σ H1 Q I1 q1
  | false => exact ⟨.bl false, H1, I1, rfl, q1⟩
theorem pe_or (ha : PE X a ta) (hb : PE X (.BoolOp .Or (b :: rest) pos) tb) : PE X (.BoolOp .Or (a :: b :: rest) pos) (tOrV ta tb) := by
  intro pins s σ H Q I h
  refine BoolOp_or (thn (ha pins s σ H _ I h) fun v s1 ⟨x, H1, I1, r1, q1⟩ => ?_)
  obtain ⟨c, rfl, q1⟩ := q1
  cases r1
  refine wpAny_truthy_bool ?_
  cases c with
  | false => exact hb pins s1 σ H1 Q I1 q1
  | true => exact ⟨.bl true, H1, I1, rfl, q1⟩
theorem pe_not (ha : PE X a ta) : PE X (.UnaryOp .Not a pos) (tNotV ta) := by
  intro pins s σ H Q I h
  refine UnaryOp_ (thn (ha pins s σ H _ I h) fun v s1 ⟨x, H1, I1, r1, q1⟩ => ?_)
  obtain ⟨c, rfl, q1⟩ := q1
  cases r1
  exact not_of (wpAny_truthy_bool ⟨.bl (!c), H1, I1, rfl, q1⟩)
def tIf (t : TT) (ta tb : TE) : TE := fun σ H Q => t σ H fun c H1 => if c = true then ta σ H1 Q else tb σ H1 Q
theorem pe_ifExp {c : Expr} (hc : PT X c tA) (ha : PE X a ta) (hb : PE X b tb) : PE X (.IfExp c a b pos) (tIf tA ta tb) := by
  intro pins s σ H Q I h
  refine wpAny_IfExp (thn (hc pins s σ H _ I h) fun d s1 ⟨H1, I1, q1⟩ => ?_)
  cases d with
  | true => exact ha pins s1 σ H1 Q I1 q1
  | false => exact hb pins s1 σ H1 Q I1 q1
end
end L2
namespace L2
open PySem PySem.Spec PyProof.Rows
def SqL (K : PySem.W.Frag) (H : Hp) (a : Addr) (xs : List V) : Prop :=
  Rd H a (.lst xs) ∨
    ∃ (o : Obj) (its : Array Value) (n : Nat), K.lookup a = some o ∧ o.cls = .type "list" ∧ o.dict = none ∧ o.data = .seq its n ∧ its.size ≤ sizeLine ∧ Vals xs its.toList
def SqT (K : PySem.W.Frag) (H : Hp) (a : Addr) (xs : List V) : Prop :=
  Rd H a (.tup xs) ∨
    ∃ (o : Obj) (its : Array Value) (n : Nat), K.lookup a = some o ∧ o.cls = .type "tuple" ∧ o.data = .seq its n ∧ its.size ≤ sizeLine ∧ Vals xs its.toList
def absV : Value → Option V
  | .none => some .non
  | .bool b => some (.bl b)
  | .int i _ => some (.int i)
  | .str x _ => some (.str x)
  | .bytes b _ => some (.byt b)
  | .float b _ => some (.flt b)
  | .ref a => some (.ref a)
  | .type n => some (.ty n)
  | _ => none
theorem RelV.abs {x : V} {u : Value} (r : RelV x u) : absV u = some x := by
  cases x with
  | non => cases r; rfl
  | bl _ => cases r; rfl
  | int _ => obtain ⟨t, rfl⟩ := r; rfl
  | str _ => obtain ⟨t, rfl⟩ := r; rfl
  | byt _ => obtain ⟨t, rfl⟩ := r; rfl
  | flt _ => obtain ⟨t, rfl⟩ := r; rfl
  | ref _ => cases r; rfl
  | ty _ => cases r; rfl
theorem RelV.inj {x y : V} {u : Value} (r : RelV x u) (q : RelV y u) : x = y := Option.some.inj (r.abs.symm.trans q.abs)
theorem Vals.inj : ∀ {xs ys : List V} {us : List Value}, Vals xs us → Vals ys us → xs = ys
  | _, _, _, .nil, .nil => rfl
  | _, _, _, .cons r t, .cons r' t' => by rw [r.inj r', Vals.inj t t']
section
variable {X : Cx} {pins : List (Addr × Obj)} {σ : St} {H : Hp} {s : Shared} {a : Addr} {xs ys : List V}
theorem SqL.of {K : PySem.W.Frag} (h : H a = some (.lst xs)) : SqL K H a xs := .inl (.inl h)
theorem SqT.of {K : PySem.W.Frag} (h : H a = some (.tup xs)) : SqT K H a xs := .inl (.inl h)
theorem Inv.list (I : Inv X pins σ H s) (h : SqL X.K H a xs) : ∃ its : List Value, Vals xs its ∧ PlainL s.heap a its.toArray ∧ xs.length ≤ sizeLine := by
  rcases h with h | ⟨o, its, n, hk, hc, hd, hs, hz, r⟩
  · obtain ⟨z, its, n, r, e⟩ := h.ok I.hok
    exact ⟨its, r, ⟨_, n, e, rfl, rfl, rfl⟩, z⟩
  · refine ⟨its.toList, r, ⟨o, n, I.kIn a o hk, hc, hd, by simpa using hs⟩, ?_⟩
    have e := r.length
    simp only [Array.length_toList] at e
    omega
theorem Inv.tuple (I : Inv X pins σ H s) (h : SqT X.K H a xs) : ∃ its : List Value, Vals xs its ∧ IsTup s.heap a its.toArray ∧ xs.length ≤ sizeLine := by
  rcases h with h | ⟨o, its, n, hk, hc, hs, hz, r⟩
  · obtain ⟨z, its, r, p⟩ := h.ok I.hok
    exact ⟨its, r, p, z⟩
  · refine ⟨its.toList, r, ⟨o, I.kIn a o hk, hc, n, by simpa using hs⟩, ?_⟩
    have e := r.length
    simp only [Array.length_toList] at e
    omega
theorem Inv.list_inj (I : Inv X pins σ H s) (h : SqL X.K H a xs) (h' : SqL X.K H a ys) : xs = ys := by
  obtain ⟨its, r, ⟨o, n, e, _, _, d⟩, _⟩ := I.list h
  obtain ⟨its', r', ⟨o', n', e', _, _, d'⟩, _⟩ := I.list h'
  rw [e] at e'; cases e'
  rw [d] at d'
  injection d' with d1 _
  have : its = its' := by simpa using congrArg Array.toList d1
  subst this
  exact r.inj r'
theorem Inv.tuple_inj (I : Inv X pins σ H s) (h : SqT X.K H a xs) (h' : SqT X.K H a ys) : xs = ys := by
  obtain ⟨its, r, ⟨o, e, _, n, d⟩, _⟩ := I.tuple h
  obtain ⟨its', r', ⟨o', e', _, n', d'⟩, _⟩ := I.tuple h'
  rw [e] at e'; cases e'
  rw [d] at d'
  injection d' with d1 _
  have : its = its' := by simpa using congrArg Array.toList d1
  subst this
  exact r.inj r'
end
abbrev Cx.wish (X : Cx) (E : Value → Shared → Prop) : Cx := { X with xe := E }
abbrev Cx.nox (X : Cx) : Cx := X.wish fun _ _ => False
theorem Cx.Ok.wish {X : Cx} (ok : X.Ok) (E : Value → Shared → Prop) : (X.wish E).Ok :=
  ⟨ok.mod, ok.kind, ok.glob, ok.blt, ok.above, ok.inj, ok.has, ok.cab, ok.hd, ok.frames, ok.stk, ok.exf, ok.bs, ok.bsz, ok.noex, ok.exfs, ok.funs, ok.frf⟩
theorem Cx.Ok.unwish {X : Cx} {E : Value → Shared → Prop} (ok : (X.wish E).Ok) : X.Ok :=
  ⟨ok.mod, ok.kind, ok.glob, ok.blt, ok.above, ok.inj, ok.has, ok.cab, ok.hd, ok.frames, ok.stk, ok.exf, ok.bs, ok.bsz, ok.noex, ok.exfs, ok.funs, ok.frf⟩
section
variable {X : Cx} {pins : List (Addr × Obj)} {σ : St} {H : Hp} {s : Shared} {E : Value → Shared → Prop}
theorem Inv.wish (I : Inv X pins σ H s) (E : Value → Shared → Prop) : Inv (X.wish E) pins σ H s := ⟨I.ok.wish E, I.os, I.bare, I.base, I.loc, I.cell, I.free, I.freeC, I.pin, I.hok, I.len⟩
theorem Inv.unwish (I : Inv (X.wish E) pins σ H s) : Inv X pins σ H s := ⟨I.ok.unwish, I.os, I.bare, I.base, I.loc, I.cell, I.free, I.freeC, I.pin, I.hok, I.len⟩
theorem SP.unwish {D : Ends} {f : Flow} {s' : Shared} (h : SP (X.wish E) pins D f s') : SP X pins D f s' := by
  cases f with
  | next => obtain ⟨σ', H', I, q⟩ := h; exact ⟨σ', H', I.unwish, q⟩
  | brk => obtain ⟨σ', H', I, q⟩ := h; exact ⟨σ', H', I.unwish, q⟩
  | cont => obtain ⟨σ', H', I, q⟩ := h; exact ⟨σ', H', I.unwish, q⟩
  | ret u => obtain ⟨v, σ', H', I, r, q⟩ := h; exact ⟨v, σ', H', I.unwish, r, q⟩
theorem PE.nox {e : Expr} {t : TE} (h : PE X.nox e t) : PE X e t := fun pins s σ H Q I hw =>
  wpAny_mono (h pins s σ H Q (I.wish _) hw) (fun _ _ ⟨v, H', I', r, q⟩ => ⟨v, H', I'.unwish, r, q⟩) fun _ _ z => False.elim z
theorem PT.nox {e : Expr} {t : TT} (h : PT X.nox e t) : PT X e t := fun pins s σ H Q I hw =>
  wpAny_mono (h pins s σ H Q (I.wish _) hw) (fun _ _ ⟨H', I', q⟩ => ⟨H', I'.unwish, q⟩) fun _ _ z => False.elim z
theorem PSs.nox {st : List Stmt} {t : TS} (h : PSs X.nox st t) : PSs X st t := fun pins s σ H D I hw =>
  wpAny_mono (h pins s σ H D (I.wish _) hw) (fun _ _ q => q.unwish) fun _ _ z => False.elim z
end
section
variable {X : Cx} {st : Stmt} {rest : List Stmt} {t u : TS} {e : Expr} {te : TE} {pos : Pos}
def tNext : TS := fun D σ H => D.nx σ H
def tSeq (t u : TS) : TS := fun D σ H => t { D with nx := u D } σ H
theorem pss_nil : PSs X [] tNext := fun _ _ σ H _ I h => wpAny_execs_nil ⟨σ, H, I, h⟩
theorem pss_cons (h1 : PS X st t) (h2 : PSs X rest u) : PSs X (st :: rest) (tSeq t u) := by
  intro pins s σ H D I h
  refine wpAny_execs_cons (thn (h1 pins s σ H { D with nx := u D } I h) fun f s1 q => ?_)
  cases f with
  | next =>
    obtain ⟨σ', H', I', q⟩ := q
    exact h2 pins s1 σ' H' D I' q
  | ret v => exact q
  | brk => exact q
  | cont => exact q
theorem pss_one (h1 : PS X st t) : PSs X [st] t := by
  intro pins s σ H D I h
  refine wpAny_execs_cons (thn (h1 pins s σ H D I h) fun f s1 q => ?_)
  cases f with
  | next => exact wpAny_execs_nil q
  | ret v => exact q
  | brk => exact q
  | cont => exact q
theorem Inv.quiet {pins : List (Addr × Obj)} {σ : St} {H : Hp} {s : Shared} (I : Inv X pins σ H s) : interactive X.env = false := by simp [interactive, I.ok.kind]
def tDrop (te : TE) : TS := fun D σ H => te σ H fun _ H1 => D.nx σ H1
theorem ps_expr (he : PE X e te) (hs : swapsWith e none pos.line X.env = pure false := by rfl) : PS X (.Expr e pos) (tDrop te) := by
  intro pins s σ H D I h
  exact wpAny_Expr_any (thn (he pins s σ H _ I h) fun v s1 ⟨x, H1, I1, r1, q1⟩ => ⟨σ, H1, I1, q1⟩) I.quiet hs
def tRet (te : TE) : TS := fun D σ H => te σ H D.rt
theorem ps_ret (he : PE X e te) : PS X (.Return (some e) pos) (tRet te) := by
  intro pins s σ H D I h
  exact wpAny_Return_some (thn (he pins s σ H _ I h) fun v s1 ⟨x, H1, I1, r1, q1⟩ => ⟨x, σ, H1, I1, r1, q1⟩)
def tIfS (c : TT) (t u : TS) : TS := fun D σ H => c σ H fun b H1 => if b = true then t D σ H1 else u D σ H1
theorem ps_if {c : Expr} {a b : List Stmt} {tc : TT} (hc : PT X c tc) (ha : PSs X a t) (hb : PSs X b u) : PS X (.If c a b pos) (tIfS tc t u) := by
  intro pins s σ H D I h
  refine wpAny_If (thn (hc pins s σ H _ I h) fun d s1 ⟨H1, I1, q1⟩ => ?_)
  cases d with
  | true => exact ha pins s1 σ H1 D I1 q1
  | false => exact hb pins s1 σ H1 D I1 q1
end
abbrev TG := V → St → Hp → (St → Hp → Prop) → Prop
abbrev TGs := List V → St → Hp → (St → Hp → Prop) → Prop
def PG (X : Cx) (target : Expr) (t : TG) : Prop :=
  ∀ (pins : List (Addr × Obj)) (s : Shared) (σ : St) (H : Hp) (v : V) (u : Value) (Q : St → Hp → Prop), Inv X pins σ H s → RelV v u → t v σ H Q →
    wpAny (model X.prog X.w) X.A (assign target X.env u) (fun _ s' => ∃ σ' H', Inv X pins σ' H' s' ∧ Q σ' H') X.xe s
def PGs (X : Cx) (ts : List Expr) (t : TGs) : Prop :=
  ∀ (pins : List (Addr × Obj)) (s : Shared) (σ : St) (H : Hp) (vs : List V) (us : List Value) (Q : St → Hp → Prop), Inv X pins σ H s → Vals vs us → t vs σ H Q →
    wpAny (model X.prog X.w) X.A (assignInOrder ((assignEach ts X.env).map (·.2)) us) (fun _ s' => ∃ σ' H', Inv X pins σ' H' s' ∧ Q σ' H') X.xe s
abbrev TSet := V → V → V → Hp → (Hp → Prop) → Prop
def PSet (X : Cx) (t : TSet) : Prop :=
  ∀ (pins : List (Addr × Obj)) (s : Shared) (σ : St) (H : Hp) (o i v : V) (ov iv u : Value) (Q : Hp → Prop), Inv X pins σ H s → RelV o ov → RelV i iv → RelV v u → t o i v H Q →
    wpAny (model X.prog X.w) X.A (setItem ov iv u) (fun _ s' => ∃ H', Inv X pins σ H' s' ∧ Q H') X.xe s
section
variable {X : Cx} {pos : Pos}
def gName (i : Nat) : TG := fun v σ H Q => Q (σ.set i (some v)) H
theorem pg_name {i : Nat} {x : Str} (hN : X.N.Nodup) (hi : X.N[i]? = some x) (hx : Loc X.env.scope x) (hf : X.fn x = true ∨ X.env.scope.names.lookup x = some .local := by first | exact .inl rfl | exact .inr rfl | assumption) : PG X (.Name x pos) (gName i) := by
  intro pins s σ H v u Q I r h
  exact wpAny_assign_Name (store_ok I hN hi hx r (fun s' I' => ⟨_, H, I', h⟩) hf)
def gNil : TGs := fun vs σ H Q => vs = [] ∧ Q σ H
def gCons (t : TG) (u : TGs) : TGs := fun vs σ H Q => ∃ v r, vs = v :: r ∧ t v σ H fun σ' H' => u r σ' H' Q
theorem pgs_nil : PGs X [] gNil := by
  intro pins s σ H vs us Q I r h
  obtain ⟨e, h⟩ := h
  subst e
  cases r
  exact assignInOrder_nil ⟨σ, H, I, h⟩
theorem pgs_cons {e : Expr} {es : List Expr} {t : TG} {u : TGs} (h1 : PG X e t) (h2 : PGs X es u)
    (hs : (assignEach (e :: es) X.env).map (·.2) = assign e X.env :: (assignEach es X.env).map (·.2) := by rfl) : PGs X (e :: es) (gCons t u) := by
  intro pins s σ H vs us Q I r h
  obtain ⟨v, vr, e1, h⟩ := h
  subst e1
  cases r with
  | cons r rr =>
    rw [hs]
    refine assignInOrder_cons (thn (h1 pins s σ H _ _ _ I r h) fun _ s1 ⟨σ1, H1, I1, q1⟩ => ?_)
    exact h2 pins s1 σ1 H1 _ _ Q I1 rr q1
def gTup (K : PySem.W.Frag) (n : Nat) (t : TGs) : TG := fun v σ H Q => ∃ a xs, v = .ref a ∧ SqT K H a xs ∧ xs.length = n ∧ t xs σ H Q
theorem pg_tup {es : List Expr} {k : Nat} {t : TGs} {n : Nat} (hc : X.calm = true) (h : PGs X es t)
    (hn : (assignEach es X.env).length = n := by rfl) (hst : (assignEach es X.env).findIdx? (·.1) = none := by rfl) : PG X (.Tuple es k pos) (gTup X.K n t) := by
  intro pins s σ H v u Q I r hw
  obtain ⟨a, xs, e1, hq, hl, hw⟩ := hw
  subst e1
  cases r
  obtain ⟨its, rv, ht, hz⟩ := I.tuple hq
  refine assign_Tuple_tuple (I.ok.hd hc) ht (by simp [hn, ← hl, rv.length]) hst fun h' hx => ?_
  have I1 : Inv X pins σ H { s with heap := h' } := I.kept (t' := s.toks) fun b o e => hx b o (Nat.ne_of_lt (Heap.lt_size e)) e
  exact h pins _ σ H xs _ Q I1 (by simpa using rv) hw
def gSub (to ti : TE) (t : TSet) : TG := fun v σ H Q => to σ H fun o H1 => ti σ H1 fun i H2 => t o i v H2 fun H3 => Q σ H3
theorem pg_sub {o i : Expr} {to ti : TE} {t : TSet} (ho : PE X o to) (hi : PE X i ti) (hs : PSet X t)
    (ha : ∀ v, assign (.Subscript o i pos) X.env v = (do
      let ov ← holding [v] (eval o X.env)
      let iv ← holding [v, ov] (eval i X.env)
      standAt pos
      holding [v, ov, iv] (setItem ov iv v)
      release [v, ov, iv] []) := by intro _; rfl) : PG X (.Subscript o i pos) (gSub to ti t) := by
  intro pins s σ H v u Q I r h
  rw [ha]
  refine wpAny_bind (wpAny_holding (thn (ho pins s σ H _ I h) fun ov s1 ⟨x, H1, I1, r1, q1⟩ => ?_))
  refine wpAny_bind (wpAny_holding (thn (hi pins s1 σ H1 _ I1 q1) fun iv s2 ⟨y, H2, I2, r2, q2⟩ => ?_))
  refine wpAny_bind (wpAny_standAt (wpAny_bind (wpAny_holding (thn (hs pins s2 σ H2 x y v ov iv u _ I2 r1 r2 r q2) fun _ s3 ⟨H3, I3, q3⟩ => ?_))))
  exact wpAny_release ⟨σ, H3, I3, q3⟩
def tAsg (te : TE) (g : TG) : TS := fun D σ H => te σ H fun x H1 => g x σ H1 D.nx
theorem ps_asg {tg e : Expr} {te : TE} {g : TG} (he : PE X e te) (hg : PG X tg g) (hs : swapsWithSole [tg] e pos.line X.env = pure false := by rfl) (hw : swappedStores [tg] e X.env = pure none := by rfl)
    (h1 : (assignEach [tg] X.env).map (·.2) = [assign tg X.env] := by rfl) : PS X (.Assign [tg] e pos) (tAsg te g) := by
  intro pins s σ H D I h
  refine wpAny_Assign_stores (thn (he pins s σ H _ I h) fun v s1 ⟨x, H1, I1, r1, q1⟩ => ?_) hs hw
  rw [h1]
  exact thn (hg pins s1 σ H1 x v _ I1 r1 q1) fun _ s2 q => q
theorem ps_set {i : Nat} {x : Str} {e : Expr} {te : TE} {pos' : Pos} (hN : X.N.Nodup) (hi : X.N[i]? = some x) (hx : Loc X.env.scope x) (he : PE X e te) (hs : swapsWith e (some (.Name x pos')) pos.line X.env = pure false := by rfl) (hf : X.fn x = true ∨ X.env.scope.names.lookup x = some .local := by first | exact .inl rfl | exact .inr rfl | assumption) :
    PS X (.Assign [.Name x pos'] e pos) (tAsg te (gName i)) := by
  intro pins s σ H D I h
  refine wpAny_Assign_Name (thn (he pins s σ H _ I h) fun v s1 ⟨y, H1, I1, r1, q1⟩ => ?_) hs
  exact store_ok I1 hN hi hx r1 (fun s2 I2 => ⟨_, H1, I2, q1⟩) hf
def tPar (i j : Nat) (ta : TA) : TS := fun D σ H => ta σ H fun vs H1 => ∃ v w, vs = [v, w] ∧ D.nx ((σ.set i (some v)).set j (some w)) H1
theorem ps_par {i j : Nat} {x y : Str} {a b : Expr} {ta : TA} {px py pt : Pos} {kt k2 pt2} (hc : X.calm = true) (hN : X.N.Nodup) (hi : X.N[i]? = some x) (hj : X.N[j]? = some y) (hij : i ≠ j)
    (hx : X.env.scope.names.lookup x = some .local) (hy : X.env.scope.names.lookup y = some .local) (ha : PA X [a, b] ta)
    (hw : swappedStores [.Tuple [.Name x px, .Name y py] kt pt] (.Tuple [a, b] k2 pt2) X.env = pure (some [x, y]))
    (hs : swapsWithSole [.Tuple [.Name x px, .Name y py] kt pt] (.Tuple [a, b] k2 pt2) pos.line X.env = pure false := by rfl) :
    PS X (.Assign [.Tuple [.Name x px, .Name y py] kt pt] (.Tuple [a, b] k2 pt2) pos) (tPar i j ta) := by
  intro pins s σ H D I h
  rw [exec_Assign_arm]
  refine wpAny_bind (wpAny_standAt ?_)
  rw [hs]
  refine wpAny_bind (wpAny_pure ?_)
  rw [if_neg (by decide)]
  refine wpAny_bind (Tuple_ (thn (ha _ pins s σ H _ I h) fun us s1 ⟨vs, H1, I1, r1, q1⟩ => ?_))
  obtain ⟨v, w, e1, q1⟩ := q1
  subst e1
  obtain ⟨u1, u2, rfl, rv, rw'⟩ : ∃ u1 u2, us = [u1, u2] ∧ RelV v u1 ∧ RelV w u2 := by
    cases r1 with
    | cons p q =>
      cases q with
      | cons p' q' =>
        cases q'
        exact ⟨_, _, rfl, p, p'⟩
  refine wpAny_newObj_type ?_ (by show 2 ≤ sizeLine; decide)
  have I2 : Inv X pins σ H1 { s1 with heap := s1.heap.push { cls := .type "tuple", data := .seq [u1, u2].toArray } } := I1.kept (t' := s1.toks) fun b o e => Heap.get?_push_of_some _ e
  rw [hw]
  refine wpAny_bind (wpAny_pure ?_)
  show wpAny (model X.prog X.w) X.A (do rule "assign.swapped-stores"; let items ← unpackItems (.ref s1.heap.objs.size) 2 none; assignInOrder [fun v => bindName X.env y v, fun v => bindName X.env x v] items.reverse; pure Flow.next) _ _ _
  refine wpAny_bind (wpAny_rule (wpAny_bind (unpackItems_tuple (items := #[u1, u2]) (I.ok.hd hc) (IsTup.new s1.heap _) fun h' hx' => ?_)))
  have I3 := I2.kept (h' := h') (t' := s1.toks) fun b o e => hx' b o (Nat.ne_of_lt (Heap.lt_size e)) e
  show wpAny _ _ (assignInOrder [fun v => bindName X.env y v, fun v => bindName X.env x v] [u2, u1] >>= fun _ => pure Flow.next) _ _ _
  refine wpAny_bind (assignInOrder_cons (wpAny_bindName (store_ok I3 hN hj (.inl hy) rw' (fun s2 I4 => ?_) (.inr hy))))
  refine assignInOrder_cons (wpAny_bindName (store_ok I4 hN hi (.inl hx) rv (fun s3 I5 => assignInOrder_nil (wpAny_pure ?_)) (.inr hx)))
  rw [List.set_comm _ _ (Ne.symm hij)] at I5
  exact ⟨_, H1, I5, q1⟩
end
section
variable {X : Cx} {pos : Pos}
def tWhile (c : TT) (tb : TS) : TS := fun D σ H => ∃ W : Nat → St → Hp → Prop, (∃ m, W m σ H) ∧ ∀ m σ H, W m σ H →
  c σ H fun b H1 => if b = true then ∃ N : St → Hp → Prop, (∀ σ' H', N σ' H' → ∃ m', m' < m ∧ W m' σ' H') ∧ tb { D with nx := N, ct := N, bk := D.nx } σ H1 else D.nx σ H1
theorem ps_while {c : Expr} {body : List Stmt} {tc : TT} {tb : TS} (hp : PassesOwn (model X.prog X.w) X.A X.env X.xe) (hc : PT X c tc) (hb : PSs X body tb) : PS X (.While c body [] pos) (tWhile tc tb) := by
  intro pins s σ H D I h
  obtain ⟨W, ⟨m0, w0⟩, turn⟩ := h
  refine wpAny_While (codeAny_whileLoop (fun n s' => ∃ σ' H', Inv X pins σ' H' s' ∧ W n σ' H') ?_ m0 ⟨σ, H, I, w0⟩)
  rintro n s1 ⟨σ1, H1, I1, w1⟩
  refine wpAny_passesOwn hp (thn (hc pins s1 σ1 H1 _ I1 (turn n σ1 H1 w1)) fun b s2 ⟨H2, I2, q2⟩ => ?_)
  cases b with
  | true =>
    obtain ⟨N, hN, q2⟩ := q2
    rw [if_pos rfl]
    refine wpAny_passesOwn hp (thn (hb pins s2 σ1 H2 _ I2 q2) fun f s3 q3 => ?_)
    cases f with
    | next =>
      obtain ⟨σ3, H3, I3, n3⟩ := q3
      obtain ⟨m', hm, w3⟩ := hN σ3 H3 n3
      exact ⟨m', hm, σ3, H3, I3, w3⟩
    | cont =>
      obtain ⟨σ3, H3, I3, n3⟩ := q3
      obtain ⟨m', hm, w3⟩ := hN σ3 H3 n3
      exact ⟨m', hm, σ3, H3, I3, w3⟩
    | brk => exact q3
    | ret v => exact q3
  | false =>
    rw [if_neg Bool.false_ne_true]
    exact wpAny_execs_nil ⟨σ1, H2, I2, q2⟩
end
structure It where
  go : Nat → Hp → Prop
  yld : Nat → Hp → V → Hp → Prop
  stop : Nat → Hp → Prop
def FpOk (X : Cx) (pins : List (Addr × Obj)) (H : Hp) (b : Addr) : Prop :=
  H b = none ∧ b ≠ X.env.locals ∧ b ∉ X.fs ∧ (b ∈ X.ex ∨ X.s₀.heap.objs.size ≤ b) ∧ (∀ x c, X.env.cells.lookup x = some c → c ≠ b) ∧ ∀ p ∈ X.pn ++ pins, p.1 ≠ b
theorem Inv.fpOk {X : Cx} {pins : List (Addr × Obj)} {σ : St} {H H' : Hp} {s : Shared} {b : Addr} (I : Inv X pins σ H s) (hb : s.heap.objs.size ≤ b) (hn : H' b = none) : FpOk X pins H' b := by
  refine ⟨hn, Nat.ne_of_gt (Nat.lt_of_lt_of_le I.lt hb), I.nofs hb, .inr (Nat.le_trans I.sz hb), fun x c e z => ?_, fun p hp z => ?_⟩
  · obtain ⟨v, q⟩ := I.cell x c e
    exact absurd (Nat.lt_of_lt_of_le q.lt (by rw [z]; exact hb)) (Nat.lt_irrefl _)
  · exact absurd (Nat.lt_of_lt_of_le (Heap.lt_size (I.pin p hp).1) (by rw [z]; exact hb)) (Nat.lt_irrefl _)
structure Turn (P : Program) (w : World) (K : PySem.W.Frag) (tg : Expr) (J : It) (fp : List Addr) (it : Addr) (tn : Nat → Heap → Prop) : Prop where
  mem : it ∈ fp
  obj : ∀ i h, tn i h → ∀ b ∈ fp, ∃ o, h.get? b = some o ∧ ∀ v, o.data ≠ .cell v
  keep : ∀ i h h', tn i h → (∀ b ∈ fp, ∀ o, h.get? b = some o → h'.get? b = some o) → tn i h'
  item : ∀ (X : Cx), X.prog = P → X.w = w → X.K = K → X.calm = true → ∀ (i : Nat) (pins : List (Addr × Obj)) (s : Shared) (σ : St) (H : Hp) (E : Value → Shared → Prop), Inv X pins σ H s → (∀ b ∈ fp, FpOk X pins H b) → tn i s.heap → J.go i H →
    wpAny (model P w) X.A (pyNext (.ref it)) (fun r s1 => ∃ u, r = some u ∧
      wpAny (model P w) X.A (letOwnedTupleGo tg (.ref it) u) (fun _ s2 => ∃ x H', Inv X pins σ H' s2 ∧ RelV x u ∧ J.yld i H x H' ∧ tn (i + 1) s2.heap ∧ ∀ b ∈ fp, H' b = none) E s1) E s
  done : ∀ (X : Cx), X.prog = P → X.w = w → X.K = K → X.calm = true → ∀ (i : Nat) (pins : List (Addr × Obj)) (s : Shared) (σ : St) (H : Hp) (E : Value → Shared → Prop), Inv X pins σ H s → (∀ b ∈ fp, FpOk X pins H b) → tn i s.heap → J.stop i H →
    wpAny (model P w) X.A (pyNext (.ref it)) (fun r s1 => r = none ∧ Inv X pins σ H s1) E s
  self : ∀ (A : Around) (i : Nat) (s : Shared) (Q : Value → Shared → Prop) (E : Value → Shared → Prop), tn i s.heap → Q (.ref it) s → wpAny (model P w) A (pyIter (.ref it)) Q E s
abbrev TI := St → Hp → (It → Hp → Prop) → Prop
def PIE (X : Cx) (pins : List (Addr × Obj)) (σ : St) (tg : Expr) (R : It → Hp → Prop) (itv : Value) (s2 : Shared) : Prop :=
  ∃ (it : Addr) (fp : List Addr) (tn : Nat → Heap → Prop) (J : It) (H' : Hp), itv = .ref it ∧ Inv X pins σ H' s2 ∧ Turn X.prog X.w X.K tg J fp it tn ∧ tn 0 s2.heap ∧ (∀ b ∈ fp, FpOk X pins H' b) ∧ R J H'
def PI (X : Cx) (tg iter : Expr) (wi : TI) : Prop :=
  ∀ (pins : List (Addr × Obj)) (s : Shared) (σ : St) (H : Hp) (R : It → Hp → Prop), Inv X pins σ H s → wi σ H R →
    wpAny (model X.prog X.w) X.A (eval iter X.env) (fun v s1 => wpAny (model X.prog X.w) X.A (pyIter v) (PIE X pins σ tg R) X.xe s1) X.xe s
theorem go_of {M : Model} {A : Around} {E : Value → Shared → Prop} {s : Shared} {tg : Expr} {it : Addr} {u : Value} {o : Obj} {n : String} {vs : Array Value} {Q : Unit → Shared → Prop} (ho : s.heap.get? it = some o) (hc : o.cls = .type n) (hd : o.data = .fields vs)
    (hn : ["enumerate", "zip", "dict_itemiterator", "dict_reverseitemiterator", "odict_iterator", "itertools.zip_longest", "itertools.pairwise"].contains n = false) (hQ : Q () s) : wpAny M A (letOwnedTupleGo tg (.ref it) u) Q E s := by
  unfold letOwnedTupleGo
  cases tg <;> first
    | exact wpAny_pure hQ
    | (cases u <;> first
        | exact wpAny_pure hQ
        | (refine wpAny_bind (wpAny_load ho ?_)
           rw [hc, hd]
           show wpAny M A (if (["enumerate", "zip", "dict_itemiterator", "dict_reverseitemiterator", "odict_iterator", "itertools.zip_longest", "itertools.pairwise"].contains n && vs[0]? == some (rawInt _)) = true then _ else _) Q E s
           rw [if_neg (by intro h; rw [hn, Bool.false_and] at h; cases h)]
           exact wpAny_pure hQ))
def Itl (K : PySem.W.Frag) (a : Addr) : It :=
  ⟨fun i H => ∃ xs x, SqL K H a xs ∧ xs[i]? = some x, fun i H x H' => H' = H ∧ ∀ xs, SqL K H a xs → xs[i]? = some x, fun i H => ∃ xs, SqL K H a xs ∧ xs.length ≤ i⟩
def Itt (K : PySem.W.Frag) (a : Addr) : It :=
  ⟨fun i H => ∃ xs x, SqT K H a xs ∧ xs[i]? = some x, fun i H x H' => H' = H ∧ ∀ xs, SqT K H a xs → xs[i]? = some x, fun i H => ∃ xs, SqT K H a xs ∧ xs.length ≤ i⟩
def Itr (lo : Int) (n : Nat) : It := ⟨fun i _ => i < n, fun i H x H' => H' = H ∧ x = .int (lo + i), fun i _ => n ≤ i⟩
theorem turn_list {P : Program} {w : World} {K : PySem.W.Frag} {tg : Expr} (a it : Addr) : Turn P w K tg (Itl K a) [it] it (fun i h => h.IsListIter it a i) where
  mem := by simp
  obj := fun i h st b hb => by
    have e : b = it := by simpa using hb
    subst e
    obtain ⟨o, e, c, d⟩ := st
    exact ⟨o, e, fun v z => by rw [d] at z; cases z⟩
  keep := fun i h h' st k => st.at fun o e => k it (by simp) o e
  item := by
    intro X hP hw hK hc i pins s σ H E I hf st hg
    subst hP hw hK
    obtain ⟨xs, x, hq, hx⟩ := hg
    obtain ⟨its, rv, p, hz⟩ := I.list hq
    obtain ⟨u, hu, ru⟩ := rv.get hx
    obtain ⟨f0, f1, f2, f3, f4, f5⟩ := hf it (by simp)
    refine wpAny_pyNext_list_item st p.isList (x := u) (by simpa using hu) fun h' st' sb => ?_
    have I1 : Inv X pins σ H { s with heap := h' } := I.turned (t' := s.toks) (fun b o hb e => (sb.2 b hb).trans e) f0 f1 f3 f4 f5
    obtain ⟨o, e, c, d⟩ := id st'
    exact ⟨u, rfl, go_of (s := { s with heap := h' }) e c d (by decide) ⟨x, H, I1, ru, ⟨rfl, fun ys hy => by rw [I.list_inj hy hq]; exact hx⟩, st', fun b hb => (hf b hb).1⟩⟩
  done := by
    intro X hP hw hK hc i pins s σ H E I hf st hg
    subst hP hw hK
    obtain ⟨xs, hq, hx⟩ := hg
    obtain ⟨its, rv, p, hz⟩ := I.list hq
    obtain ⟨f0, f1, f2, f3, f4, f5⟩ := hf it (by simp)
    have hl := rv.length
    exact wpAny_pyNext_list_end (I.ok.hd hc) st p.isList (by simp; omega) fun h' eb => ⟨rfl, I.turned (t' := s.toks) (fun b o hb e => eb b o hb e) f0 f1 f3 f4 f5⟩
  self := fun _ _ _ _ _ st h => wpAny_pyIter_listiter st h
theorem turn_tuple {P : Program} {w : World} {K : PySem.W.Frag} {tg : Expr} (a it : Addr) : Turn P w K tg (Itt K a) [it] it (fun i h => h.IsTupleIter it a i) where
  mem := by simp
  obj := fun i h st b hb => by
    have e : b = it := by simpa using hb
    subst e
    obtain ⟨o, e, c, d⟩ := st
    exact ⟨o, e, fun v z => by rw [d] at z; cases z⟩
  keep := fun i h h' st k => st.at fun o e => k it (by simp) o e
  item := by
    intro X hP hw hK hc i pins s σ H E I hf st hg
    subst hP hw hK
    obtain ⟨xs, x, hq, hx⟩ := hg
    obtain ⟨its, rv, p, hz⟩ := I.tuple hq
    obtain ⟨u, hu, ru⟩ := rv.get hx
    obtain ⟨f0, f1, f2, f3, f4, f5⟩ := hf it (by simp)
    refine wpAny_pyNext_tuple_item st (show s.heap.IsTuple a its.toArray from p) (x := u) (by simpa using hu) fun h' st' sb => ?_
    have I1 : Inv X pins σ H { s with heap := h' } := I.turned (t' := s.toks) (fun b o hb e => (sb.2 b hb).trans e) f0 f1 f3 f4 f5
    obtain ⟨o, e, c, d⟩ := id st'
    exact ⟨u, rfl, go_of (s := { s with heap := h' }) e c d (by decide) ⟨x, H, I1, ru, ⟨rfl, fun ys hy => by rw [I.tuple_inj hy hq]; exact hx⟩, st', fun b hb => (hf b hb).1⟩⟩
  done := by
    intro X hP hw hK hc i pins s σ H E I hf st hg
    subst hP hw hK
    obtain ⟨xs, hq, hx⟩ := hg
    obtain ⟨its, rv, p, hz⟩ := I.tuple hq
    obtain ⟨f0, f1, f2, f3, f4, f5⟩ := hf it (by simp)
    have hl := rv.length
    exact wpAny_pyNext_tuple_end (I.ok.hd hc) st (show s.heap.IsTuple a its.toArray from p) (by simp; omega) fun h' eb => ⟨rfl, I.turned (t' := s.toks) (fun b o hb e => eb b o hb e) f0 f1 f3 f4 f5⟩
  self := fun _ _ _ _ _ st h => wpAny_pyIter_tupleiter st h
theorem turn_range {P : Program} {w : World} {K : PySem.W.Frag} {tg : Expr} (it : Addr) (lo : Int) (n : Nat) : Turn P w K tg (Itr lo n) [it] it (fun i h => IsRangeIter h it (lo + (i : Nat) * 1) ((n : Int) - (i : Nat)) 1) where
  mem := by simp
  obj := fun i h st b hb => by
    have e : b = it := by simpa using hb
    subst e
    exact ⟨_, st, fun v z => by
      have z' : Data.fields _ = Data.cell v := z
      cases z'⟩
  keep := fun i h h' st k => k it (by simp) _ st
  item := by
    intro X hP hw hK hc i pins s σ H E I hf st hg
    subst hP hw hK
    obtain ⟨f0, f1, f2, f3, f4, f5⟩ := hf it (by simp)
    have W := Walks.range (prog := X.prog) (w := X.w) (I.ok.hd hc) it lo 1 n
    refine W.item i s _ _ hg st fun v h' tk hv st' kk => ?_
    obtain ⟨t, rfl⟩ := hv
    have I1 : Inv X pins σ H { s with heap := h', toks := tk } := I.turned (fun b o hb e => kk b o (by simpa using hb) e) f0 f1 f3 f4 f5
    refine ⟨_, rfl, go_of (s := { s with heap := h', toks := tk }) (n := "range_iterator") st' rfl rfl (by decide) ⟨.int (lo + i), H, I1, ⟨t, ?_⟩, ⟨rfl, rfl⟩, st', fun b hb => (hf b hb).1⟩⟩
    rw [Int.mul_one]
  done := by
    intro X hP hw hK hc i pins s σ H E I hf st hg
    subst hP hw hK
    obtain ⟨f0, f1, f2, f3, f4, f5⟩ := hf it (by simp)
    exact wpAny_pyNext_range_end (I.ok.hd hc) st (by have : n ≤ i := hg; omega) fun h' eb => ⟨rfl, I.turned (t' := s.toks) (fun b o hb e => eb b o hb e) f0 f1 f3 f4 f5⟩
  self := fun _ _ _ _ _ st h => wpAny_pyIter_rangeiter st h
end L2
namespace L2
open PySem PySem.Spec PyProof.Rows
section
variable {X : Cx} {tg : Expr}
def iList (K : PySem.W.Frag) (tl : TE) : TI := fun σ H R => tl σ H fun x H1 => ∃ a, x = .ref a ∧ (∃ xs, SqL K H1 a xs) ∧ R (Itl K a) H1
def iTup (K : PySem.W.Frag) (tl : TE) : TI := fun σ H R => tl σ H fun x H1 => ∃ a, x = .ref a ∧ (∃ xs, SqT K H1 a xs) ∧ R (Itt K a) H1
theorem pi_list {l : Expr} {tl : TE} (hl : PE X l tl) : PI X tg l (iList X.K tl) := by
  intro pins s σ H R I h
  refine thn (hl pins s σ H _ I h) fun v s1 ⟨x, H1, I1, r1, q1⟩ => ?_
  obtain ⟨a, e, ⟨xs, hq⟩, q⟩ := q1
  subst e
  cases r1
  obtain ⟨its, rv, p, hz⟩ := I1.list hq
  refine wpAny_pyIter_list p.isList ?_
  refine ⟨s1.heap.objs.size, [s1.heap.objs.size], _, _, H1, rfl, I1.kept (t' := s1.toks) fun b o e => Heap.get?_push_of_some _ e, turn_list a _, ⟨_, Heap.get?_push_size _ rfl, rfl, rfl⟩, fun b hb => ?_, q⟩
  have e : b = s1.heap.objs.size := by simpa using hb
  subst e
  exact I1.fpOk (Nat.le_refl _) (I1.hok.fresh (Nat.le_refl _))
theorem pi_tup {l : Expr} {tl : TE} (hl : PE X l tl) : PI X tg l (iTup X.K tl) := by
  intro pins s σ H R I h
  refine thn (hl pins s σ H _ I h) fun v s1 ⟨x, H1, I1, r1, q1⟩ => ?_
  obtain ⟨a, e, ⟨xs, hq⟩, q⟩ := q1
  subst e
  cases r1
  obtain ⟨its, rv, p, hz⟩ := I1.tuple hq
  refine wpAny_pyIter_tuple (show s1.heap.IsTuple a its.toArray from p) ?_
  refine ⟨s1.heap.objs.size, [s1.heap.objs.size], _, _, H1, rfl, I1.kept (t' := s1.toks) fun b o e => Heap.get?_push_of_some _ e, turn_tuple a _, ⟨_, Heap.get?_push_size _ rfl, rfl, rfl⟩, fun b hb => ?_, q⟩
  have e : b = s1.heap.objs.size := by simpa using hb
  subst e
  exact I1.fpOk (Nat.le_refl _) (I1.hok.fresh (Nat.le_refl _))
theorem range_it {pins : List (Addr × Obj)} {σ : St} {H : Hp} {s : Shared} {R : It → Hp → Prop} {E : Value → Shared → Prop} {lo hi : Int} {t u v : Tok} {tk : Nat} (I : Inv X pins σ H s) (h1 : -(2 ^ 62) ≤ lo) (h2 : lo < 2 ^ 62) (h3 : -(2 ^ 62) ≤ hi) (h4 : hi < 2 ^ 62)
    (q : R (Itr lo (hi - lo).toNat) H) : wpAny (model X.prog X.w) X.A (pyIter (.ref s.heap.objs.size)) (PIE X pins σ tg R) E { s with heap := s.heap.push { cls := .type "range", data := .fields #[.int lo t, .int hi u, .int 1 v] }, toks := tk } := by
  refine wpAny_pyIter_range (IsRange.new ..) (small_one h1 h2 h3 h4) ?_
  have I1 : Inv X pins σ H { s with heap := s.heap.push { cls := .type "range", data := .fields #[.int lo t, .int hi u, .int 1 v] }, toks := tk } := I.kept fun b o e => Heap.get?_push_of_some _ e
  refine ⟨(s.heap.push { cls := .type "range", data := .fields #[.int lo t, .int hi u, .int 1 v] }).objs.size, [(s.heap.push { cls := .type "range", data := .fields #[.int lo t, .int hi u, .int 1 v] }).objs.size], _, _, H, rfl,
    I1.kept (t' := tk) fun b o e => Heap.get?_push_of_some _ e, turn_range _ lo (hi - lo).toNat, ?_, fun b hb => ?_, q⟩
  · have e1 : lo + ((0 : Nat) : Int) * 1 = lo := by simp
    have e2 : (((hi - lo).toNat : Nat) : Int) - ((0 : Nat) : Int) = Builtin.Range.rangeSize lo hi 1 := by rw [rangeSize_one]; split <;> omega
    show IsRangeIter _ _ (lo + ((0 : Nat) : Int) * 1) ((((hi - lo).toNat : Nat) : Int) - ((0 : Nat) : Int)) 1
    rw [e1, e2]
    exact Heap.get?_push_size _ rfl
  · have e : b = (s.heap.push { cls := .type "range", data := .fields #[.int lo t, .int hi u, .int 1 v] }).objs.size := by simpa using hb
    subst e
    exact I1.fpOk (Nat.le_refl _) (I1.hok.fresh (Nat.le_refl _))
def iRng1 (ta : TA) : TI := fun σ H R => ta σ H fun vs H1 => ∃ j : Int, vs = [.int j] ∧ -(2 ^ 62) ≤ j ∧ j < 2 ^ 62 ∧ R (Itr 0 j.toNat) H1
theorem pi_range1 {a : Expr} {ta : TA} {p pos : Pos} (hg : Gl X "range") (hm : X.mg "range" = none) (ha : PA X [a] ta) (hs : starEach [a] X.env = [(false, eval a X.env)] := by rfl) : PI X tg (.Call (.Name "range" p) [a] [] pos) (iRng1 ta) := by
  intro pins s σ H R I h
  refine Call_ (ld_blt I hg hm boot_range (PyProof.Rows.callWith_type1 (thn (ha pos pins s σ H _ I h) fun us s1 ⟨vs, H1, I1, r1, q1⟩ => ?_) hs rfl))
  obtain ⟨j, e, q1, q2, q⟩ := q1
  subst e
  cases r1 with
  | cons r rr =>
    cases rr
    obtain ⟨t, rfl⟩ := r
    exact call_range_1 (range_it I1 (by omega) (by omega) q1 q2 (by simpa using q))
def tFor (wi : TI) (g : TG) (tb : TS) : TS := fun D σ H => wi σ H fun J H1 => ∃ W : Nat → Nat → St → Hp → Prop, (∃ m, W 0 m σ H1) ∧ ∀ i m σ H, W i m σ H →
  (J.stop i H ∧ D.nx σ H) ∨ (J.go i H ∧ ∃ N : St → Hp → Prop, (∀ σ' H', N σ' H' → ∃ m', m' < m ∧ W (i + 1) m' σ' H') ∧ ∀ x H', J.yld i H x H' → g x σ H' fun σ2 H2 => tb { D with nx := N, ct := N, bk := D.nx } σ2 H2)
def pinsAt (fp : List Addr) (h : Heap) : List (Addr × Obj) := fp.filterMap fun b => (h.get? b).map fun o => (b, o)
theorem mem_pinsAt {fp : List Addr} {h : Heap} {b : Addr} {o : Obj} (hb : b ∈ fp) (e : h.get? b = some o) : (b, o) ∈ pinsAt fp h := List.mem_filterMap.mpr ⟨b, hb, by rw [e]; rfl⟩
theorem of_pinsAt {fp : List Addr} {h : Heap} {p : Addr × Obj} (hp : p ∈ pinsAt fp h) : p.1 ∈ fp ∧ h.get? p.1 = some p.2 := by
  obtain ⟨b, hb, e⟩ := List.mem_filterMap.mp hp
  cases q : h.get? b with
  | none => rw [q] at e; cases e
  | some o =>
    rw [q] at e
    have e' : (b, o) = p := Option.some.inj e
    subst e'
    exact ⟨hb, q⟩
theorem Inv.pinned {pins : List (Addr × Obj)} {σ : St} {H : Hp} {s : Shared} {fp : List Addr} (I : Inv X pins σ H s) (hf : ∀ b ∈ fp, FpOk X pins H b) (ho : ∀ b ∈ fp, ∃ o, s.heap.get? b = some o ∧ ∀ v, o.data ≠ .cell v) : Inv X (pins ++ pinsAt fp s.heap) σ H s :=
  I.pins_of fun p hp => (List.mem_append.mp hp).elim (fun z => I.pin p (List.mem_append_right _ z)) fun z => by
    obtain ⟨hb, e⟩ := of_pinsAt z
    obtain ⟨f0, f1, f2, _⟩ := hf p.1 hb
    obtain ⟨o, e', d⟩ := ho p.1 hb
    rw [e] at e'; cases e'
    exact ⟨e, f0, f1, f2, d⟩
theorem Inv.unpinned {pins pl : List (Addr × Obj)} {σ : St} {H : Hp} {s : Shared} (I : Inv X (pins ++ pl) σ H s) : Inv X pins σ H s := I.pins_of fun p hp => I.pin p (List.mem_append_right _ (List.mem_append_left _ hp))
theorem ps_for {iter : Expr} {body : List Stmt} {wi : TI} {g : TG} {tb : TS} {pos : Pos} (hp : PassesOwn (model X.prog X.w) X.A X.env X.xe) (hc : X.calm = true) (hi : PI X tg iter wi) (hg : PG X tg g) (hb : PSs X body tb)
    (hs : ∀ x, foldedSetIterable iter X.env x = pure x := by intro _; rfl) : PS X (.For tg iter body [] pos) (tFor wi g tb) := by
  intro pins s σ H D I h
  refine wpAny_For (thn (hi pins s σ H _ I h) fun v s1 h1 => thn h1 fun itv s2 h2 => ?_) hs
  obtain ⟨it, fp, tn, J, H2, e, I2, T, st2, f2, W, ⟨m0, w0⟩, turn⟩ := h2
  subst e
  have stat : ∀ {H' : Hp}, (∀ b ∈ fp, H' b = none) → ∀ b ∈ fp, FpOk X pins H' b := fun hn b hb => ⟨hn b hb, (f2 b hb).2⟩
  refine codeAny_forLoop_any (fun n s' => ∃ i σ' H', Inv X pins σ' H' s' ∧ tn i s'.heap ∧ (∀ b ∈ fp, H' b = none) ∧ W i n σ' H') ?_ m0 ⟨0, σ, H2, I2, st2, fun b hb => (f2 b hb).1, w0⟩
  rintro n s3 ⟨i, σ3, H3, I3, st3, fr3, w3⟩
  rcases turn i n σ3 H3 w3 with ⟨stop, qn⟩ | ⟨go, N, hN, step⟩
  · refine wpAny_passesOwn hp (thn (T.done X rfl rfl rfl hc i pins s3 σ3 H3 X.xe I3 (stat fr3) st3 stop) fun r s4 ⟨hr, I4⟩ => ?_)
    subst hr
    exact wpAny_execs_nil ⟨σ3, H3, I4, qn⟩
  · refine wpAny_passesOwn hp (thn (T.item X rfl rfl rfl hc i pins s3 σ3 H3 X.xe I3 (stat fr3) st3 go) fun r s4 ⟨u, hr, h4⟩ => ?_)
    subst hr
    refine wpAny_passesOwn hp (thn h4 fun _ s5 ⟨x, H5, I5, r5, y5, st5, fr5⟩ => ?_)
    have I5' := I5.pinned (stat fr5) (T.obj _ _ st5)
    refine wpAny_passesOwn hp (thn (hg _ s5 σ3 H5 x u _ I5' r5 (step x H5 y5)) fun _ s6 ⟨σ6, H6, I6, q6⟩ => ?_)
    refine wpAny_passesOwn hp (thn (hb _ s6 σ6 H6 _ I6 q6) fun f s7 q7 => ?_)
    have again : ∀ {σ7 : St} {H7 : Hp}, Inv X (pins ++ pinsAt fp s5.heap) σ7 H7 s7 → N σ7 H7 → ∃ m, m < n ∧ ∃ i σ' H', Inv X pins σ' H' s7 ∧ tn i s7.heap ∧ (∀ b ∈ fp, H' b = none) ∧ W i m σ' H' := fun {σ7 H7} I7 n7 => by
      obtain ⟨m', hm, w7⟩ := hN σ7 H7 n7
      refine ⟨m', hm, i + 1, σ7, H7, I7.unpinned, T.keep _ _ _ st5 fun b hb o e => (I7.pin (b, o) (List.mem_append_right _ (List.mem_append_right _ (mem_pinsAt hb e)))).1, fun b hb => ?_, w7⟩
      obtain ⟨o, e, d⟩ := T.obj _ _ st5 b hb
      exact (I7.pin (b, o) (List.mem_append_right _ (List.mem_append_right _ (mem_pinsAt hb e)))).2.1
    cases f with
    | next => obtain ⟨σ7, H7, I7, n7⟩ := q7; exact again I7 n7
    | cont => obtain ⟨σ7, H7, I7, n7⟩ := q7; exact again I7 n7
    | brk => obtain ⟨σ7, H7, I7, q7⟩ := q7; exact ⟨σ7, H7, I7.unpinned, q7⟩
    | ret v => obtain ⟨x7, σ7, H7, I7, r7, q7⟩ := q7; exact ⟨x7, σ7, H7, I7.unpinned, r7, q7⟩
end
theorem for_list {K : PySem.W.Frag} {a : Addr} {xs : List V} {g : TG} {tb : TS} {D : Ends} {σ : St} {H : Hp} (Pv : Nat → St → Hp → Prop) (h0 : Pv 0 σ H) (hl : ∀ i σ H, i ≤ xs.length → Pv i σ H → SqL K H a xs)
    (hs : ∀ i x σ H, xs[i]? = some x → Pv i σ H → g x σ H fun σ2 H2 => tb { D with nx := Pv (i + 1), ct := Pv (i + 1), bk := D.nx } σ2 H2) (hd : ∀ σ H, Pv xs.length σ H → D.nx σ H) :
    ∃ W : Nat → Nat → St → Hp → Prop, (∃ m, W 0 m σ H) ∧ ∀ i m σ H, W i m σ H →
      ((Itl K a).stop i H ∧ D.nx σ H) ∨ ((Itl K a).go i H ∧ ∃ N : St → Hp → Prop, (∀ σ' H', N σ' H' → ∃ m', m' < m ∧ W (i + 1) m' σ' H') ∧ ∀ x H', (Itl K a).yld i H x H' → g x σ H' fun σ2 H2 => tb { D with nx := N, ct := N, bk := D.nx } σ2 H2) := by
  refine ⟨fun i m σ H => m = xs.length - i ∧ i ≤ xs.length ∧ Pv i σ H, ⟨xs.length, by simp, Nat.zero_le _, h0⟩, ?_⟩
  rintro i m σ H ⟨rfl, hi, p⟩
  have q := hl i σ H hi p
  by_cases hlt : i < xs.length
  · refine .inr ⟨⟨xs, xs[i], q, by simp [hlt]⟩, Pv (i + 1), fun σ' H' p' => ⟨xs.length - (i + 1), by omega, rfl, hlt, p'⟩, fun x H' y => ?_⟩
    obtain ⟨e, y⟩ := y
    subst e
    exact hs i x σ _ (y xs q) p
  · have e : i = xs.length := by omega
    subst e
    exact .inl ⟨⟨xs, q, Nat.le_refl _⟩, hd σ H p⟩
theorem for_tup {K : PySem.W.Frag} {a : Addr} {xs : List V} {g : TG} {tb : TS} {D : Ends} {σ : St} {H : Hp} (Pv : Nat → St → Hp → Prop) (h0 : Pv 0 σ H) (hl : ∀ i σ H, i ≤ xs.length → Pv i σ H → SqT K H a xs)
    (hs : ∀ i x σ H, xs[i]? = some x → Pv i σ H → g x σ H fun σ2 H2 => tb { D with nx := Pv (i + 1), ct := Pv (i + 1), bk := D.nx } σ2 H2) (hd : ∀ σ H, Pv xs.length σ H → D.nx σ H) :
    ∃ W : Nat → Nat → St → Hp → Prop, (∃ m, W 0 m σ H) ∧ ∀ i m σ H, W i m σ H →
      ((Itt K a).stop i H ∧ D.nx σ H) ∨ ((Itt K a).go i H ∧ ∃ N : St → Hp → Prop, (∀ σ' H', N σ' H' → ∃ m', m' < m ∧ W (i + 1) m' σ' H') ∧ ∀ x H', (Itt K a).yld i H x H' → g x σ H' fun σ2 H2 => tb { D with nx := N, ct := N, bk := D.nx } σ2 H2) := by
  refine ⟨fun i m σ H => m = xs.length - i ∧ i ≤ xs.length ∧ Pv i σ H, ⟨xs.length, by simp, Nat.zero_le _, h0⟩, ?_⟩
  rintro i m σ H ⟨rfl, hi, p⟩
  have q := hl i σ H hi p
  by_cases hlt : i < xs.length
  · refine .inr ⟨⟨xs, xs[i], q, by simp [hlt]⟩, Pv (i + 1), fun σ' H' p' => ⟨xs.length - (i + 1), by omega, rfl, hlt, p'⟩, fun x H' y => ?_⟩
    obtain ⟨e, y⟩ := y
    subst e
    exact hs i x σ _ (y xs q) p
  · have e : i = xs.length := by omega
    subst e
    exact .inl ⟨⟨xs, q, Nat.le_refl _⟩, hd σ H p⟩
theorem for_range {lo : Int} {n : Nat} {g : TG} {tb : TS} {D : Ends} {σ : St} {H : Hp} (Pv : Nat → St → Hp → Prop) (h0 : Pv 0 σ H)
    (hs : ∀ i σ H, i < n → Pv i σ H → g (.int (lo + i)) σ H fun σ2 H2 => tb { D with nx := Pv (i + 1), ct := Pv (i + 1), bk := D.nx } σ2 H2) (hd : ∀ σ H, Pv n σ H → D.nx σ H) :
    ∃ W : Nat → Nat → St → Hp → Prop, (∃ m, W 0 m σ H) ∧ ∀ i m σ H, W i m σ H →
      ((Itr lo n).stop i H ∧ D.nx σ H) ∨ ((Itr lo n).go i H ∧ ∃ N : St → Hp → Prop, (∀ σ' H', N σ' H' → ∃ m', m' < m ∧ W (i + 1) m' σ' H') ∧ ∀ x H', (Itr lo n).yld i H x H' → g x σ H' fun σ2 H2 => tb { D with nx := N, ct := N, bk := D.nx } σ2 H2) := by
  refine ⟨fun i m σ H => m = n - i ∧ i ≤ n ∧ Pv i σ H, ⟨n, by simp, Nat.zero_le _, h0⟩, ?_⟩
  rintro i m σ H ⟨rfl, hi, p⟩
  by_cases hlt : i < n
  · refine .inr ⟨hlt, Pv (i + 1), fun σ' H' p' => ⟨n - (i + 1), by omega, rfl, hlt, p'⟩, fun x H' y => ?_⟩
    obtain ⟨e, y⟩ := y
    subst e y
    exact hs i σ _ hlt p
  · have e : i = n := by omega
    subst e
    exact .inl ⟨Nat.le_refl _, hd σ H p⟩
end L2
namespace L2
open PySem PySem.Spec PyProof.Rows
abbrev R2 := V → V → Hp → VK → Prop
def OpR (X : Cx) (f : Value → Value → Sem Value) (r : R2) : Prop :=
  ∀ (pins : List (Addr × Obj)) (s : Shared) (σ : St) (H : Hp) (x y : V) (v u : Value) (Q : VK), Inv X pins σ H s → RelV x v → RelV y u → r x y H Q →
    wpAny (model X.prog X.w) X.A (f v u) (EP X pins σ Q) X.xe s
def UnR (X : Cx) (f : Value → Sem Value) (r : V → Hp → VK → Prop) : Prop :=
  ∀ (pins : List (Addr × Obj)) (s : Shared) (σ : St) (H : Hp) (x : V) (v : Value) (Q : VK), Inv X pins σ H s → RelV x v → r x H Q →
    wpAny (model X.prog X.w) X.A (f v) (EP X pins σ Q) X.xe s
def CallR (X : Cx) (f : Value) (r : List V → Hp → VK → Prop) : Prop :=
  ∀ (pins : List (Addr × Obj)) (s : Shared) (σ : St) (H : Hp) (xs : List V) (us : List Value) (Q : VK), Inv X pins σ H s → Vals xs us → r xs H Q →
    wpAny (model X.prog X.w) X.A (call f us) (EP X pins σ Q) X.xe s
def TruR (X : Cx) (r : V → Hp → (Bool → Hp → Prop) → Prop) : Prop :=
  ∀ (pins : List (Addr × Obj)) (s : Shared) (σ : St) (H : Hp) (x : V) (v : Value) (Q : Bool → Hp → Prop), Inv X pins σ H s → RelV x v → r x H Q →
    wpAny (model X.prog X.w) X.A (truthy v) (TP X pins σ Q) X.xe s
def tOp (r : R2) (ta tb : TE) : TE := fun σ H Q => ta σ H fun x H1 => tb σ H1 fun y H2 => r x y H2 Q
def tUn (r : V → Hp → VK → Prop) (ta : TE) : TE := fun σ H Q => ta σ H fun x H1 => r x H1 Q
def rI (C : Int → Int → Prop) (g : Int → Int → V) : R2 := fun x y H Q => ∃ i j, x = .int i ∧ y = .int j ∧ C i j ∧ Q (g i j) H
def rI0 (g : Int → Int → V) : R2 := fun x y H Q => ∃ i j, x = .int i ∧ y = .int j ∧ Q (g i j) H
def rU (g : Int → V) : V → Hp → VK → Prop := fun x H Q => ∃ i, x = .int i ∧ Q (g i) H
section
variable {X : Cx} {a b c : Expr} {ta tb tc : TE} {pos : Pos}
theorem binT (ha : PE X a ta) (hb : PE X b tb) {pins : List (Addr × Obj)} {s : Shared} {σ : St} {H : Hp} {R : V → V → Hp → Prop} (I : Inv X pins σ H s)
    (h : ta σ H fun x H1 => tb σ H1 fun y H2 => R x y H2) {Q : Value → Shared → Prop} {f : Value → Value → Sem Value}
    (hf : ∀ v u s2 x y H2, Inv X pins σ H2 s2 → RelV x v → RelV y u → R x y H2 → wpAny (model X.prog X.w) X.A (f v u) Q X.xe s2) :
    wpAny (model X.prog X.w) X.A (eval a X.env) (fun v s₁ => wpAny (model X.prog X.w) X.A (eval b X.env) (fun u s₂ => wpAny (model X.prog X.w) X.A (f v u) Q X.xe s₂) X.xe s₁) X.xe s := by
  refine thn (ha pins s σ H _ I h) fun v s1 ⟨x, H1, I1, r1, q1⟩ => ?_
  refine thn (hb pins s1 σ H1 _ I1 q1) fun u s2 ⟨y, H2, I2, r2, q2⟩ => ?_
  exact hf v u s2 x y H2 I2 r1 r2 q2
theorem pe_op {op : Operator} {r : R2} (ho : OpR X (binaryOp op) r) (ha : PE X a ta) (hb : PE X b tb) : PE X (.BinOp a op b pos) (tOp r ta tb) := by
  intro pins s σ H Q I h
  exact wpAny_BinOp (binT ha hb I h fun v u s2 x y H2 I2 rx ry q => ho pins s2 σ H2 x y v u Q I2 rx ry q)
theorem pe_un {op : UnaryOp} {r : V → Hp → VK → Prop} (ho : UnR X (unaryOp op) r) (ha : PE X a ta) : PE X (.UnaryOp op a pos) (tUn r ta) := by
  intro pins s σ H Q I h
  exact UnaryOp_ (thn (ha pins s σ H _ I h) fun v s1 ⟨x, H1, I1, r1, q1⟩ => ho pins s1 σ H1 x v Q I1 r1 q1)
theorem opI {f : Value → Value → Sem Value} {C : Int → Int → Prop} {g : Int → Int → Int}
    (rule : ∀ (i j : Int) (t u : Tok) (s : Shared) (Q : Value → Shared → Prop) (E : Value → Shared → Prop), C i j → Q (.int (g i j) s.toks) { s with toks := s.toks + 1 } → wpAny (model X.prog X.w) X.A (f (.int i t) (.int j u)) Q E s) :
    OpR X f (rI C fun i j => .int (g i j)) := by
  intro pins s σ H x y v u Q I rx ry h
  obtain ⟨i, j, rfl, rfl, hc, q⟩ := h
  obtain ⟨t, rfl⟩ := rx
  obtain ⟨t', rfl⟩ := ry
  exact rule i j t t' s _ _ hc ⟨.int (g i j), H, I.tok _, ⟨_, rfl⟩, q⟩
theorem opI0 {f : Value → Value → Sem Value} {g : Int → Int → Int}
    (rule : ∀ (i j : Int) (t u : Tok) (s : Shared) (Q : Value → Shared → Prop) (E : Value → Shared → Prop), Q (.int (g i j) s.toks) { s with toks := s.toks + 1 } → wpAny (model X.prog X.w) X.A (f (.int i t) (.int j u)) Q E s) :
    OpR X f (rI0 fun i j => .int (g i j)) := by
  intro pins s σ H x y v u Q I rx ry h
  obtain ⟨i, j, rfl, rfl, q⟩ := h
  obtain ⟨t, rfl⟩ := rx
  obtain ⟨t', rfl⟩ := ry
  exact rule i j t t' s _ _ ⟨.int (g i j), H, I.tok _, ⟨_, rfl⟩, q⟩
theorem opB0 {f : Value → Value → Sem Value} {g : Int → Int → Bool}
    (rule : ∀ (i j : Int) (t u : Tok) (s : Shared) (Q : Value → Shared → Prop) (E : Value → Shared → Prop), Q (.bool (g i j)) s → wpAny (model X.prog X.w) X.A (f (.int i t) (.int j u)) Q E s) :
    OpR X f (rI0 fun i j => .bl (g i j)) := by
  intro pins s σ H x y v u Q I rx ry h
  obtain ⟨i, j, rfl, rfl, q⟩ := h
  obtain ⟨t, rfl⟩ := rx
  obtain ⟨t', rfl⟩ := ry
  exact rule i j t t' s _ _ ⟨.bl (g i j), H, I, rfl, q⟩
def CDiv (i j : Int) : Prop := 0 < j ∧ j < 1073741824
def CMul (i j : Int) : Prop := (-(2 ^ 64) < i ∧ i < 2 ^ 64) ∨ (-(2 ^ 64) < j ∧ j < 2 ^ 64)
theorem CMul.ok {i j : Int} (h : CMul i j) : IntMulOk i j := by
  rcases h with ⟨h1, h2⟩ | ⟨h1, h2⟩
  · exact .of_left (intBits_le_64 h1 h2)
  · exact .of_right (intBits_le_64 h1 h2)
theorem op_add : OpR X (binaryOp .Add) (rI0 fun i j => .int (i + j)) := opI0 fun _ _ _ _ _ _ _ q => add_int q
theorem op_sub : OpR X (binaryOp .Sub) (rI0 fun i j => .int (i - j)) := opI0 fun _ _ _ _ _ _ _ q => sub_int q
theorem op_mul : OpR X (binaryOp .Mult) (rI CMul fun i j => .int (i * j)) := opI fun _ _ _ _ _ _ _ hc q => mul_int q hc.ok
theorem op_fdiv : OpR X (binaryOp .FloorDiv) (rI CDiv fun i j => .int (i / j)) := opI fun i j _ _ _ _ _ hc q => by
  have h1 : (0 : Int) < j := hc.1
  have h2 : j < 1073741824 := hc.2
  exact floordiv_int (by omega) (by rw [Int.fdiv_eq_ediv_of_nonneg i (by omega)]; exact q) (.inl (PyProof.noPylong_small (by omega)))
theorem op_mod : OpR X (binaryOp .Mod) (rI (fun _ j => 0 < j) fun i j => .int (i % j)) := opI fun i j _ _ _ _ _ hc q => by
  have h1 : (0 : Int) < j := hc
  exact mod_int' (by omega) (by rw [Int.fmod_eq_emod_of_nonneg i (by omega)]; exact q)
theorem unI {f : Value → Sem Value} {g : Int → Int}
    (rule : ∀ (i : Int) (t : Tok) (s : Shared) (Q : Value → Shared → Prop) (E : Value → Shared → Prop), Q (.int (g i) s.toks) { s with toks := s.toks + 1 } → wpAny (model X.prog X.w) X.A (f (.int i t)) Q E s) :
    UnR X f (rU fun i => .int (g i)) := by
  intro pins s σ H x v Q I rx h
  obtain ⟨i, rfl, q⟩ := h
  obtain ⟨t, rfl⟩ := rx
  exact rule i t s _ _ ⟨.int (g i), H, I.tok _, ⟨_, rfl⟩, q⟩
theorem un_neg : UnR X (unaryOp .USub) (rU fun i => .int (-i)) := unI fun _ _ _ _ _ q => neg_int q
end
def scal : V → V → Bool
  | .non, .non => true | .non, .int _ => true | .int _, .non => true | .non, .bl _ => true | .bl _, .non => true | .non, .str _ => true | .str _, .non => true
  | .int _, .int _ => true | .bl _, .bl _ => true | .str _, .str _ => true | .byt _, .byt _ => true
  | .int _, .str _ => true | .str _, .int _ => true | .bl _, .str _ => true | .str _, .bl _ => true
  | _, _ => false
def rEq : R2 := fun x y H Q => scal x y = true ∧ Q (.bl (decide (x = y))) H
def rNe : R2 := fun x y H Q => scal x y = true ∧ Q (.bl (!decide (x = y))) H
theorem dec_int {i j : Int} : decide (V.int i = V.int j) = (i == j) := by
  rw [Bool.eq_iff_iff]
  simp
theorem dec_bl {i j : Bool} : decide (V.bl i = V.bl j) = (i == j) := by
  rw [Bool.eq_iff_iff]
  simp
theorem dec_str {i j : Str} : decide (V.str i = V.str j) = (i == j) := by
  rw [Bool.eq_iff_iff]
  simp
theorem dec_byt {i j : Array UInt8} : decide (V.byt i = V.byt j) = (i.toList == j.toList) := by
  rw [Bool.eq_iff_iff]
  cases i
  cases j
  simp
section
variable {X : Cx} {a b c : Expr} {ta tb tc : TE} {pos : Pos}
theorem fin_bl {pins : List (Addr × Obj)} {σ : St} {H : Hp} {s : Shared} {Q : VK} {k k' : Bool} (I : Inv X pins σ H s) (q : Q (.bl k) H) (e : k = k') : EP X pins σ Q (.bool k') s := by
  subst e
  exact ⟨.bl k, H, I, rfl, q⟩
theorem op_eq : OpR X (compareOp .Eq) rEq := by
  intro pins s σ H x y v u Q I rx ry h
  obtain ⟨hs, q⟩ := h
  cases x with
  | non =>
    cases rx
    cases y with
    | non => cases ry; exact PySem.EqNone.eq_none_none (fin_bl I q (by simp))
    | bl j => cases ry; exact PySem.EqNone.eq_none_bool (fin_bl I q (by simp))
    | int j => obtain ⟨t', rfl⟩ := ry; exact PySem.EqNone.eq_none_int (fin_bl I q (by simp))
    | str j => obtain ⟨t', rfl⟩ := ry; exact PySem.EqNone.eq_none_str (fin_bl I q (by simp))
    | _ => exact absurd (show false = true from hs) Bool.false_ne_true
  | bl i =>
    cases rx
    cases y with
    | non => cases ry; exact PySem.EqNone.eq_bool_none (fin_bl I q (by simp))
    | bl j => cases ry; exact eq_bool (fin_bl I q dec_bl)
    | str j => obtain ⟨t', rfl⟩ := ry; exact PySem.EqMixed.eq_bool_str (fin_bl I q (by simp))
    | _ => exact absurd (show false = true from hs) Bool.false_ne_true
  | int i =>
    obtain ⟨t, rfl⟩ := rx
    cases y with
    | non => cases ry; exact PySem.EqNone.eq_int_none (fin_bl I q (by simp))
    | int j => obtain ⟨t', rfl⟩ := ry; exact eq_int (fin_bl I q dec_int)
    | str j => obtain ⟨t', rfl⟩ := ry; exact PySem.EqMixed.eq_int_str (fin_bl I q (by simp))
    | _ => exact absurd (show false = true from hs) Bool.false_ne_true
  | str i =>
    obtain ⟨t, rfl⟩ := rx
    cases y with
    | non => cases ry; exact PySem.EqNone.eq_str_none (fin_bl I q (by simp))
    | bl j => cases ry; exact PySem.EqMixed.eq_str_bool (fin_bl I q (by simp))
    | int j => obtain ⟨t', rfl⟩ := ry; exact PySem.EqMixed.eq_str_int (fin_bl I q (by simp))
    | str j => obtain ⟨t', rfl⟩ := ry; exact eq_str (fin_bl I q dec_str)
    | _ => exact absurd (show false = true from hs) Bool.false_ne_true
  | byt i =>
    obtain ⟨t, rfl⟩ := rx
    cases y with
    | byt j => obtain ⟨t', rfl⟩ := ry; exact PySem.W.eq_bytes (fin_bl I q dec_byt)
    | _ => exact absurd (show false = true from hs) Bool.false_ne_true
  | _ => cases y <;> exact absurd (show false = true from hs) Bool.false_ne_true
theorem op_ne : OpR X (compareOp .NotEq) rNe := by
  intro pins s σ H x y v u Q I rx ry h
  obtain ⟨hs, q⟩ := h
  cases x with
  | non =>
    cases rx
    cases y with
    | non => cases ry; exact PySem.EqNone.ne_none_none (fin_bl I q (by simp))
    | bl j => cases ry; exact PySem.EqNone.ne_none_bool (fin_bl I q (by simp))
    | int j => obtain ⟨t', rfl⟩ := ry; exact PySem.EqNone.ne_none_int (fin_bl I q (by simp))
    | str j => obtain ⟨t', rfl⟩ := ry; exact PySem.EqNone.ne_none_str (fin_bl I q (by simp))
    | _ => exact absurd (show false = true from hs) Bool.false_ne_true
  | bl i =>
    cases rx
    cases y with
    | non => cases ry; exact PySem.EqNone.ne_bool_none (fin_bl I q (by simp))
    | bl j => cases ry; exact ne_bool (fin_bl I q (congrArg not dec_bl))
    | str j => obtain ⟨t', rfl⟩ := ry; exact PySem.EqMixed.ne_bool_str (fin_bl I q (by simp))
    | _ => exact absurd (show false = true from hs) Bool.false_ne_true
  | int i =>
    obtain ⟨t, rfl⟩ := rx
    cases y with
    | non => cases ry; exact PySem.EqNone.ne_int_none (fin_bl I q (by simp))
    | int j => obtain ⟨t', rfl⟩ := ry; exact ne_int (fin_bl I q (congrArg not dec_int))
    | str j => obtain ⟨t', rfl⟩ := ry; exact PySem.EqMixed.ne_int_str (fin_bl I q (by simp))
    | _ => exact absurd (show false = true from hs) Bool.false_ne_true
  | str i =>
    obtain ⟨t, rfl⟩ := rx
    cases y with
    | non => cases ry; exact PySem.EqNone.ne_str_none (fin_bl I q (by simp))
    | bl j => cases ry; exact PySem.EqMixed.ne_str_bool (fin_bl I q (by simp))
    | int j => obtain ⟨t', rfl⟩ := ry; exact PySem.EqMixed.ne_str_int (fin_bl I q (by simp))
    | str j => obtain ⟨t', rfl⟩ := ry; exact ne_str (fin_bl I q (congrArg not dec_str))
    | _ => exact absurd (show false = true from hs) Bool.false_ne_true
  | byt i =>
    obtain ⟨t, rfl⟩ := rx
    cases y with
    | byt j => obtain ⟨t', rfl⟩ := ry; exact PySem.W.ne_bytes (fin_bl I q (congrArg not dec_byt))
    | _ => exact absurd (show false = true from hs) Bool.false_ne_true
  | _ => cases y <;> exact absurd (show false = true from hs) Bool.false_ne_true
theorem op_lt : OpR X (compareOp .Lt) (rI0 fun i j => .bl (decide (i < j))) := opB0 fun _ _ _ _ _ _ _ q => lt_int q
theorem op_le : OpR X (compareOp .LtE) (rI0 fun i j => .bl (decide (i ≤ j))) := opB0 fun _ _ _ _ _ _ _ q => le_int q
theorem op_gt : OpR X (compareOp .Gt) (rI0 fun i j => .bl (decide (j < i))) := opB0 fun _ _ _ _ _ _ _ q => gt_int q
theorem OpR.or {f : Value → Value → Sem Value} {r r' : R2} (h : OpR X f r) (h' : OpR X f r') : OpR X f (fun x y H Q => r x y H Q ∨ r' x y H Q) := by
  intro pins s σ H x y v u Q I rx ry q
  rcases q with q | q
  · exact h pins s σ H x y v u Q I rx ry q
  · exact h' pins s σ H x y v u Q I rx ry q
theorem nomark (b : Expr) {op : CmpOp} (h : op ≠ .In := by decide) (h2 : op ≠ .NotIn := by decide) : behindInMarks op b = false := by
  have e1 : (op == CmpOp.In) = false := by cases op <;> first | rfl | exact absurd rfl h
  have e2 : (op == CmpOp.NotIn) = false := by cases op <;> first | rfl | exact absurd rfl h2
  cases b <;> simp [behindInMarks, e1, e2]
theorem pe_cmpR {op : CmpOp} {r : R2} (ho : OpR X (compareOp op) r) (ha : PE X a ta) (hb : PE X b tb) (hm : behindInMarks op b = false) : PE X (.Compare a [op] [b] pos) (tOp r ta tb) := by
  intro pins s σ H Q I h
  exact wpAny_Compare1 (binT ha hb I h fun v u s2 x y H2 I2 rx ry q => ho pins s2 σ H2 x y v u Q I2 rx ry q) hm
def tTest (t : TE) : TT := fun σ H Q => t σ H fun x H' => ∃ k, x = .bl k ∧ Q k H'
theorem pt_cmpR {op : CmpOp} {r : R2} (ho : OpR X (compareOp op) r) (ha : PE X a ta) (hb : PE X b tb) (hm : behindInMarks op b = false) : PT X (.Compare a [op] [b] pos) (tTest (tOp r ta tb)) := by
  intro pins s σ H Q I h
  refine wpAny_isTrue_Compare1 (thn (ha pins s σ H _ I h) fun v s1 ⟨x, H1, I1, r1, q1⟩ => thn (hb pins s1 σ H1 _ I1 q1) fun u s2 ⟨y, H2, I2, r2, q2⟩ =>
    thn (ho pins s2 σ H2 x y v u _ I2 r1 r2 q2) fun c s3 ⟨z, H3, I3, r3, k, e, q3⟩ => ?_) hm
  subst e
  cases r3
  exact wpAny_truthy_bool ⟨H3, I3, q3⟩
def tChain (r r' : R2) (ta tb tc : TE) : TE := fun σ H Q => ta σ H fun x H1 => tb σ H1 fun y H2 => r x y H2 fun z H3 => ∃ k, z = .bl k ∧
  (if k = true then tc σ H3 fun w' H4 => r' y w' H4 Q else Q (.bl false) H3)
theorem pe_chain {op op' : CmpOp} {r r' : R2} (ho : OpR X (compareOp op) r) (ho' : OpR X (compareOp op') r') (ha : PE X a ta) (hb : PE X b tb) (hc : PE X c tc)
    (hm : lastMarks [op, op'] [b, c] = false := by with_unfolding_all rfl) : PE X (.Compare a [op, op'] [b, c] pos) (tChain r r' ta tb tc) := by
  intro pins s σ H Q I h
  refine Compare_chain (thn (ha pins s σ H _ I h) fun v s1 ⟨x, H1, I1, r1, q1⟩ => chain_link (thn (hb pins s1 σ H1 _ I1 q1) fun u s2 ⟨y, H2, I2, r2, q2⟩ =>
    thn (ho pins s2 σ H2 x y v u _ I2 r1 r2 q2) fun d s3 ⟨z, H3, I3, r3, k, e, q3⟩ => ?_)) hm
  subst e
  cases r3
  refine wpAny_truthy_bool ?_
  cases k with
  | false => exact ite_ff ⟨.bl false, H3, I3, rfl, q3⟩
  | true => exact ite_tt (chain_last (thn (hc pins s3 σ H3 _ I3 q3) fun w' s4 ⟨z', H4, I4, r4, q4⟩ => ho' pins s4 σ H4 y z' u w' Q I4 r2 r4 q4))
theorem pt_chain {op op' : CmpOp} {r r' : R2} (ho : OpR X (compareOp op) r) (ho' : OpR X (compareOp op') r') (ha : PE X a ta) (hb : PE X b tb) (hc : PE X c tc)
    (hm : lastMarks [op, op'] [b, c] = false := by with_unfolding_all rfl) : PT X (.Compare a [op, op'] [b, c] pos) (tTest (tChain r r' ta tb tc)) := by
  intro pins s σ H Q I h
  refine isTrue_chain (thn (ha pins s σ H _ I h) fun v s1 ⟨x, H1, I1, r1, q1⟩ => test_link (thn (hb pins s1 σ H1 _ I1 q1) fun u s2 ⟨y, H2, I2, r2, q2⟩ =>
    thn (ho pins s2 σ H2 x y v u _ I2 r1 r2 q2) fun d s3 ⟨z, H3, I3, r3, k, e, q3⟩ => ?_)) hm
  subst e
  cases r3
  refine wpAny_truthy_bool ?_
  cases k with
  | false =>
    obtain ⟨k', e', q'⟩ := q3
    cases e'
    exact ite_ff ⟨H3, I3, q'⟩
  | true =>
    refine ite_tt (test_last (thn (hc pins s3 σ H3 _ I3 q3) fun w' s4 ⟨z', H4, I4, r4, q4⟩ => thn (ho' pins s4 σ H4 y z' u w' _ I4 r2 r4 q4) fun d' s5 ⟨z2, H5, I5, r5, k2, e2, q5⟩ => ?_))
    subst e2
    cases r5
    exact wpAny_truthy_bool ⟨H5, I5, q5⟩
def TruV (K : PySem.W.Frag) (x : V) (H : Hp) (k : Bool) : Prop :=
  match x with
  | .non => k = false
  | .bl b => k = b
  | .int i => k = (i != 0)
  | .str y => y.length ≤ sizeLine ∧ k = ((y.length : Int) != 0)
  | .byt y => y.size ≤ sizeLine ∧ k = ((y.size : Int) != 0)
  | .ref p => (∃ xs, SqL K H p xs ∧ k = !xs.isEmpty) ∨ (∃ xs, SqT K H p xs ∧ k = !xs.isEmpty) ∨ ∃ kvs, H p = some (.dK kvs) ∧ k = !kvs.isEmpty
  | _ => False
theorem isEmpty_kv {κ : Type} {kvs : List (κ × V)} {vs : List (κ × Value)} (r : KV kvs vs) : (!vs.isEmpty) = !kvs.isEmpty := by
  cases r <;> rfl
theorem isEmpty_of {xs : List V} {its : List Value} (r : Vals xs its) : (!its.toArray.isEmpty) = !xs.isEmpty := by
  cases r <;> simp
theorem line63 : (sizeLine : Nat) < 2 ^ 63 := by rw [sizeLine_eq]; decide
theorem tru_ok : TruR X (fun x H Q => ∃ k, TruV X.K x H k ∧ Q k H) := by
  intro pins s σ H x v Q I rx h
  obtain ⟨k, e, q⟩ := h
  have hl := line63
  have hs : sizeLine = 16777216 := sizeLine_eq
  cases x with
  | non =>
    cases rx
    have e' : k = false := e
    subst e'
    exact truthy_none ⟨H, I, q⟩
  | bl b =>
    cases rx
    have e' : k = b := e
    subst e'
    exact wpAny_truthy_bool ⟨H, I, q⟩
  | int i =>
    obtain ⟨t, rfl⟩ := rx
    have e' : k = (i != 0) := e
    subst e'
    exact PySem.P.truthy_int ⟨H, I, q⟩
  | str y =>
    obtain ⟨t, rfl⟩ := rx
    obtain ⟨hy, e'⟩ : y.length ≤ sizeLine ∧ k = ((y.length : Int) != 0) := e
    subst e'
    exact PySem.P.truthy_str (by omega) ⟨H, I.tok _, q⟩
  | byt y =>
    obtain ⟨t, rfl⟩ := rx
    obtain ⟨hy, e'⟩ : y.size ≤ sizeLine ∧ k = ((y.size : Int) != 0) := e
    subst e'
    exact PySem.W.truthy_bytes (by omega) ⟨H, I.tok _, q⟩
  | ref p =>
    cases rx
    have e' : (∃ xs, SqL X.K H p xs ∧ k = !xs.isEmpty) ∨ (∃ xs, SqT X.K H p xs ∧ k = !xs.isEmpty) ∨ ∃ kvs, H p = some (.dK kvs) ∧ k = !kvs.isEmpty := e
    rcases e' with ⟨xs, hx, e'⟩ | ⟨xs, hx, e'⟩ | ⟨kvs, hx, e'⟩
    · subst e'
      obtain ⟨its, r, pl, hz⟩ := I.list hx
      have hlen := r.length
      exact wpAny_truthy_list pl.isList (by simp only [List.size_toArray]; omega) ⟨H, I.tok _, by rw [isEmpty_of r]; exact q⟩
    · subst e'
      obtain ⟨its, r, pl, hz⟩ := I.tuple hx
      have hlen := r.length
      exact truthy_tuple pl (by simp only [List.size_toArray]; omega) ⟨H, I.tok _, by rw [isEmpty_of r]; exact q⟩
    · subst e'
      obtain ⟨hz, hS, vs, r, m⟩ : kvs.length ≤ sizeLine ∧ (p == sysModules) = false ∧ ∃ vs, KV kvs vs ∧ s.heap.DictOf (mixKind X.prog X.w) p vs := I.hok p _ hx
      have hlen : kvs.length = vs.length := Paired.length r
      exact wpAny_truthy_dict hS m (by omega) ⟨H, I.tok _, by rw [isEmpty_kv r]; exact q⟩
  | _ => exact (show False from e).elim
theorem pt_truth (ha : PE X a ta) (he : ∀ whole, isTrue a X.env whole = (do let v ← whole; standAt a.pos; holding [v] (truthy v))) :
    PT X a (fun σ H Q => ta σ H fun x H' => ∃ k, TruV X.K x H' k ∧ Q k H') := by
  intro pins s σ H Q I h
  exact isTrue_plain (thn (ha pins s σ H _ I h) fun v s1 ⟨x, H1, I1, r1, q1⟩ => tru_ok pins s1 σ H1 x v Q I1 r1 q1) (he _)
theorem op_add_str : OpR X (binaryOp .Add) (fun x y H Q => ∃ i j, x = .str i ∧ y = .str j ∧ i.length + j.length ≤ sizeLine ∧ Q (.str (i ++ j)) H) := by
  intro pins s σ H x y v u Q I rx ry h
  obtain ⟨i, j, rfl, rfl, hz, q⟩ := h
  obtain ⟨t, rfl⟩ := rx
  obtain ⟨t', rfl⟩ := ry
  exact add_str (fun t' tk => ⟨.str (i ++ j), H, I.tok _, ⟨_, rfl⟩, q⟩) hz
theorem vals1 {x : V} {us : List Value} (r : Vals [x] us) : ∃ u, us = [u] ∧ RelV x u := by
  cases r with
  | cons r1 r2 => cases r2; exact ⟨_, rfl, r1⟩
theorem vals2 {x y : V} {us : List Value} (r : Vals [x, y] us) : ∃ u w', us = [u, w'] ∧ RelV x u ∧ RelV y w' := by
  cases r with
  | cons r1 r2 =>
    cases r2 with
    | cons r3 r4 => cases r4; exact ⟨_, _, rfl, r1, r3⟩
theorem call_max2 (hc : X.calm = true) : CallR X (.builtin "max") (fun xs H Q => ∃ i j, xs = [.int i, .int j] ∧ Q (.int (if j > i then j else i)) H) := by
  intro pins s σ H xs us Q I r h
  obtain ⟨i, j, rfl, q⟩ := h
  obtain ⟨u, w', rfl, ⟨t, rfl⟩, ⟨t', rfl⟩⟩ := vals2 r
  refine max_two_ints (I.ok.hd hc) fun h' tk k => ⟨_, H, I.kept k, ?_, q⟩
  by_cases hj : j > i
  · rw [if_pos hj, if_pos hj]; exact ⟨_, rfl⟩
  · rw [if_neg hj, if_neg hj]; exact ⟨_, rfl⟩
theorem call_min2 (hc : X.calm = true) : CallR X (.builtin "min") (fun xs H Q => ∃ i j, xs = [.int i, .int j] ∧ Q (.int (if j < i then j else i)) H) := by
  intro pins s σ H xs us Q I r h
  obtain ⟨i, j, rfl, q⟩ := h
  obtain ⟨u, w', rfl, ⟨t, rfl⟩, ⟨t', rfl⟩⟩ := vals2 r
  refine min_two_ints (I.ok.hd hc) fun h' tk k => ⟨_, H, I.kept k, ?_, q⟩
  by_cases hj : j < i
  · rw [if_pos hj, if_pos hj]; exact ⟨_, rfl⟩
  · rw [if_neg hj, if_neg hj]; exact ⟨_, rfl⟩
end
end L2
namespace L2
open PySem PySem.Spec PyProof.Rows
structure ObjM (h : Heap) (x dx C : Addr) (mA : Str → Option Value) : Prop where
  obj : h.get? x = some (PySem.W.instObj C dx)
  ns : h.Ns1 dx mA
  ne : dx ≠ x
section
variable {prog : Program} {w : World} {A : Around} {E : Value → Shared → Prop} {s : Shared} {K : PySem.W.Frag} {x dx C f : Addr} {mA : Str → Option Value} {name : Str} {v : Value}
end
def putF (f : Str) (v : V) : List (Str × V) → List (Str × V)
  | [] => [(f, v)]
  | (g, x) :: r => if g = f then (g, v) :: r else (g, x) :: putF f v r
theorem RelO.some_of {v : V} {o : Option Value} (r : RelO (some v) o) : ∃ u, o = some u ∧ RelV v u := by
  cases o with
  | none => exact (show False from r).elim
  | some u => exact ⟨u, rfl, r⟩
section
variable {P : Program} {w : World} {H H' : Hp} {h h' : Heap} {a C dx : Addr} {fs fs' : List (Str × V)}
end
structure Cls (K : PySem.W.Frag) (C : Addr) : Prop where
  pg : PySem.W.plainGet K C Str.empty = true
  hd : PySem.W.hasDictIn K C = true
  po : PySem.W.plainOver K C = true
  sa : PySem.W.findIn K (.ref C) "__setattr__" = some (some (.builtin "object.__setattr__"))
theorem Cls.get {K : PySem.W.Frag} {C : Addr} (c : Cls K C) (f : Str) : PySem.W.plainGet K C f = true := c.pg
structure Con (K : PySem.W.Frag) (C : Addr) (f : Str) (v : V) (u : Value) : Prop where
  at_ : PySem.W.findIn K (.ref C) f = some (some u)
  rel : RelV v u
  get : PySem.W.specialIn K u "__get__" = some none
  cp : PySem.W.copiedNames.contains f = false
structure Meth (K : PySem.W.Frag) (C : Addr) (m : Str) (f : Addr) : Prop where
  at_ : PySem.W.findIn K (.ref C) m = some (some (.ref f))
  fn : PySem.W.isFn K (.ref f) = true
  kp : PySem.W.keepIn K (.ref f) = true
section
variable {X : Cx} {pins : List (Addr × Obj)} {σ : St} {H : Hp} {s : Shared} {a C dx : Addr} {fs : List (Str × V)} {f : Str} {v : V} {A : Around} {E : Value → Shared → Prop}
theorem Inv.made (I : Inv X pins σ H s) : Inv X pins σ (upd (upd H s.heap.objs.size (.own (s.heap.objs.size + 1))) (s.heap.objs.size + 1) (.ins C s.heap.objs.size []))
    { s with heap := (s.heap.push PySem.W.emptyDict).push (PySem.W.instObj C s.heap.objs.size) } := by
  have e1 : (s.heap.push PySem.W.emptyDict).get? s.heap.objs.size = some PySem.W.emptyDict := Heap.get?_push_size s.heap rfl
  have e2 : ((s.heap.push PySem.W.emptyDict).push (PySem.W.instObj C s.heap.objs.size)).get? (s.heap.objs.size + 1) = some (PySem.W.instObj C s.heap.objs.size) := by
    have := Heap.get?_push_size (s.heap.push PySem.W.emptyDict) (o := PySem.W.instObj C s.heap.objs.size) rfl
    rwa [Heap.size_push] at this
  have e3 : (s.heap.push PySem.W.emptyDict).Ns s.heap.objs.size (fun _ => none) := ⟨PySem.W.emptyDict, #[], _, e1, rfl, (fun e he => absurd he (by simp)), fun _ => rfl⟩
  have I1 := I.laid (a := s.heap.objs.size) (o := .own (s.heap.objs.size + 1)) (h' := s.heap.push PySem.W.emptyDict) (t' := s.toks) (fun b u q => Heap.get?_push_of_some _ q) (Nat.le_refl _) ⟨_, e1⟩
  refine I1.laid (a := s.heap.objs.size + 1) (o := .ins C s.heap.objs.size []) (t' := s.toks) (fun b u q => Heap.get?_push_of_some _ q) (Nat.le_of_eq (Heap.size_push _ _)) ?_
  have ne : s.heap.objs.size ≠ s.heap.objs.size + 1 := Nat.ne_of_lt (Nat.lt_succ_self _)
  refine ⟨by rw [upd_ne ne, upd_same], Nat.zero_le _, ne, e2, fun _ => none, (Heap.Ns1.of_empty e3).at fun o q => Heap.get?_push_of_some _ q, fun _ => True.intro, fun y hy => absurd rfl hy⟩
end
section
variable {X : Cx} {o e value : Expr} {f : Str} {pos pos' tpos : Pos} {ta tv : TE}
end
section
variable {X : Cx} {pins : List (Addr × Obj)} {σ : St} {H : Hp} {s : Shared} {A : Around} {E : Value → Shared → Prop} {Q : Value → Shared → Prop} {c : Value} {b : Bool}
inductive TyOf (K : PySem.W.Frag) (H : Hp) : V → Value → Prop where
  | non : TyOf K H .non (.type "NoneType")
  | bl (x : Bool) : TyOf K H (.bl x) (.type "bool")
  | int (i : Int) : TyOf K H (.int i) (.type "int")
  | str (x : Str) : TyOf K H (.str x) (.type "str")
  | flt (x : UInt64) : TyOf K H (.flt x) (.type "float")
  | lst {a : Addr} {xs : List V} (e : H a = some (.lst xs)) : TyOf K H (.ref a) (.type "list")
  | frz {a : Addr} {o : Obj} {xs : List V} (e : H a = some (.frz o (.lst xs))) : TyOf K H (.ref a) (.type "list")
  | tup {a : Addr} {xs : List V} (e : H a = some (.tup xs)) : TyOf K H (.ref a) (.type "tuple")
  | dK {a : Addr} {kvs : List (Key × V)} (e : H a = some (.dK kvs)) : TyOf K H (.ref a) (.type "dict")
  | dT {a : Addr} {kvs : List (List Key × V)} (e : H a = some (.dT kvs)) : TyOf K H (.ref a) (.type "dict")
  | ins {a C dx : Addr} {fs : List (Str × V)} (e : H a = some (.ins C dx fs)) (cl : Cls K C) (ha : PySem.W.findIn K (.ref C) "__class__" = some (some (.builtin "object.__class__")))
      (hn : PySem.W.specialIn K (.builtin "object.__class__") "__get__" = some (some (.builtin "getset_descriptor.__get__"))) (htk : PySem.W.takesIn K (.builtin "object.__class__") = some true)
      (hm : PySem.W.mroIn K C (.type "object") = some true) : TyOf K H (.ref a) (.ref C)
end
end L2
namespace L2
open PySem PySem.Spec PyProof.Rows
structure Room (k : Nat) (A : Around) : Prop where
  hd : A.handled = none
  dp : A.depth + 3 * k + 5 < recursionLimit
  un : A.units + 16 * k + 200 < cLine
theorem Room.mono {j k : Nat} {A : Around} (r : Room k A) (h : j ≤ k) : Room j A := ⟨r.hd, by have := r.dp; omega, by have := r.un; omega⟩
theorem Room.deeper {k : Nat} {A : Around} (r : Room (k + 1) A) (env : Env) : Room k (A.deeper env) :=
  ⟨r.hd, by have := r.dp; show A.depth + 1 + 3 * k + 5 < _; omega, by have := r.un; show A.units + 3 + 16 * k + 200 < _; omega⟩
theorem Room.in1 {k : Nat} {A : Around} (r : Room (k + 1) A) : Room k A.in1 :=
  ⟨r.hd, by have := r.dp; show A.depth + 3 * k + 5 < _; omega, by have := r.un; show A.units + 1 + 16 * k + 200 < _; omega⟩
theorem make_depth {A : Around} {C : Addr} {us : List Value} {kw : List (Str × Value)} : (A.under (.builtin "type.__call__" ⟨.ref C :: us, kw⟩)).depth = A.depth + 1 := by
  first | rfl | simp [Around.under, Code.weight, Code.isCreation, Code.isGuard, Code.isCaller, Code.frames, Code.isFrame, guardIds]
theorem make_units {A : Around} {C : Addr} {us : List Value} {kw : List (Str × Value)} : (A.under (.builtin "type.__call__" ⟨.ref C :: us, kw⟩)).units = A.units + 1 := by
  first | rfl | simp [Around.under, Code.cUnits, Code.frames, Code.isFrame]
theorem Room.make {k : Nat} {A : Around} (r : Room (k + 1) A) (C : Addr) (us : List Value) (kw : List (Str × Value)) : Room k (A.under (.builtin "type.__call__" ⟨.ref C :: us, kw⟩)) :=
  ⟨r.hd, by have := r.dp; rw [make_depth]; omega, by have := r.un; rw [make_units]; omega⟩
theorem Room.depth {k : Nat} {A : Around} (r : Room k A) : A.depth < recursionLimit := by have := r.dp; omega
theorem Room.units {k : Nat} {A : Around} (r : Room k A) : A.units + 64 < cLine := by have := r.un; omega
def tNil : TA := fun _ H Q => Q [] H
def tCons (ta : TE) (tr : TA) : TA := fun σ H Q => ta σ H fun x H1 => tr σ H1 fun xs H2 => Q (x :: xs) H2
section
variable {X : Cx} {e : Expr} {es : List Expr} {te : TE} {t : TA} {pos : Pos}
theorem pa_nil : PA X [] tNil := fun _ _ _ _ H Q I h => Calls.spliced_nil ⟨[], H, I, .nil, h⟩
theorem pa_cons (ha : PE X e te) (hr : PA X es t) (hs : starEach (e :: es) X.env = (false, eval e X.env) :: starEach es X.env := by rfl) : PA X (e :: es) (tCons te t) := by
  intro pos pins s σ H Q I h
  rw [hs]
  show wpAny _ _ (spliced ((false, eval e X.env) :: backTo pos (starEach es X.env))) _ _ s
  refine Calls.spliced_cons (thn (ha pins s σ H _ I h) fun u s1 ⟨x, H1, I1, r1, q1⟩ => ?_)
  exact thn (hr pos pins s1 σ H1 _ I1 q1) fun us s2 ⟨xs, H2, I2, r2, q2⟩ => ⟨x :: xs, H2, I2, .cons r1 r2, q2⟩
def tTup (t : TA) : TE := fun σ H Q => t σ H fun xs H1 => xs.length ≤ sizeLine ∧ ∀ p, H1 p = none → Q (.ref p) (upd H1 p (.tup xs))
def tLst (t : TA) : TE := fun σ H Q => t σ H fun xs H1 => xs.length ≤ sizeLine ∧ ∀ p, H1 p = none → Q (.ref p) (upd H1 p (.lst xs))
theorem pe_tup {x1} (h : PA X es t) : PE X (.Tuple es x1 pos) (tTup t) := by
  intro pins s σ H Q I hq
  refine wpAny_Tuple_spliced (thn (h pos pins s σ H _ I hq) fun us s1 ⟨xs, H1, I1, r, z, q⟩ => ⟨by rw [← r.length]; exact z, ?_⟩)
  have hf : H1 s1.heap.objs.size = none := I1.hok.fresh (Nat.le_refl _)
  refine ⟨.ref s1.heap.objs.size, upd H1 s1.heap.objs.size (.tup xs), I1.laid (t' := s1.toks) (fun b u e => Heap.get?_push_of_some _ e) (Nat.le_refl _) ?_, rfl, q _ hf⟩
  exact ⟨z, us, r, ⟨_, Heap.get?_push_size _ rfl, rfl, _, rfl⟩⟩
theorem pe_lst (h : PA X es t) : PE X (.List es pos) (tLst t) := by
  intro pins s σ H Q I hq
  refine wpAny_List_spliced (thn (h pos pins s σ H _ I hq) fun us s1 ⟨xs, H1, I1, r, z, q⟩ => ⟨by rw [← r.length]; exact z, ?_⟩)
  have hf : H1 s1.heap.objs.size = none := I1.hok.fresh (Nat.le_refl _)
  refine ⟨.ref s1.heap.objs.size, upd H1 s1.heap.objs.size (.lst xs), I1.laid (t' := s1.toks) (fun b u e => Heap.get?_push_of_some _ e) (Nat.le_refl _) ?_, rfl, q _ hf⟩
  exact ⟨z, us, 0, r, Heap.get?_push_size _ rfl⟩
end
abbrev Sp := List V → Hp → VK → XK → Prop
abbrev CXT := List Env → Hp → Shared → XK → Value → Shared → Prop
structure Env0 (P : Program) (w : World) (K : PySem.W.Frag) (mg : Str → Option Value) (base : Heap) (A : Around) (outer : List Env) (s : Shared) (H : Hp) : Prop where
  frames : A.frames = some outer
  mod : Mod K mg base
  bs : ∀ b o, base.get? b = some o → s.heap.get? b = some o ∧ H b = none
  bsz : base.objs.size ≤ s.heap.objs.size
  funs : s.heap.FunFrames base outer
  frf : ∀ b ∈ frs outer, H b = none
  hok : HOk P w H s.heap
  bare : AllBare s.gens
def CE (outer : List Env) (P : Program) (w : World) (H : Hp) (s : Shared) (Q : VK) (u : Value) (s' : Shared) : Prop :=
  ∃ v H', s'.os = s.os ∧ AllBare s'.gens ∧ Un (frs outer) [] H H' s.heap s'.heap ∧ HOk P w H' s'.heap ∧ RelV v u ∧ Q v H'
def CR (CX : CXT) (outer : List Env) (P : Program) (w : World) (H : Hp) (s : Shared) (Q : VK) (E : XK) (r : Result) (s' : Shared) : Prop :=
  match r with
  | .ok (.ret u) => CE outer P w H s Q u s'
  | .ok _ => False
  | .error e => CX outer H s E e s'
structure FnOk (P : Program) (w : World) (K : PySem.W.Frag) (mg : Str → Option Value) (base : Heap) (CX : CXT) (k : Nat) (f : Addr) (fd : FuncData) (ps : List Str) (sp : Sp) : Prop where
  len : ∀ vs H Q E, sp vs H Q E → vs.length = ps.length
  run : ∀ (A : Around) (outer : List Env) (s : Shared) (H : Hp) (args : Args) (us : List Value) (vs : List V) (Q : VK) (E : XK), Room k A → Env0 P w K mg base A outer s H → BindsTo s fd args (ps.zip us) → Vals vs us → sp vs H Q E →
    codeAny (model P w) A (.call (.ref f) args) (CR CX outer P w H s Q E) s
theorem FnOk.mono {P : Program} {w : World} {K : PySem.W.Frag} {mg : Str → Option Value} {base : Heap} {CX : CXT} {j k : Nat} {f : Addr} {fd : FuncData} {ps : List Str} {sp : Sp} (F : FnOk P w K mg base CX j f fd ps sp) (h : j ≤ k) :
    FnOk P w K mg base CX k f fd ps sp := ⟨F.len, fun A outer s H args us vs Q E hr => F.run A outer s H args us vs Q E (hr.mono h)⟩
theorem Env0.make {P : Program} {w : World} {K : PySem.W.Frag} {mg : Str → Option Value} {base : Heap} {A : Around} {outer : List Env} {s : Shared} {H : Hp} (e : Env0 P w K mg base A outer s H) (C : Addr) (us : List Value) (kw : List (Str × Value)) :
    Env0 P w K mg base (A.under (.builtin "type.__call__" ⟨.ref C :: us, kw⟩)) outer s H := ⟨by first | exact e.frames | (simpa [Around.under, Code.envs, Code.isFrame, pushEnvs] using e.frames), e.mod, e.bs, e.bsz, e.funs, e.frf, e.hok, e.bare⟩
theorem Env0.in1 {P : Program} {w : World} {K : PySem.W.Frag} {mg : Str → Option Value} {base : Heap} {A : Around} {outer : List Env} {s : Shared} {H : Hp} (e : Env0 P w K mg base A outer s H) :
    Env0 P w K mg base A.in1 outer s H := ⟨e.frames, e.mod, e.bs, e.bsz, e.funs, e.frf, e.hok, e.bare⟩
section
variable {X : Cx} {pins : List (Addr × Obj)} {σ : St} {H : Hp} {s s' : Shared}
theorem Inv.env0 (I : Inv X pins σ H s) : Env0 X.prog X.w X.K X.mg X.base X.A X.stack s H :=
  ⟨I.ok.frames, I.ok.mod, I.bs, Nat.le_trans I.ok.bsz I.sz, I.stack, I.stkFree, I.hok, I.bare⟩
theorem Inv.after {Q : VK} {u : Value} (I : Inv X pins σ H s) (h : CE X.stack X.prog X.w H s Q u s') : EP X pins σ Q u s' := by
  obtain ⟨v, H', os, bare, un, hok, r, q⟩ := h
  obtain ⟨hh, g, d, t, os'⟩ := s'
  obtain rfl : os' = s.os := os
  exact ⟨v, H', I.call (h' := hh) (g' := g) (d' := d) (t' := t) (ch := []) un hok bare (fun b z => absurd z (by simp)), r, q⟩
end
def tCall (sp : Sp) (dvs : List V) (E : XK) (t : TA) : TE := fun σ H Q => t σ H fun vs H1 => sp (vs ++ dvs) H1 Q E
def Binds (K : PySem.W.Frag) (fd : FuncData) (ps : List Str) (ds : List Value) : Prop :=
  ∀ (s : Shared) (us : List Value), K.In s.heap → (us ++ ds).length = ps.length → BindsTo s fd ⟨us, []⟩ (ps.zip (us ++ ds))
theorem Binds.all {K : PySem.W.Frag} {fd : FuncData} {ps : List Str} (h : ∀ us : List Value, us.length = ps.length → bindArgs fd ⟨us, []⟩ = pure (ps.zip us)) : Binds K fd ps [] := fun s us _ hl => by
  rw [List.append_nil] at hl ⊢
  exact .of_eq (h us hl)
def Passes (CX : CXT) (X : Cx) (E : XK) : Prop := ∀ (pins : List (Addr × Obj)) (σ : St) (H : Hp) (s : Shared) (e : Value) (s' : Shared), Inv X pins σ H s → CX X.stack H s E e s' → X.xe e s'
section
variable {X : Cx} {CX : CXT} {k : Nat} {f C : Addr} {fd : FuncData} {ps : List Str} {sp : Sp} {dvs : List V} {ds : List Value} {E : XK} {x m : Str} {p pos apos : Pos} {e o : Expr} {es : List Expr} {ta : TE} {t : TA}
theorem run_fn {pins : List (Addr × Obj)} {σ : St} {H : Hp} {s : Shared} {Q : VK} {us : List Value} {vs : List V} (F : FnOk X.prog X.w X.K X.mg X.base CX k f fd ps sp) (hr : Room k X.A) (hb : Binds X.K fd ps ds) (hd : Vals dvs ds) (hx : Passes CX X E)
    (I : Inv X pins σ H s) (r : Vals vs us) (h : sp (vs ++ dvs) H Q E) : wpAny (model X.prog X.w) X.A (call (.ref f) us) (EP X pins σ Q) X.xe s := by
  have r2 : Vals (vs ++ dvs) (us ++ ds) := r.append hd
  have hl : (us ++ ds).length = ps.length := by rw [← r2.length]; exact F.len _ _ _ _ h
  refine wpAny_call (codeAny_mono (F.run X.A X.stack s H ⟨us, []⟩ (us ++ ds) (vs ++ dvs) Q E hr I.env0 (hb s us I.kIn hl) r2 h) fun r s' hq => ?_)
  cases r with
  | error e => exact hx pins σ H s e s' I hq
  | ok fl =>
    cases fl with
    | ret u => exact I.after hq
    | next => exact False.elim hq
    | brk => exact False.elim hq
    | cont => exact False.elim hq
theorem pe_call (F : FnOk X.prog X.w X.K X.mg X.base CX k f fd ps sp) (hr : Room k X.A) (hg : Gl X x) (hm : X.mg x = some (.ref f)) (hk : PySem.W.keepIn X.K (.ref f) = true) (hb : Binds X.K fd ps ds) (hd : Vals dvs ds) (hx : Passes CX X E)
    (ha : PA X (e :: es) t) (hdb : (x == ("__debug__" : Str)) = false := by decide) (he : starEach (e :: es) X.env = (false, eval e X.env) :: starEach es X.env := by rfl) (hpl : (backTo pos (starEach es X.env)).any (·.1) = false := by rfl) :
    PE X (.Call (.Name x p) (e :: es) [] pos) (tCall sp dvs E t) := by
  intro pins s σ H Q I h
  refine wpAny_Call_Name_kw (ld_glob I hg hm ?_ hdb)
  refine PySem.W.callWith_K (h₀ := X.base) I.ok.mod.kin hk (thn (ha pos pins s σ H _ I h) fun us s1 ⟨vs, H1, I1, r, q⟩ => ⟨I1.kIn, ?_⟩) he hpl
  exact run_fn F hr hb hd hx I1 r q
structure Mk (K : PySem.W.Frag) (C f : Addr) : Prop where
  makes : PySem.W.makesIn K C = true
  init : PySem.W.findIn K (.ref C) "__init__" = some (some (.ref f))
  fn : PySem.W.isFn K (.ref f) = true
  kp : PySem.W.keepIn K (.ref C) = true
end
section
variable {X : Cx} {CX : CXT} {k : Nat} {f C : Addr} {fd : FuncData} {ps ks : List Str} {sp : Sp} {E : XK} {x m : Str} {p pos apos kpos : Pos} {e o : Expr} {es : List Expr} {kws : List Keyword} {te ta : TE} {t tk : TA} {nm : Option Str}
structure KBinds (K : PySem.W.Frag) (fd : FuncData) (ps ks : List Str) (g : List Value → List Value → List Value) (gV : List V → List V → List V) : Prop where
  to : ∀ (s : Shared) (us ws : List Value), K.In s.heap → (g us ws).length = ps.length → BindsTo s fd ⟨us, ks.zip ws⟩ (ps.zip (g us ws))
  rel : ∀ {vs : List V} {us : List Value} {zs : List V} {ws : List Value}, Vals vs us → Vals zs ws → Vals (gV vs zs) (g us ws)
variable {g : List Value → List Value → List Value} {gV : List V → List V → List V}
end
structure FnScope (N P : List Str) (sc : Scope) : Prop where
  kind : sc.kind = .function
  co : sc.isCoroutine = false
  gen : sc.isGenerator = false
  nd : N.Nodup
  pre : N.take P.length = P
  par : ∀ x ∈ P, sc.names.lookup x = some .local ∨ sc.names.lookup x = some .cell
  nofree : ∀ y ∈ sc.names, y.2 ≠ .free
theorem bindL_out {kindOf : Str → Option NameKind} {x : Str} : ∀ {binds : List (Str × Value)} {m : Str → Option Value}, (∀ v, (x, v) ∉ binds) → bindL kindOf binds m x = m x
  | [], _, _ => rfl
  | (n, v) :: r, m, h => by
    unfold bindL
    rw [bindL_out fun w hw => h w (List.mem_cons_of_mem _ hw)]
    split
    · have : x ≠ n := by rintro rfl; exact h v List.mem_cons_self
      simp [this]
    · rfl
theorem bindC_out {kindOf : Str → Option NameKind} {x : Str} : ∀ {binds : List (Str × Value)} {m : Str → Option Value}, (∀ v, (x, v) ∉ binds) → bindC kindOf binds m x = m x
  | [], _, _ => rfl
  | (n, v) :: r, m, h => by
    unfold bindC
    rw [bindC_out fun w hw => h w (List.mem_cons_of_mem _ hw)]
    split
    · rfl
    · have : x ≠ n := by rintro rfl; exact h v List.mem_cons_self
      simp [this]
theorem bindL_get {kindOf : Str → Option NameKind} {x : Str} {v : Value} : ∀ {P : List Str} {vs : List Value} {i : Nat} {m : Str → Option Value}, P.Nodup → P[i]? = some x → vs[i]? = some v → kindOf x = some .local →
    bindL kindOf (P.zip vs) m x = some v
  | [], _, _, _, _, h, _, _ => by simp at h
  | _ :: _, [], _, _, _, _, h, _ => by simp at h
  | p :: P, w :: vs, 0, m, nd, h1, h2, hk => by
    simp at h1 h2; subst h1; subst h2
    show bindL kindOf ((p, w) :: P.zip vs) m p = _
    unfold bindL
    rw [bindL_out fun v hv => (List.nodup_cons.mp nd).1 (List.of_mem_zip hv).1, if_pos hk]
    simp
  | p :: P, w :: vs, i + 1, m, nd, h1, h2, hk => by
    show bindL kindOf ((p, w) :: P.zip vs) m x = _
    unfold bindL
    exact bindL_get (i := i) (List.nodup_cons.mp nd).2 (by simpa using h1) (by simpa using h2) hk
theorem bindC_get {kindOf : Str → Option NameKind} {x : Str} {v : Value} : ∀ {P : List Str} {vs : List Value} {i : Nat} {m : Str → Option Value}, P.Nodup → P[i]? = some x → vs[i]? = some v → kindOf x ≠ some .local →
    bindC kindOf (P.zip vs) m x = some v
  | [], _, _, _, _, h, _, _ => by simp at h
  | _ :: _, [], _, _, _, _, h, _ => by simp at h
  | p :: P, w :: vs, 0, m, nd, h1, h2, hk => by
    simp at h1 h2; subst h1; subst h2
    show bindC kindOf ((p, w) :: P.zip vs) m p = _
    unfold bindC
    rw [bindC_out fun v hv => (List.nodup_cons.mp nd).1 (List.of_mem_zip hv).1, if_neg hk]
    simp
  | p :: P, w :: vs, i + 1, m, nd, h1, h2, hk => by
    show bindC kindOf ((p, w) :: P.zip vs) m x = _
    unfold bindC
    exact bindC_get (i := i) (List.nodup_cons.mp nd).2 (by simpa using h1) (by simpa using h2) hk
def start (N : List Str) (vs : List V) : St := vs.map some ++ List.replicate (N.length - vs.length) none
def cxOf (CX : CXT) (P : Program) (w : World) (K : PySem.W.Frag) (mg : Str → Option Value) (base : Heap) (N : List Str) (qual : Str) (scope : Scope) (f : Addr) (cd : Value) (A : Around) (outer : List Env) (s : Shared) (H : Hp) (E : XK) : Cx where
  prog := P
  w := w
  K := K
  mg := mg
  base := base
  A := A.deeper (envOfC qual scope s.heap.objs.size f cd)
  N := N
  s₀ := s
  H₀ := H
  env := envOfC qual scope s.heap.objs.size f cd
  outer := outer
  stack := envOfC qual scope s.heap.objs.size f cd :: outer
  ex := []
  calm := true
  fn := fun _ => true
  pn := []
  xe := fun e s' => wpAny (model P w) (A.deeper (envOfC qual scope s.heap.objs.size f cd)) (leaving (envOfC qual scope s.heap.objs.size f cd) e) (fun _ s'' => CX outer H s E e s'') (fun e' s'' => CX outer H s E e' s'') s'
theorem cell_has {sc : Scope} {n : Nat} {x : Str} (h : sc.names.lookup x = some .cell) : ∃ c, (cellsFrom n sc.names []).lookup x = some c := by
  have q := PySem.W.cellsFrom_some sc.names n [] (.inl h)
  exact Option.isSome_iff_exists.mp q
theorem inv_start {CX : CXT} {P : Program} {w : World} {K : PySem.W.Frag} {mg : Str → Option Value} {base : Heap} {N ps : List Str} {qual : Str} {scope : Scope} {f : Addr} {cd : Value} {A : Around} {outer : List Env} {s s1 : Shared} {H : Hp} {E : XK} {us : List Value} {vs : List V}
    (S : FnScope N ps scope) (hd : A.handled = none) (e0 : Env0 P w K mg base A outer s H) (hl : vs.length = ps.length) (r : Vals vs us)
    (x : InCallC s s.heap.objs.size (bindL (envOfC qual scope s.heap.objs.size f cd).kindOf (ps.zip us) fun _ => none) (cellsFrom (s.heap.objs.size + 1) scope.names []) (bindC (envOfC qual scope s.heap.objs.size f cd).kindOf (ps.zip us) fun _ => none) s1) :
    Inv (cxOf CX P w K mg base N qual scope f cd A outer s H E) [] (start N vs) H s1 := by
  have hpl : ps.length ≤ N.length := by have := congrArg List.length S.pre; rw [List.length_take] at this; omega
  obtain ⟨h1, tk, rfl, hk⟩ := x.done
  have noA : ∀ b : Addr, b ∉ (cxOf CX P w K mg base N qual scope f cd A outer s H E).ex := fun b z => absurd (show b ∈ ([] : List Addr) from z) (by simp)
  refine ⟨⟨e0.mod, S.kind, rfl, rfl, Nat.le_refl _, fun y z c h1 h2 => ?_, fun y hy => ?_, fun y c _ h => ?_, fun _ => hd, Around.frames_deeper e0.frames, .inr ⟨rfl, rfl⟩, fun b z => absurd z (noA b), e0.bs, e0.bsz, fun b _ _ => noA b, fun b z => absurd z (noA b), e0.funs, e0.frf⟩,
    rfl, e0.bare, Un.kept hk, ⟨_, x.toInCall.ns, fun i y v h1 h2 h3 => ?_⟩, fun y c h => ⟨_, x.cell y c h⟩, e0.hok.fresh (Nat.le_refl _), fun y c h => ?_, fun p hp => absurd (show p ∈ ([] : List (Addr × Obj)) from hp) (by simp), e0.hok.kept hk, ?_⟩
  · exact name_of_addr x.apart (PySem.mem_of_lookup h1) (PySem.mem_of_lookup h2)
  · have hy : scope.names.lookup y = some .cell ∨ scope.names.lookup y = some .free := hy
    rcases hy with hy | hy
    · exact cell_has hy
    · exact absurd rfl (S.nofree _ (PySem.mem_of_lookup hy))
  · exact Nat.le_of_lt (x.above y c (PySem.mem_of_lookup h))
  · have hi : i < vs.length := by
      unfold start at h2
      by_cases hi : i < vs.length
      · exact hi
      · rw [List.getElem?_append_right (by simpa using hi)] at h2
        rw [List.getElem?_replicate] at h2
        split at h2 <;> cases h2
    have ha : vs[i]? = some v := by
      unfold start at h2
      rw [List.getElem?_append_left (by simpa using hi), List.getElem?_map] at h2
      cases e : vs[i]? with
      | none => rw [e] at h2; cases h2
      | some a => rw [e] at h2; cases h2; rfl
    obtain ⟨u, hu, rv⟩ := r.get ha
    have hp : ps[i]? = some y := by
      rw [← S.pre, List.getElem?_take_of_lt (by omega)]; exact h1
    have ndP : ps.Nodup := by rw [← S.pre]; exact S.nd.sublist (List.take_sublist _ _)
    refine ⟨u, rv, ?_⟩
    rcases S.par y (List.mem_of_getElem? hp) with k | k
    · exact .inl ⟨k, bindL_get ndP hp hu k⟩
    · obtain ⟨c, e⟩ := cell_has (n := s.heap.objs.size + 1) k
      refine .inr ⟨.inl k, c, e, ?_⟩
      have q := x.cell y c e
      rw [bindC_get ndP hp hu (by show scope.names.lookup y ≠ _; rw [k]; decide)] at q
      exact q
  · exact e0.hok.fresh (Nat.le_of_lt (x.above y c (PySem.mem_of_lookup h)))
  · unfold start
    show _ = N.length
    rw [List.length_append, List.length_map, List.length_replicate]
    omega
theorem fn_of {CX : CXT} {P : Program} {w : World} {K : PySem.W.Frag} {mg : Str → Option Value} {base : Heap} {k : Nat} {f : Addr} {name qual : Str} {params : Arguments} {body : List Stmt} {scope : Scope} {dV kV doc pm cdv ct oc : Value} {an od : Option Addr}
    {osl : Array (Option Value)} {N ps : List Str} {sp : Sp} (lk : K.lookup f = some ⟨oc, od, .func (PySem.W.fnOf name qual params body scope dV kV doc pm an cdv ct), osl⟩) (hcd : PySem.W.codeIn K cdv qual = true) (S : FnScope N ps scope)
    (len : ∀ vs H Q E, sp vs H Q E → vs.length = ps.length)
    (hbody : ∀ (A : Around) (outer : List Env) (s : Shared) (H : Hp) (vs : List V) (Q : VK) (E : XK), Room k (A.deeper (envOfC qual scope s.heap.objs.size f cdv)) → sp vs H Q E →
      ∃ t, PSs (cxOf CX P w K mg base N qual scope f cdv A outer s H E) body t ∧ t { nx := fun _ H' => Q .non H', rt := Q } (start N vs) H) :
    FnOk P w K mg base CX (k + 1) f (PySem.W.fnOf name qual params body scope dV kV doc pm an cdv ct) ps sp := by
  refine ⟨len, fun A outer s H args us vs Q E hr e0 hb r hsp => ?_⟩
  have hl := len _ _ _ _ hsp
  have KX : K.In s.heap := e0.mod.kin.keeps fun b o e => (e0.bs b o e).1
  have lim : s.heap.NoLimit := e0.mod.nolimit.keeps fun b o e => (e0.bs b o e).1
  have hkind : ∀ y ∈ ps.zip us, scope.names.lookup y.1 = some .local ∨ (scope.names.lookup y.1 = some .cell ∧ ((cellsFrom (s.heap.objs.size + 1) scope.names []).lookup y.1).isSome = true) := fun ⟨n, v⟩ hy => by
    rcases S.par n (List.of_mem_zip hy).1 with q | q
    · exact .inl q
    · exact .inr ⟨q, PySem.W.cellsFrom_some _ _ _ (.inl q)⟩
  refine codeAny_call_function hr.depth (KX _ _ lk) rfl S.co S.gen rfl (PySem.W.codeRec_of KX hcd) (hb _ _ _ _ ?_)
  refine wpAny_newFunctionEnv_cells S.kind hkind fun env he s1 x => ?_
  subst he
  refine ⟨lim.keeps x.toInCall.keep, codeAny_func ?_⟩
  obtain ⟨t, ht, hq⟩ := hbody A outer s H vs Q E (hr.deeper _) hsp
  have I : Inv (cxOf CX P w K mg base N qual scope f cdv A outer s H E) [] (start N vs) H s1 := inv_start S hr.hd e0 hl r x
  refine wpAny_mono (ht [] s1 (start N vs) H _ I hq) (fun fl s' hs => ?_) fun e s' hs => hs
  have fin : ∀ {σ' : St} {H' : Hp} {v : V} {u : Value}, Inv (cxOf CX P w K mg base N qual scope f cdv A outer s H E) [] σ' H' s' → RelV v u → Q v H' → CE outer P w H s Q u s' :=
    fun {σ' H' v u} J rv q => ⟨v, H', J.os, J.bare, J.base, J.hok, rv, q⟩
  cases fl with
  | ret u =>
    obtain ⟨v, σ', H', J, rv, q⟩ := hs
    exact fin J rv q
  | next =>
    obtain ⟨σ', H', J, q⟩ := hs
    exact fin (v := V.non) (u := Value.none) J rfl q
  | brk =>
    obtain ⟨_, _, _, q⟩ := hs
    exact False.elim q
  | cont =>
    obtain ⟨_, _, _, q⟩ := hs
    exact False.elim q
end L2
namespace L2
open PySem PySem.Spec PyProof.Rows
section
variable {X : Cx} {x : Str} {p pos : Pos} {e : Expr} {es : List Expr} {t : TA} {id T : String} {r : List V → Hp → VK → Prop}
def tCB (r : List V → Hp → VK → Prop) (t : TA) : TE := fun σ H Q => t σ H fun vs H1 => r vs H1 Q
theorem pe_callB (hc : CallR X (.builtin id) r) (hg : Gl X x) (hm : X.mg x = none) (hv : bootBuiltins x = some (.builtin id)) (ha : PA X (e :: es) t) (hn : x ≠ "__name__" := by decide) (hdb : (x == ("__debug__" : Str)) = false := by decide)
    (he : starEach (e :: es) X.env = (false, eval e X.env) :: starEach es X.env := by rfl) (hpl : (backTo pos (starEach es X.env)).any (·.1) = false := by rfl) : PE X (.Call (.Name x p) (e :: es) [] pos) (tCB r t) := by
  intro pins s σ H Q I h
  refine wpAny_Call_Name_kw (ld_blt I hg hm hv ?_ hn hdb)
  exact PyProof.Rows.callWith_builtin1 (thn (ha pos pins s σ H _ I h) fun us s1 ⟨vs, H1, I1, r1, q1⟩ => hc pins s1 σ H1 vs us Q I1 r1 q1) he hpl
theorem pe_callTy (hc : CallR X (.type T) r) (hg : Gl X x) (hm : X.mg x = none) (hv : bootBuiltins x = some (.type T)) (ha : PA X (e :: es) t) (hn : x ≠ "__name__" := by decide) (hdb : (x == ("__debug__" : Str)) = false := by decide)
    (he : starEach (e :: es) X.env = (false, eval e X.env) :: starEach es X.env := by rfl) (hpl : (backTo pos (starEach es X.env)).any (·.1) = false := by rfl) : PE X (.Call (.Name x p) (e :: es) [] pos) (tCB r t) := by
  intro pins s σ H Q I h
  refine wpAny_Call_Name_kw (ld_blt I hg hm hv ?_ hn hdb)
  exact PyProof.Rows.callWith_type1 (thn (ha pos pins s σ H _ I h) fun us s1 ⟨vs, H1, I1, r1, q1⟩ => hc pins s1 σ H1 vs us Q I1 r1 q1) he hpl
end
end L2
namespace HT
open PySem PyProof.Rows
section
open PySem.SeqAt
open PySem.AutoSeq1 (wpAny_loadPart')
open PySem.MeetsSeq PySem.MeetsSeq2 PySem.MeetsSeq3
end
section
variable {prog : Program} {w : World} {A : Around} {E : Value → Shared → Prop} {s : Shared}
theorem cat_tup {t b : Addr} {vs ws : List Value} {Q : Value → Shared → Prop} (ht : IsTup s.heap t vs.toArray) (hb : IsTup s.heap b ws.toArray) (hv : vs ≠ [])
    (h1 : ws = [] → Q (.ref t) s) (h2 : ws ≠ [] → Q (.ref s.heap.objs.size) { s with heap := s.heap.push { cls := .type "tuple", data := .seq (vs ++ ws).toArray } })
    (hsz : vs.length + ws.length ≤ sizeLine) : wpAny (model prog w) A (binaryOp .Add (.ref t) (.ref b)) Q E s := by
  obtain ⟨⟨cls, dd, data, sl⟩, ho, hc, n, hd⟩ := id ht
  obtain ⟨⟨cls2, dd2, data2, sl2⟩, ho2, hc2, n2, hd2⟩ := id hb
  simp only at hc hd hc2 hd2
  subst hc hd hc2 hd2
  have e : vs.toArray ++ ws.toArray = (vs ++ ws).toArray := by simp
  by_cases hw : ws = []
  · exact concat_meets ⟨_, ho, rfl⟩ ⟨_, ho2, rfl⟩ noFill_tuple_add seq_tuple_add PySem.F.slot_tuple_add PySem.F.entry_tuple_add (PySem.F.args_tuple_add_2 _ _)
      (tuple_addW1 t b vs.toArray ws.toArray n n2 dd dd2 sl sl2 (by simpa using hv) (by simp [hw])) ⟨ho, ho2, h1 hw⟩
  · refine concat_meets ⟨_, ho, rfl⟩ ⟨_, ho2, rfl⟩ noFill_tuple_add seq_tuple_add PySem.F.slot_tuple_add PySem.F.entry_tuple_add (PySem.F.args_tuple_add_2 _ _)
      (tuple_addW2 t b vs.toArray ws.toArray n n2 dd dd2 sl sl2 (by simpa using hv) (by simpa using hw) (by rw [List.size_toArray, List.size_toArray]; exact hsz)) ⟨ho, ho2, ?_⟩
    rw [e]
    exact h2 hw
def sIx (n d : Nat) : Option Int → Nat
  | none => d
  | some v => if v < 0 then (v + (n : Int)).toNat else min v.toNat n
theorem sIx_none (n d : Nat) : sIx n d none = d := rfl
theorem sIx_nat (n d k : Nat) : sIx n d (some (k : Int)) = min k n := by
  show (if (k : Int) < 0 then ((k : Int) + (n : Int)).toNat else min (k : Int).toNat n) = min k n
  rw [if_neg (by omega), Int.toNat_natCast]
theorem sIx_le (n d : Nat) (hd : d ≤ n) (o : Option Int) : sIx n d o ≤ n := by
  cases o with
  | none => exact hd
  | some v =>
    show (if v < 0 then (v + (n : Int)).toNat else min v.toNat n) ≤ n
    by_cases hv : v < 0
    · rw [if_pos hv]; omega
    · rw [if_neg hv]; exact Nat.min_le_right _ _
theorem clip_eq (v : Int) (n d : Nat) : (if v < 0 then max (v + (n : Int)) 0 else min v (n : Int)) = ((sIx n d (some v) : Nat) : Int) := by
  show (if v < 0 then max (v + (n : Int)) 0 else min v (n : Int)) = (((if v < 0 then (v + (n : Int)).toNat else min v.toNat n) : Nat) : Int)
  by_cases hv : v < 0
  · simp only [if_pos hv]; omega
  · simp only [if_neg hv]; omega
theorem adjust_gen (lo hi : Option Int) (n : Nat) : Builtin.Slice.sliceAdjust lo hi 1 (n : Int) = (((sIx n 0 lo : Nat) : Int), ((sIx n n hi : Nat) : Int)) := by
  have h1 : ¬ ((1 : Int) < 0) := by omega
  unfold Builtin.Slice.sliceAdjust
  simp only [h1, if_false]
  refine Prod.ext ?_ ?_
  · cases lo with
    | none => rfl
    | some v => exact clip_eq v n 0
  · cases hi with
    | none => rfl
    | some v => exact clip_eq v n n
theorem places_gen (i j : Nat) : Builtin.Slice.slicePlaces (i : Int) (j : Int) 1 = j - i := by
  unfold Builtin.Slice.slicePlaces
  have h1 : (1 : Int) > 0 := by omega
  simp only [h1, if_true, Int.ediv_one]
  split <;> omega
theorem slicePart_ {v : Value} {o : Option Int} {Q : Option Int → Shared → Prop} (p : IsPart v o) (h : Q o s) : wpAny (model prog w) A (Builtin.Slice.slicePartIndex v) Q E s := by
  cases p with
  | none => exact slicePart_none h
  | int i t => exact slicePart_int h
theorem sliceApplied_gen {sl : Addr} {vl vu : Value} {lo hi : Option Int} {n : Nat} {Q : Int × Int × Nat → Shared → Prop} (hs : s.heap.IsSliceOf sl vl vu .none) (pl : IsPart vl lo) (pu : IsPart vu hi)
    (h : Q (((sIx n 0 lo : Nat) : Int), 1, sIx n n hi - sIx n 0 lo) s) : wpAny (model prog w) A (Builtin.Slice.sliceApplied (.ref sl) (pure (n : Int))) Q E s := by
  obtain ⟨os, hos, hcs, hds⟩ := id hs
  unfold Builtin.Slice.sliceApplied Builtin.Slice.sliceFields
  refine wpAny_bind (wpAny_bind (wpAny_field hos hds (x := vl) rfl (wpAny_bind (wpAny_field hos hds (x := vu) rfl (wpAny_bind (wpAny_field hos hds (x := .none) rfl (wpAny_pure ?_)))))))
  refine wpAny_bind (slicePart_none ?_)
  show wpAny _ _ (if ((1 : Int) == 0) = true then _ else _) _ _ s
  rw [if_neg (by decide)]
  refine wpAny_bind (slicePart_ pl (wpAny_bind (slicePart_ pu (wpAny_bind (wpAny_pure ?_)))))
  show wpAny _ _ (match Builtin.Slice.sliceAdjust lo hi 1 (n : Int) with | (lo, hi) => pure (lo, (1 : Int), Builtin.Slice.slicePlaces lo hi 1)) _ _ s
  rw [adjust_gen lo hi n]
  show wpAny _ _ (pure (((sIx n 0 lo : Nat) : Int), (1 : Int), Builtin.Slice.slicePlaces ((sIx n 0 lo : Nat) : Int) ((sIx n n hi : Nat) : Int) 1)) _ _ s
  rw [places_gen]
  exact wpAny_pure h
theorem pick_gen (xs : Array Value) (i k : Nat) : ((List.range k).filterMap fun (m : Nat) => xs[((i : Int) + (m : Int) * 1).toNat]?).toArray = ((xs.toList.drop i).take k).toArray := by
  have e : (fun (m : Nat) => xs[((i : Int) + (m : Int) * 1).toNat]?) = fun m => xs[i + m]? := by
    funext m
    have : ((i : Int) + (m : Int) * 1).toNat = i + m := by omega
    rw [this]
  rw [e]
  have := pick_run xs i k
  rw [List.filterMap_map] at this
  have e2 : ((fun x => xs[x]?) ∘ fun x => i + x) = fun m => xs[i + m]? := rfl
  rw [e2] at this
  rw [this]
theorem getItem_tuple_cut {t sl : Addr} {items : Array Value} {vl vu : Value} {lo hi : Option Int} {Q : Value → Shared → Prop} (ht : IsTup s.heap t items) (hs : s.heap.IsSliceOf sl vl vu .none) (pl : IsPart vl lo) (pu : IsPart vu hi)
    (hw : ¬ (sIx items.size 0 lo = 0 ∧ sIx items.size items.size hi = items.size))
    (h : Q (.ref s.heap.objs.size) { s with heap := s.heap.push { cls := .type "tuple", data := .seq ((items.toList.drop (sIx items.size 0 lo)).take (sIx items.size items.size hi - sIx items.size 0 lo)).toArray } })
    (hsz : items.size ≤ sizeLine) : wpAny (model prog w) A (getItem (.ref t) (.ref sl)) Q E s := by
  have htake : sizeOk (.seq ((items.toList.drop (sIx items.size 0 lo)).take (sIx items.size items.size hi - sIx items.size 0 lo)).toArray) := by
    show ((items.toList.drop (sIx items.size 0 lo)).take (sIx items.size items.size hi - sIx items.size 0 lo)).toArray.size ≤ sizeLine
    rw [List.size_toArray, List.length_take, List.length_drop, Array.length_toList]
    omega
  have hj : sIx items.size items.size hi ≤ items.size := sIx_le _ _ (Nat.le_refl _) hi
  obtain ⟨os, hos, hcs, hds⟩ := id hs
  have hTs : s.TypeIs (.ref sl) "slice" := ⟨os, hos, hcs⟩
  unfold getItem
  try with_reducible refine wpAny_holding ?_
  first | refine wpAny_bind (wpAny_pure ?_) | skip
  refine wpAny_bind (wpAny_sequenceKey ht.typeIs (by decide) ?_)
  refine wpAny_bind (wpAny_callSpecial?_slot (name := Str.ofString "__getitem__") ht.typeIs PyProof.Rows.slot_tuple_getitem
    (wpAny_call_entry PyProof.Rows.slot_tuple_getitem ht.typeIs entry_tuple_getitem ?_ (args_tuple_getitem _ _)))
  show wpAny _ _ (Builtin.Tuple.tupleItemsOf (.ref t) >>= _) _ _ s
  refine wpAny_bind (tupleItemsOf_ ht ?_)
  refine wpAny_bind (wpAny_typeOf hTs ?_)
  rw [if_pos (by decide)]
  refine wpAny_bind (sliceApplied_gen hs pl pu ?_)
  have hno : ¬ ((((sIx items.size 0 lo : Nat) : Int) == 0 && (1 : Int) == 1 && (sIx items.size items.size hi - sIx items.size 0 lo) == items.size) = true) := by
    intro q
    rw [Bool.and_eq_true, Bool.and_eq_true] at q
    have q1 : ((sIx items.size 0 lo : Nat) : Int) = 0 := eq_of_beq q.1.1
    have q2 : sIx items.size items.size hi - sIx items.size 0 lo = items.size := eq_of_beq q.2
    exact hw ⟨by omega, by omega⟩
  show wpAny _ _ (if (((sIx items.size 0 lo : Nat) : Int) == 0 && (1 : Int) == 1 && (sIx items.size items.size hi - sIx items.size 0 lo) == items.size) = true then _ else _) _ _ s
  rw [if_neg hno, pick_gen]
  first
    | exact wpAny_bind (m := Builtin.Tuple.tupleExact _) (wpAny_newObj_type (wpAny_pure ⟨_, rfl, wpAny_pure h⟩) htake)
    | exact wpAny_bind (m := Builtin.Tuple.tupleExact _) (wpAny_newObj_type (wpAny_bind (wpAny_pure (wpAny_pure ⟨_, rfl, wpAny_pure h⟩))) htake)
    | exact wpAny_bind (wpAny_bind (m := Builtin.Tuple.tupleExact _) (wpAny_newObj_type (wpAny_pure (wpAny_pure ⟨_, rfl, wpAny_pure h⟩)) htake))
    | exact wpAny_bind (wpAny_bind (m := Builtin.Tuple.tupleExact _) (wpAny_newObj_type (wpAny_pure ⟨_, rfl, wpAny_pure h⟩) htake))
end
end HT
namespace L2
open PySem PySem.Spec PyProof.Rows
abbrev TO := St → Hp → (Option Int → Hp → Prop) → Prop
def PO (X : Cx) (e : Option Expr) (t : TO) : Prop :=
  ∀ (pins : List (Addr × Obj)) (s : Shared) (σ : St) (H : Hp) (Q : Option Int → Hp → Prop), Inv X pins σ H s → t σ H Q →
    wpAny (model X.prog X.w) X.A (evalPart e X.env) (fun u s' => ∃ o H', Inv X pins σ H' s' ∧ IsPart u o ∧ Q o H') X.xe s
def tNoPart : TO := fun _ H Q => Q none H
def tPart (t : TE) : TO := fun σ H Q => t σ H fun x H1 => ∃ i, x = .int i ∧ Q (some i) H1
section
variable {X : Cx} {e : Expr} {te : TE} {lo hi : Option Expr} {tl th : TO} {pos p2 : Pos}
theorem po_none : PO X none tNoPart := by
  intro pins s σ H Q I h
  rw [evalPart_none]
  exact wpAny_pure ⟨none, H, I, .none, h⟩
theorem po_some (h : PE X e te) : PO X (some e) (tPart te) := by
  intro pins s σ H Q I hw
  rw [evalPart_some]
  refine thn (h pins s σ H _ I hw) fun u s1 ⟨x, H1, I1, r1, q1⟩ => ?_
  obtain ⟨i, rfl, q⟩ := q1
  obtain ⟨t, rfl⟩ := r1
  exact ⟨some i, H1, I1, .int i t, q⟩
def SlR (X : Cx) (r : V → Option Int → Option Int → Hp → VK → Prop) : Prop :=
  ∀ (pins : List (Addr × Obj)) (s : Shared) (σ : St) (H : Hp) (x : V) (v vl vu : Value) (lo hi : Option Int) (sl : Addr) (Q : VK), Inv X pins σ H s → RelV x v → s.heap.IsSliceOf sl vl vu .none → IsPart vl lo → IsPart vu hi → r x lo hi H Q →
    ∃ T id, typeLookup (.type T) "__getitem__" = pure (some (.builtin id)) ∧ s.TypeIs v T ∧ wpAny (model X.prog X.w) X.A (getItem v (.ref sl)) (EP X pins σ Q) X.xe s
theorem SlR.or {r r' : V → Option Int → Option Int → Hp → VK → Prop} (h : SlR X r) (h' : SlR X r') : SlR X (fun x lo hi H Q => r x lo hi H Q ∨ r' x lo hi H Q) := by
  intro pins s σ H x v vl vu lo hi sl Q I rx hs pl pu q
  rcases q with q | q
  · exact h pins s σ H x v vl vu lo hi sl Q I rx hs pl pu q
  · exact h' pins s σ H x v vl vu lo hi sl Q I rx hs pl pu q
def tSl (r : V → Option Int → Option Int → Hp → VK → Prop) (te : TE) (tl th : TO) : TE := fun σ H Q => te σ H fun x H1 => tl σ H1 fun l H2 => th σ H2 fun u H3 => r x l u H3 Q
theorem pe_slice {r : V → Option Int → Option Int → Hp → VK → Prop} (hr : SlR X r) (he : PE X e te) (hl : PO X lo tl) (hu : PO X hi th) : PE X (.Subscript e (.Slice lo hi none p2) pos) (tSl r te tl th) := by
  intro pins s σ H Q I h
  refine Subscript_ (thn (he pins s σ H _ I h) fun v s1 ⟨x, H1, I1, r1, q1⟩ => ?_)
  refine wpAny_Slice (thn (hl pins s1 σ H1 _ I1 q1) fun vl s2 ⟨l, H2, I2, pl, q2⟩ => thn (hu pins s2 σ H2 _ I2 q2) fun vu s3 ⟨u, H3, I3, pu, q3⟩ => ?_)
  rw [evalPart_none]
  refine wpAny_pure ?_
  have I4 : Inv X pins σ H3 { s3 with heap := s3.heap.push { cls := .type "slice", data := .fields #[vl, vu, .none] } } := I3.kept (t' := s3.toks) fun b ob q => Heap.get?_push_of_some _ q
  obtain ⟨T, id, hT, ht, hg⟩ := hr pins { s3 with heap := s3.heap.push { cls := .type "slice", data := .fields #[vl, vu, .none] } } σ H3 x v vl vu l u s3.heap.objs.size Q I4 r1 (Heap.IsSliceOf.new ..) pl pu q3
  show wpAny (model X.prog X.w) X.A (subscriptTail e (.Slice lo hi none p2) v (.ref s3.heap.objs.size)) (EP X pins σ Q) X.xe { s3 with heap := s3.heap.push { cls := .type "slice", data := .fields #[vl, vu, .none] } }
  exact tail_any (ops := [.ref s3.heap.objs.size, v]) ht hT hg (by with_unfolding_all rfl)
def cutV (xs : List V) (lo hi : Option Int) : List V := (xs.drop (HT.sIx xs.length 0 lo)).take (HT.sIx xs.length xs.length hi - HT.sIx xs.length 0 lo)
theorem cutV_length (xs : List V) (lo hi : Option Int) : (cutV xs lo hi).length ≤ xs.length := by
  unfold cutV
  rw [List.length_take, List.length_drop]
  omega
def rSlT (K : PySem.W.Frag) : V → Option Int → Option Int → Hp → VK → Prop := fun x lo hi H Q => ∃ a xs, x = .ref a ∧ SqT K H a xs ∧
  ¬ (HT.sIx xs.length 0 lo = 0 ∧ HT.sIx xs.length xs.length hi = xs.length) ∧ ∀ p, H p = none → Q (.ref p) (upd H p (.tup (cutV xs lo hi)))
theorem sl_tup : SlR X (rSlT X.K) := by
  intro pins s σ H x v vl vu lo hi sl Q I rx hs pl pu h
  obtain ⟨a, xs, rfl, hx, hw, q⟩ := h
  cases rx
  obtain ⟨its, r, ht, hz⟩ := I.tuple hx
  have hlen : its.toArray.size = xs.length := by rw [List.size_toArray]; exact r.length.symm
  refine ⟨"tuple", _, PyProof.Rows.slot_tuple_getitem.lookup, ht.typeIs, ?_⟩
  refine HT.getItem_tuple_cut ht hs pl pu (by rw [hlen]; exact hw) ?_ (by rw [hlen]; exact hz)
  rw [hlen]
  refine ⟨.ref s.heap.objs.size, _, I.laid (t' := s.toks) (o := .tup (cutV xs lo hi)) (fun b ob q => Heap.get?_push_of_some _ q) (Nat.le_refl _) ?_, rfl, q _ (I.hok.fresh (Nat.le_refl _))⟩
  exact ⟨Nat.le_trans (cutV_length xs lo hi) hz, _, (r.drop (HT.sIx xs.length 0 lo)).take (HT.sIx xs.length xs.length hi - HT.sIx xs.length 0 lo), IsTup.new _ _⟩
def rCatT (K : PySem.W.Frag) : R2 := fun x y H Q => ∃ a b xs ys, x = .ref a ∧ y = .ref b ∧ SqT K H a xs ∧ SqT K H b ys ∧ xs ≠ [] ∧ xs.length + ys.length ≤ sizeLine ∧
  (ys = [] → Q (.ref a) H) ∧ (ys ≠ [] → ∀ p, H p = none → Q (.ref p) (upd H p (.tup (xs ++ ys))))
theorem Vals.nil_iff {xs : List V} {us : List Value} (r : Vals xs us) : us = [] ↔ xs = [] := by
  cases r with
  | nil => simp
  | cons _ _ => simp
theorem op_catT : OpR X (binaryOp .Add) (rCatT X.K) := by
  intro pins s σ H x y v u Q I rx ry h
  obtain ⟨a, b, xs, ys, rfl, rfl, ha, hb, hx, hz, q1, q2⟩ := h
  cases rx
  cases ry
  obtain ⟨its, r1, p1, _⟩ := I.tuple ha
  obtain ⟨its2, r2, p2, _⟩ := I.tuple hb
  refine HT.cat_tup p1 p2 (fun z => hx (r1.nil_iff.mp z)) (fun z => ⟨.ref a, H, I, rfl, q1 (r2.nil_iff.mp z)⟩) (fun z => ?_) (by rw [← r1.length, ← r2.length]; exact hz)
  refine ⟨.ref s.heap.objs.size, _, I.laid (t' := s.toks) (o := .tup (xs ++ ys)) (fun b ob q => Heap.get?_push_of_some _ q) (Nat.le_refl _) ?_, rfl, q2 (fun w => z (r2.nil_iff.mpr w)) _ (I.hok.fresh (Nat.le_refl _))⟩
  exact ⟨by rw [List.length_append]; exact hz, _, r1.append r2, IsTup.new _ _⟩
end
end L2
namespace L2
open PySem PySem.Spec PyProof.Rows
def ixN (n : Nat) (i : Int) : Option Nat := if 0 ≤ i then (if i < n then some i.toNat else none) else if -(n : Int) ≤ i then some (i + n).toNat else none
def atI {α : Type} (xs : List α) (i : Int) : Option α := (ixN xs.length i).bind fun j => xs[j]?
theorem ixN_seq {n : Nat} {i : Int} {j : Nat} (h : ixN n i = some j) : seqIndex? i n = some j ∧ j < n ∧ -(n : Int) ≤ i ∧ i < n := by
  unfold ixN at h
  by_cases h0 : 0 ≤ i
  · rw [if_pos h0] at h
    by_cases h1 : i < n
    · rw [if_pos h1] at h
      have e : i.toNat = j := Option.some.inj h
      exact ⟨by rw [seqIndex_of h0 h1, e], by omega, by omega, h1⟩
    · rw [if_neg h1] at h; cases h
  · rw [if_neg h0] at h
    by_cases h1 : -(n : Int) ≤ i
    · rw [if_pos h1] at h
      have e : (i + n).toNat = j := Option.some.inj h
      exact ⟨by rw [seqIndex_neg (by omega) h1, e], by omega, h1, by omega⟩
    · rw [if_neg h1] at h; cases h
theorem atI_get {α : Type} {xs : List α} {i : Int} {v : α} (h : atI xs i = some v) : ∃ j, seqIndex? i xs.length = some j ∧ xs[j]? = some v ∧ j < xs.length ∧ -(xs.length : Int) ≤ i ∧ i < xs.length := by
  unfold atI at h
  cases e : ixN xs.length i with
  | none => rw [e] at h; cases h
  | some j =>
    rw [e] at h
    obtain ⟨h1, h2, h3, h4⟩ := ixN_seq e
    exact ⟨j, h1, h, h2, h3, h4⟩
theorem atI_nat {α : Type} {xs : List α} {j : Nat} {v : α} (h : xs[j]? = some v) : atI xs (j : Int) = some v := by
  have hj : j < xs.length := (List.getElem?_eq_some_iff.mp h).1
  have e : ixN xs.length (j : Int) = some j := by
    unfold ixN
    rw [if_pos (by omega), if_pos (by omega)]; simp
  unfold atI; rw [e]; exact h
def PlainIx (b : Expr) : Prop := ∀ o i, subscripted b false o i = operate [o, i] (getItem o i)
def IxR (X : Cx) (r : R2) : Prop :=
  ∀ (value slice : Expr) (pins : List (Addr × Obj)) (s : Shared) (σ : St) (H : Hp) (x y : V) (v u : Value) (Q : VK), Inv X pins σ H s → RelV x v → RelV y u → r x y H Q →
    subscripted slice false v u = operate [v, u] (getItem v u) → wpAny (model X.prog X.w) X.A (subscriptTail value slice v u) (EP X pins σ Q) X.xe s
def MtR (X : Cx) (id : String) (r : V → List V → Hp → VK → Prop) : Prop :=
  ∀ (pins : List (Addr × Obj)) (s : Shared) (σ : St) (H : Hp) (x : V) (xs : List V) (v : Value) (us : List Value) (Q : VK), Inv X pins σ H s → RelV x v → Vals xs us → r x xs H Q →
    wpAny (model X.prog X.w) X.A (call (.builtin id) (v :: us)) (EP X pins σ Q) X.xe s
section
variable {X : Cx} {a b : Expr} {ta tb : TE} {pos : Pos}
theorem IxR.or {r r' : R2} (h : IxR X r) (h' : IxR X r') : IxR X (fun x y H Q => r x y H Q ∨ r' x y H Q) := by
  intro value slice pins s σ H x y v u Q I rx ry q hs
  rcases q with q | q
  · exact h value slice pins s σ H x y v u Q I rx ry q hs
  · exact h' value slice pins s σ H x y v u Q I rx ry q hs
theorem MtR.or {id : String} {r r' : V → List V → Hp → VK → Prop} (h : MtR X id r) (h' : MtR X id r') : MtR X id (fun x xs H Q => r x xs H Q ∨ r' x xs H Q) := by
  intro pins s σ H x xs v us Q I rx rs q
  rcases q with q | q
  · exact h pins s σ H x xs v us Q I rx rs q
  · exact h' pins s σ H x xs v us Q I rx rs q
theorem pe_ix {r : R2} (hr : IxR X r) (ha : PE X a ta) (hb : PE X b tb) (hs : PlainIx b) : PE X (.Subscript a b pos) (tOp r ta tb) := by
  intro pins s σ H Q I h
  exact Subscript_ (binT ha hb I h fun v u s2 x y H2 I2 rx ry q => hr a b pins s2 σ H2 x y v u Q I2 rx ry q (hs _ _))
def rIxL (K : PySem.W.Frag) : R2 := fun x y H Q => ∃ p xs i v, x = .ref p ∧ y = .int i ∧ SqL K H p xs ∧ atI xs i = some v ∧ Q v H
def rIxT (K : PySem.W.Frag) : R2 := fun x y H Q => ∃ p xs i v, x = .ref p ∧ y = .int i ∧ SqT K H p xs ∧ atI xs i = some v ∧ Q v H
theorem ix_list : IxR X (rIxL X.K) := by
  intro value slice pins s σ H x y v u Q I rx ry h hs
  obtain ⟨p, xs, i, z, rfl, rfl, hq, he, q⟩ := h
  cases rx
  obtain ⟨t, rfl⟩ := ry
  obtain ⟨its, r, pl, hz⟩ := I.list hq
  obtain ⟨j, h1, h2, h3, h4, h5⟩ := atI_get he
  obtain ⟨w, ew, rw'⟩ := r.get h2
  have hl := r.length
  have hn := line63
  have fin : EP X pins σ Q w s := ⟨z, H, I, rw', q⟩
  by_cases h0 : 0 ≤ i
  · have hj : i.toNat = j := by
      rw [seqIndex_of h0 h5] at h1
      exact Option.some.inj h1
    exact item_listR pl.isList h0 (by omega) (by rw [hj]; simpa using ew) fin hs
  · have hj : (i + (its.toArray.size : Int)).toNat = j := by
      rw [seqIndex_neg (by omega) h4] at h1
      rw [List.size_toArray, ← hl]
      exact Option.some.inj h1
    exact subscriptTail_builtinR (x := w) pl.isList.typeIs slot_list_getitem.lookup
      (wpAny_getItem_list_neg (Q := fun r s' => r = w ∧ EP X pins σ Q r s') pl.isList (by omega) (by rw [List.size_toArray] <;> omega) (by omega) (by rw [hj]; simpa using ew) ⟨rfl, fin⟩) hs
theorem ix_tup : IxR X (rIxT X.K) := by
  intro value slice pins s σ H x y v u Q I rx ry h hs
  obtain ⟨p, xs, i, z, rfl, rfl, hq, he, q⟩ := h
  cases rx
  obtain ⟨t, rfl⟩ := ry
  obtain ⟨its, r, pl, hz⟩ := I.tuple hq
  obtain ⟨j, h1, h2, h3, h4, h5⟩ := atI_get he
  obtain ⟨w, ew, rw'⟩ := r.get h2
  have hl := r.length
  have hn := line63
  have fin : EP X pins σ Q w s := ⟨z, H, I, rw', q⟩
  exact subscriptTail_builtinR (x := w) pl.typeIs slot_tuple_getitem.lookup
    (getItem_tuple (j := j) (Q := fun r s' => r = w ∧ EP X pins σ Q r s') pl (by omega) (by omega) (by rw [List.size_toArray, ← hl]; exact h1) (by simpa using ew) ⟨rfl, fin⟩) hs
theorem mapSeq_set (its : List Value) (n j : Nat) (u : Value) : Obj.mapSeq (·.setIfInBounds j u) { cls := .type "list", data := .seq its.toArray n } = { cls := .type "list", data := .seq (its.set j u).toArray n } := by
  simp [Obj.mapSeq]
theorem Inv.lst {pins : List (Addr × Obj)} {σ : St} {H : Hp} {s : Shared} {p : Addr} {xs : List V} (I : Inv X pins σ H s) (h : H p = some (.lst xs)) :
    ∃ (its : List Value) (n : Nat), Vals xs its ∧ s.heap.get? p = some { cls := .type "list", data := .seq its.toArray n } ∧ xs.length ≤ sizeLine := by
  obtain ⟨z, its, n, r, e⟩ := I.hok p _ h
  exact ⟨its, n, r, e, z⟩
theorem Inv.lstUpd {pins : List (Addr × Obj)} {σ : St} {H : Hp} {s : Shared} {p : Addr} {xs ys : List V} {its its' : List Value} {n n' : Nat} {f : Obj → Obj} (I : Inv X pins σ H s) (h : H p = some (.lst xs))
    (ho : s.heap.get? p = some { cls := .type "list", data := .seq its.toArray n }) (hf : f { cls := .type "list", data := .seq its.toArray n } = { cls := .type "list", data := .seq its'.toArray n' }) (r : Vals ys its') (hz : ys.length ≤ sizeLine) (t : Nat) :
    Inv X pins σ (upd H p (.lst ys)) { s with heap := s.heap.update p f, toks := t } := by
  have e : (s.heap.update p f).get? p = some { cls := .type "list", data := .seq its'.toArray n' } := by
    rw [Heap.get?_update_self f ho (by rw [hf] <;> rfl), hf]
  refine I.write (x := p) (e := p) (by rw [h]; trivial) (.inl rfl) (fun b u hb q => (Heap.get?_update_other _ _ (Ne.symm hb)).trans q) ⟨_, e⟩ ?_
  exact ⟨hz, its', n', r, e⟩
def rSetL : V → V → V → Hp → (Hp → Prop) → Prop := fun o i v H Q => ∃ p xs k j, o = .ref p ∧ i = .int k ∧ H p = some (.lst xs) ∧ ixN xs.length k = some j ∧ Q (upd H p (.lst (xs.set j v)))
theorem set_list : PSet X rSetL := by
  intro pins s σ H o i v ov iv u Q I ro ri rv h
  obtain ⟨p, xs, k, j, rfl, rfl, hp, hj, q⟩ := h
  cases ro
  obtain ⟨t, rfl⟩ := ri
  obtain ⟨its, n, r, ho, hz⟩ := I.lst hp
  obtain ⟨h1, h2, h3, h4⟩ := ixN_seq hj
  have hl := r.length
  have hn := line63
  have I' : Inv X pins σ (upd H p (.lst (xs.set j v))) { s with heap := s.heap.update p (Obj.mapSeq (·.setIfInBounds j u)) } :=
    I.lstUpd hp ho (mapSeq_set its n j u) (r.set rv j) (by rw [List.length_set]; exact hz) s.toks
  by_cases h0 : 0 ≤ k
  · have hk : k.toNat = j := by
      rw [seqIndex_of h0 h4] at h1
      exact Option.some.inj h1
    exact PySem.W.ki_setAt ho h0 (by omega) (by rw [List.size_toArray, ← hl]; exact h4) (by rw [hk]; exact ⟨_, I', q⟩)
  · have hk : (k + (its.toArray.size : Int)).toNat = j := by
      rw [seqIndex_neg (by omega) h3] at h1
      rw [List.size_toArray, ← hl]
      exact Option.some.inj h1
    exact PySem.W.ki_setBack ho (by omega) (by rw [List.size_toArray, ← hl]; exact h3) (by omega) (by rw [hk]; exact ⟨_, I', q⟩)
theorem slice_bounds (lo hi : Option Int) (n : Nat) : (sliceBounds lo hi none n).1 = ((HT.sIx n 0 lo : Nat) : Int) ∧ (sliceBounds lo hi none n).2.1 = ((HT.sIx n n hi : Nat) : Int) ∧ (sliceBounds lo hi none n).2.2 = 1 := by
  refine ⟨?_, ?_, rfl⟩
  · cases lo with
    | none => simp [sliceBounds, HT.sIx]
    | some i =>
      simp only [sliceBounds, HT.sIx, Option.getD_none, show (1 : Int) > 0 by decide, if_true]
      by_cases h : i < 0
      · simp only [h, if_true] <;> omega
      · simp only [h, if_false] <;> omega
  · cases hi with
    | none => simp [sliceBounds, HT.sIx]
    | some i =>
      simp only [sliceBounds, HT.sIx, Option.getD_none, show (1 : Int) > 0 by decide, if_true]
      by_cases h : i < 0
      · simp only [h, if_true] <;> omega
      · simp only [h, if_false] <;> omega
theorem slicePick_cut (its : List Value) (lo hi : Option Int) : slicePick its.toArray lo hi none = ((its.drop (HT.sIx its.length 0 lo)).take (HT.sIx its.length its.length hi - HT.sIx its.length 0 lo)).toArray := by
  obtain ⟨h1, h2, h3⟩ := slice_bounds lo hi its.toArray.size
  unfold slicePick
  rw [h1, h2, h3]
  simp only [sliceRange_one, pick_run, List.size_toArray] <;> rfl
def rSlL (K : PySem.W.Frag) : V → Option Int → Option Int → Hp → VK → Prop := fun x lo hi H Q => ∃ a xs, x = .ref a ∧ SqL K H a xs ∧ ∀ p, H p = none → Q (.ref p) (upd H p (.lst (cutV xs lo hi)))
theorem sl_list : SlR X (rSlL X.K) := by
  intro pins s σ H x v vl vu lo hi sl Q I rx hs pl pu h
  obtain ⟨a, xs, rfl, hx, q⟩ := h
  cases rx
  obtain ⟨its, r, ht, hz⟩ := I.list hx
  have hlen := r.length
  refine ⟨"list", _, slot_list_getitem.lookup, ht.isList.typeIs, ?_⟩
  refine wpAny_getItem_list_slice ht.isList hs pl pu .none (by simp) ?_ (by rw [List.size_toArray] <;> omega)
  rw [slicePick_cut, ← hlen]
  refine ⟨.ref s.heap.objs.size, _, I.laid (t' := s.toks) (o := .lst (cutV xs lo hi)) (fun b ob q => Heap.get?_push_of_some _ q) (Nat.le_refl _) ?_, rfl, q _ (I.hok.fresh (Nat.le_refl _))⟩
  exact ⟨Nat.le_trans (cutV_length xs lo hi) hz, _, 0, (r.drop (HT.sIx xs.length 0 lo)).take (HT.sIx xs.length xs.length hi - HT.sIx xs.length 0 lo), Heap.get?_push_size _ rfl⟩
def flatV : V → Bool
  | .non => true
  | .bl _ => true
  | .int _ => true
  | .str _ => true
  | _ => false
def eqV : V → V → Bool
  | .non, .non => true
  | .bl a, .bl b => a == b
  | .bl a, .int b => (if a then 1 else 0) == b
  | .int a, .bl b => a == (if b then 1 else 0)
  | .int a, .int b => a == b
  | .str a, .str b => a == b
  | _, _ => false
theorem eqAt_V {A : Around} {s : Shared} {y x : V} {u v : Value} (ry : RelV y u) (rx : RelV x v) (fy : flatV y = true) (fx : flatV x = true) : SeqAt.EqAt A s u v (eqV y x) := by
  cases y with
  | non =>
    cases ry
    cases x with
    | non => cases rx; exact SeqAt.EqAt.same _
    | bl b => cases rx; exact SeqAt.EqAt.none_bool b
    | int b => obtain ⟨t, rfl⟩ := rx; exact SeqAt.EqAt.none_int b t
    | str b => obtain ⟨t, rfl⟩ := rx; exact SeqAt.EqAt.none_str b t
    | _ => exact absurd (show false = true from fx) Bool.false_ne_true
  | bl a =>
    cases ry
    cases x with
    | non => cases rx; exact SeqAt.EqAt.bool_none a
    | bl b => cases rx; exact SeqAt.EqAt.bool_bool a b
    | int b => obtain ⟨t, rfl⟩ := rx; exact SeqAt.EqAt.bool_int a b t
    | str b => obtain ⟨t, rfl⟩ := rx; exact SeqAt.EqAt.bool_str a b t
    | _ => exact absurd (show false = true from fx) Bool.false_ne_true
  | int a =>
    obtain ⟨t', rfl⟩ := ry
    cases x with
    | non => cases rx; exact SeqAt.EqAt.int_none a t'
    | bl b => cases rx; exact SeqAt.EqAt.int_bool a t' b
    | int b => obtain ⟨t, rfl⟩ := rx; exact SeqAt.EqAt.int_int a t' b t
    | str b => obtain ⟨t, rfl⟩ := rx; exact SeqAt.EqAt.int_str a t' b t
    | _ => exact absurd (show false = true from fx) Bool.false_ne_true
  | str a =>
    obtain ⟨t', rfl⟩ := ry
    cases x with
    | non => cases rx; exact SeqAt.EqAt.str_none a t'
    | bl b => cases rx; exact SeqAt.EqAt.str_bool a t' b
    | int b => obtain ⟨t, rfl⟩ := rx; exact SeqAt.EqAt.str_int a t' b t
    | str b => obtain ⟨t, rfl⟩ := rx; exact SeqAt.EqAt.str_str a t' b t
    | _ => exact absurd (show false = true from fx) Bool.false_ne_true
  | _ => exact absurd (show false = true from fy) Bool.false_ne_true
def eqU (x : V) (u : Value) : Bool := match u with
  | .none => eqV .non x
  | .bool b => eqV (.bl b) x
  | .int i _ => eqV (.int i) x
  | .str z _ => eqV (.str z) x
  | _ => false
theorem eqU_of {x y : V} {u : Value} (r : RelV y u) (f : flatV y = true) : eqU x u = eqV y x := by
  cases y with
  | non => cases r; rfl
  | bl b => cases r; rfl
  | int i => obtain ⟨t, rfl⟩ := r; rfl
  | str z => obtain ⟨t, rfl⟩ := r; rfl
  | _ => exact absurd (show false = true from f) Bool.false_ne_true
theorem any_eqU {x : V} : ∀ {xs : List V} {us : List Value}, Vals xs us → xs.all flatV = true → us.any (eqU x) = xs.any fun y => eqV y x
  | _, _, .nil, _ => rfl
  | y :: xs, u :: us, .cons r t, f => by
    rw [List.all_cons, Bool.and_eq_true] at f
    rw [List.any_cons, List.any_cons, eqU_of r f.1, any_eqU t f.2]
theorem mem_eqAt {A : Around} {s : Shared} {x : V} {v : Value} (rx : RelV x v) (fx : flatV x = true) : ∀ {xs : List V} {us : List Value}, Vals xs us → xs.all flatV = true → ∀ u ∈ us, SeqAt.EqAt A s u v (eqU x u)
  | _, _, .nil, _ => fun u hu => by cases hu
  | y :: xs, u :: us, .cons r t, f => fun u' hu => by
    rw [List.all_cons, Bool.and_eq_true] at f
    rcases List.mem_cons.mp hu with rfl | hu
    · rw [eqU_of r f.1]; exact eqAt_V r rx f.1 fx
    · exact mem_eqAt rx fx t f.2 u' hu
def inV (x : V) (xs : List V) : Bool := xs.any fun y => eqV y x
def rIn (K : PySem.W.Frag) (neg : Bool) : R2 := fun x y H Q => ∃ p xs, y = .ref p ∧ (SqL K H p xs ∨ SqT K H p xs) ∧ flatV x = true ∧ xs.all flatV = true ∧ Q (.bl (if neg then !inV x xs else inV x xs)) H
theorem op_in_seq : OpR X (compareOp .In) (rIn X.K false) := by
  intro pins s σ H x y v u Q I rx ry h
  obtain ⟨p, xs, rfl, hq, fx, fs, q⟩ := h
  cases ry
  rcases hq with hq | hq
  · obtain ⟨its, r, pl, hz⟩ := I.list hq
    refine SeqAt.in_listAt (eqU x) pl.isList (fun w hw => mem_eqAt rx fx r fs w (by simpa using hw)) ⟨.bl _, H, I, rfl, ?_⟩
    rw [show its.toArray.any (eqU x) = its.any (eqU x) by simp, any_eqU r fs]
    exact q
  · obtain ⟨its, r, pl, hz⟩ := I.tuple hq
    refine SeqAt.in_tupleAt (eqU x) pl (fun w hw => mem_eqAt rx fx r fs w (by simpa using hw)) ⟨.bl _, H, I, rfl, ?_⟩
    rw [show its.toArray.any (eqU x) = its.any (eqU x) by simp, any_eqU r fs]
    exact q
theorem op_notIn_seq : OpR X (compareOp .NotIn) (rIn X.K true) := by
  intro pins s σ H x y v u Q I rx ry h
  obtain ⟨p, xs, rfl, hq, fx, fs, q⟩ := h
  cases ry
  rcases hq with hq | hq
  · obtain ⟨its, r, pl, hz⟩ := I.list hq
    refine SeqAt.notIn_listAt (eqU x) pl.isList (fun w hw => mem_eqAt rx fx r fs w (by simpa using hw)) ⟨.bl _, H, I, rfl, ?_⟩
    rw [show its.toArray.any (eqU x) = its.any (eqU x) by simp, any_eqU r fs]
    exact q
  · obtain ⟨its, r, pl, hz⟩ := I.tuple hq
    refine SeqAt.notIn_tupleAt (eqU x) pl (fun w hw => mem_eqAt rx fx r fs w (by simpa using hw)) ⟨.bl _, H, I, rfl, ?_⟩
    rw [show its.toArray.any (eqU x) = its.any (eqU x) by simp, any_eqU r fs]
    exact q
theorem call_len_seq : CallR X (.builtin "len") (fun xs H Q => ∃ p ys, xs = [.ref p] ∧ (SqL X.K H p ys ∨ SqT X.K H p ys) ∧ Q (.int ys.length) H) := by
  intro pins s σ H xs us Q I r h
  obtain ⟨p, ys, rfl, hq, q⟩ := h
  obtain ⟨u, rfl, rx⟩ := vals1 r
  cases rx
  have hn := line63
  rcases hq with hq | hq
  · obtain ⟨its, r', pl, hz⟩ := I.list hq
    have hlen := r'.length
    exact Calls.call_len_list pl.isList (by simp only [List.size_toArray] <;> omega) ⟨.int ys.length, H, I.tok _, ⟨s.toks + 1, by rw [List.size_toArray, hlen]⟩, q⟩
  · obtain ⟨its, r', pl, hz⟩ := I.tuple hq
    have hlen := r'.length
    exact len_tuple pl (by simp only [List.size_toArray] <;> omega) ⟨.int ys.length, H, I.tok _, ⟨s.toks + 1, by rw [List.size_toArray, hlen]⟩, q⟩
theorem CallR.or {f : Value} {r r' : List V → Hp → VK → Prop} (h : CallR X f r) (h' : CallR X f r') : CallR X f (fun xs H Q => r xs H Q ∨ r' xs H Q) := by
  intro pins s σ H xs us Q I rs q
  rcases q with q | q
  · exact h pins s σ H xs us Q I rs q
  · exact h' pins s σ H xs us Q I rs q
theorem call_list_of : CallR X (.type "list") (fun xs H Q => ∃ p ys, xs = [.ref p] ∧ (SqL X.K H p ys ∨ SqT X.K H p ys) ∧ ∀ l, H l = none → Q (.ref l) (upd H l (.lst ys))) := by
  intro pins s σ H xs us Q I r h
  obtain ⟨p, ys, rfl, hq, q⟩ := h
  obtain ⟨u, rfl, rx⟩ := vals1 r
  cases rx
  have fin : ∀ (its : List Value), Vals ys its → ys.length ≤ sizeLine → ∀ (h' : Heap) (c' : Nat), (∀ b o', s.heap.get? b = some o' → h'.get? b = some o') →
      h'.get? s.heap.objs.size = some { cls := .type "list", dict := none, data := .seq its.toArray c', slots := #[] } → EP X pins σ Q (.ref s.heap.objs.size) { s with heap := h' } := fun its r' hz h' c' kp e =>
    ⟨.ref s.heap.objs.size, _, I.laid (t' := s.toks) kp (Nat.le_refl _) (show ObjOk X.prog X.w _ h' _ (.lst ys) from ⟨hz, its, c', r', e⟩), rfl, q _ (I.hok.fresh (Nat.le_refl _))⟩
  rcases hq with hq | hq
  · obtain ⟨its, r', pl, hz⟩ := I.list hq
    have hlen := r'.length
    obtain ⟨o, ho, hc, n, hd⟩ := pl.isList
    exact call_list_seq p (.inl rfl) ho hc hd (fun h' c' kp e => fin its r' hz h' c' kp e) (by simp only [List.size_toArray] <;> omega)
  · obtain ⟨its, r', pl, hz⟩ := I.tuple hq
    have hlen := r'.length
    obtain ⟨o, ho, hc, n, hd⟩ := pl
    exact call_list_seq p (.inr rfl) ho hc hd (fun h' c' kp e => fin its r' hz h' c' kp e) (by simp only [List.size_toArray] <;> omega)
theorem call_tuple_of : CallR X (.type "tuple") (fun xs H Q => ∃ p ys, xs = [.ref p] ∧ ((SqL X.K H p ys ∧ ∀ l, H l = none → Q (.ref l) (upd H l (.tup ys))) ∨ (SqT X.K H p ys ∧ Q (.ref p) H))) := by
  intro pins s σ H xs us Q I r h
  obtain ⟨p, ys, rfl, h⟩ := h
  obtain ⟨u, rfl, rx⟩ := vals1 r
  cases rx
  rcases h with ⟨hq, q⟩ | ⟨hq, q⟩
  · obtain ⟨its, r', pl, hz⟩ := I.list hq
    have hlen := r'.length
    refine call_tuple_list pl.isList (fun h' kp => ?_) (by simp only [List.size_toArray] <;> omega)
    have I1 : Inv X pins σ H { s with heap := h' } := I.kept (t' := s.toks) kp
    have I2 : Inv X pins σ (upd H h'.objs.size (.tup ys)) { s with heap := h'.push { cls := .type "tuple", data := .seq its.toArray } } :=
      I1.laid (t' := s.toks) (fun b o e => Heap.get?_push_of_some _ e) (Nat.le_refl _) (show ObjOk X.prog X.w _ _ _ (.tup ys) from ⟨hz, its, r', IsTup.new _ _⟩)
    exact ⟨.ref h'.objs.size, _, I2, rfl, q _ (I1.hok.fresh (Nat.le_refl _))⟩
  · obtain ⟨its, r', pl, hz⟩ := I.tuple hq
    exact call_tuple_same pl ⟨.ref p, H, I, rfl, q⟩
def tyV (K : PySem.W.Frag) (T : String) (x : V) (H : Hp) : Prop := match x with
  | .str _ => T = "str"
  | .int _ => T = "int"
  | .ref p => (T = "list" ∧ ∃ xs, SqL K H p xs) ∨ (T = "tuple" ∧ ∃ o, K.lookup p = some o ∧ o.cls = .type "tuple" ∧ o.dict = none) ∨
      (T = "dict" ∧ ((∃ kvs, H p = some (.dK kvs)) ∨ ∃ kvs, H p = some (.dT kvs))) ∨ (T = "set" ∧ ∃ S n, H p = some (.set S n))
  | _ => False
theorem tyV_is {pins : List (Addr × Obj)} {σ : St} {H : Hp} {s : Shared} {T : String} {x : V} {v : Value} (I : Inv X pins σ H s) (r : RelV x v) (ty : tyV X.K T x H) :
    s.TypeIs v T ∧ ∀ a, v = .ref a → ∃ ob, s.heap.get? a = some ob ∧ ob.dict = none := by
  cases x with
  | str z =>
    obtain ⟨t, rfl⟩ := r
    cases (show T = "str" from ty)
    exact ⟨typeIs_str s z t, fun _ e => nomatch e⟩
  | int i =>
    obtain ⟨t, rfl⟩ := r
    cases (show T = "int" from ty)
    exact ⟨typeIs_int s i t, fun _ e => nomatch e⟩
  | ref p =>
    cases r
    rcases ty with ⟨rfl, xs, hq⟩ | ⟨rfl, o, hk, hc, hd⟩ | ⟨rfl, hk⟩ | ⟨rfl, S, n, hk⟩
    · obtain ⟨its, _, pl, _⟩ := I.list hq
      refine ⟨pl.isList.typeIs, fun a e => ?_⟩
      cases e
      obtain ⟨o, n, e, c, hd, _⟩ := pl
      exact ⟨o, e, hd⟩
    · refine ⟨⟨o, I.kIn p o hk, hc⟩, fun a e => ?_⟩
      cases e
      exact ⟨o, I.kIn _ o hk, hd⟩
    · have z : ∃ o, s.heap.get? p = some o ∧ o.ExactDict := by
        rcases hk with ⟨kvs, hk⟩ | ⟨kvs, hk⟩
        · obtain ⟨_, _, _, _, o, _, _, e, ex, _⟩ := I.hok p _ hk
          exact ⟨o, e, ex⟩
        · obtain ⟨_, _, _, _, o, _, _, e, ex, _⟩ := I.hok p _ hk
          exact ⟨o, e, ex⟩
      obtain ⟨o, e, ex⟩ := z
      refine ⟨⟨o, e, ex.1⟩, fun a e2 => ?_⟩
      cases e2
      exact ⟨o, e, ex.2.1⟩
    · obtain ⟨o, _, _, _, e, ex, _⟩ := I.hok p _ hk
      refine ⟨⟨o, e, ex.1⟩, fun a e2 => ?_⟩
      cases e2
      exact ⟨o, e, ex.2.1⟩
  | _ => exact False.elim ty
def tBM0 (K : PySem.W.Frag) (T : String) (r : V → List V → Hp → VK → Prop) (to : TE) : TE := fun σ H Q => to σ H fun x H1 => tyV K T x H1 ∧ r x [] H1 Q
def tBM (K : PySem.W.Frag) (T : String) (r : V → List V → Hp → VK → Prop) (to : TE) (t : TA) : TE := fun σ H Q => to σ H fun x H1 => tyV K T x H1 ∧ t σ H1 fun xs H2 => r x xs H2 Q
variable {o e : Expr} {es : List Expr} {to : TE} {t : TA} {name : Str} {apos cpos : Pos} {T id : String} {r : V → List V → Hp → VK → Prop}
theorem pe_bm0 (pa : PlainAttrs T) (slot : Slot T name id) (hty : typeOf (.builtin id) = pure (.type "method_descriptor")) (hm : MtR X id r) (ho : PE X o to)
    (hbase : attributeBase o name X.env (eval o X.env) = eval o X.env := by rfl) (hline : (apos.endLine == cpos.line) = true := by rfl) : PE X (.Call (.Attribute o name apos) [] [] cpos) (tBM0 X.K T r to) := by
  intro pins s σ H Q I h
  refine wpAny_Call_method0_late hbase hline (thn (ho pins s σ H _ I h) fun v s1 ⟨x, H1, I1, r1, ty, q1⟩ => ?_)
  obtain ⟨h1, h2⟩ := tyV_is I1 r1 ty
  exact ⟨T, id, pa, slot, hty, h1, h2, Calls.callWith_builtin rfl (PySem.evalArgs_none (hm pins s1 σ H1 x [] v [] Q I1 r1 .nil q1))⟩
theorem pe_bm (pa : PlainAttrs T) (slot : Slot T name id) (hty : typeOf (.builtin id) = pure (.type "method_descriptor")) (hm : MtR X id r) (ho : PE X o to) (ha : PA X (e :: es) t)
    (hbase : attributeBase o name X.env (eval o X.env) = eval o X.env := by rfl)
    (hfew : ((backTo cpos (starEach (e :: es) X.env)).all (fun x => !x.1) && (backToKw cpos (keywordEach [] X.env)).all (fun x => x.1.isSome)
      && decide ((e :: es).length + ([] : List Keyword).length + (if ([] : List Keyword).isEmpty then 0 else 1) < 30)) = true := by rfl)
    (hline : (apos.endLine == cpos.line) = true := by rfl) (hs : starEach (e :: es) X.env = (false, eval e X.env) :: starEach es X.env := by rfl) (hplain : (backTo cpos (starEach es X.env)).any (·.1) = false := by rfl) :
    PE X (.Call (.Attribute o name apos) (e :: es) [] cpos) (tBM X.K T r to t) := by
  intro pins s σ H Q I h
  refine wpAny_Call_method_late hbase hfew hline rfl (thn (ho pins s σ H _ I h) fun v s1 ⟨x, H1, I1, r1, ty, q1⟩ => ?_)
  obtain ⟨h1, h2⟩ := tyV_is I1 r1 ty
  refine ⟨T, id, pa, slot, hty, h1, h2, ?_⟩
  have hA := ha cpos pins s1 σ H1 _ I1 q1
  rw [hs] at hA ⊢
  refine Calls.callWith_builtin (by show (false || (backTo cpos (starEach es X.env)).any (·.1)) = false; rw [hplain] <;> rfl) (Calls.evalArgs_plain ?_)
  exact thn hA fun us s2 ⟨vs, H2, I2, r2, q2⟩ => hm pins s2 σ H2 x vs v us Q I2 r1 r2 q2
/- xs.append(e), list.index on a module's tuple .. are MtR facts of 06m -/
end
end L2
namespace L2
open PySem PySem.Spec PyProof.Rows
def MtM (X : Cx) (id : String) (r : V → List V → Hp → VK → Prop) : Prop :=
  ∀ (pins : List (Addr × Obj)) (s : Shared) (σ : St) (H : Hp) (x : V) (xs : List V) (v : Value) (us : List Value) (Q : VK), Inv X pins σ H s → RelV x v → Vals xs us → r x xs H Q →
    wpAny (model X.prog X.w) X.A (call (.builtin id) (v :: us)) (EP X pins σ Q) X.xe s
theorem Vals.one : ∀ {x : V} {us : List Value}, Vals [x] us → ∃ u, us = [u] ∧ RelV x u
  | _, _, .cons r .nil => ⟨_, rfl, r⟩
theorem Vals.two : ∀ {x y : V} {us : List Value}, Vals [x, y] us → ∃ u v, us = [u, v] ∧ RelV x u ∧ RelV y v
  | _, _, _, .cons r (.cons q .nil) => ⟨_, _, rfl, r, q⟩
theorem Vals.zero : ∀ {us : List Value}, Vals [] us → us = []
  | _, .nil => rfl
theorem Vals.dropLast {xs : List V} {us : List Value} (h : Vals xs us) : Vals xs.dropLast us.dropLast := by
  induction h with
  | nil => exact .nil
  | cons r t ih =>
    cases t with
    | nil => exact .nil
    | cons q t' => exact .cons r ih
theorem Vals.eraseIdx : ∀ {xs : List V} {us : List Value} (i : Nat), Vals xs us → Vals (xs.eraseIdx i) (us.eraseIdx i)
  | _, _, _, .nil => .nil
  | _, _, 0, .cons _ t => t
  | _, _, i + 1, .cons r t => .cons r (Vals.eraseIdx i t)
theorem Vals.reverse {xs : List V} {us : List Value} (h : Vals xs us) : Vals xs.reverse us.reverse := by
  induction h with
  | nil => exact .nil
  | cons r t ih => rw [List.reverse_cons, List.reverse_cons]; exact Vals.append ih (.cons r .nil)
theorem erase_last {α : Type} (l : List α) : l.eraseIdx (l.length - 1) = l.dropLast := by
  induction l with
  | nil => rfl
  | cons a r ih =>
    cases r with
    | nil => rfl
    | cons b r =>
      have e : (a :: b :: r).length - 1 = ((b :: r).length - 1) + 1 := by
        have h1 : (a :: b :: r).length = r.length + 2 := rfl
        have h2 : (b :: r).length = r.length + 1 := rfl
        omega
      rw [e, List.eraseIdx_cons_succ, ih]
      all_goals rfl
section
variable {X : Cx} {pins : List (Addr × Obj)} {σ : St} {H : Hp} {s : Shared} {l b : Addr} {xs ys zs : List V}
theorem Inv.lset {its its' : List Value} {n : Nat} {f : Array Value → Array Value} {t' : Nat} (I : Inv X pins σ H s) (hH : H l = some (.lst xs))
    (e : s.heap.get? l = some { cls := .type "list", data := .seq its.toArray n }) (hf : f its.toArray = its'.toArray) (hv : Vals ys its') (hz : ys.length ≤ sizeLine) :
    Inv X pins σ (upd H l (.lst ys)) { s with heap := s.heap.update l (Obj.mapSeq f), toks := t' } := by
  have q := PySem.IsL.update e f
  rw [hf] at q
  refine I.write (x := l) (e := l) (by rw [hH]; exact trivial) (.inl rfl) (fun b' u hb hu => (Heap.get?_update_other s.heap (Obj.mapSeq f) (Ne.symm hb)).trans hu) ⟨_, q⟩ ?_
  exact ⟨hz, its', _, hv, q⟩
theorem Inv.lnew {its : List Value} {t' : Nat} (I : Inv X pins σ H s) (hv : Vals ys its) (hz : ys.length ≤ sizeLine) :
    Inv X pins σ (upd H s.heap.objs.size (.lst ys)) { s with heap := s.heap.push { cls := .type "list", data := .seq its.toArray }, toks := t' } :=
  I.laid (fun _ _ q => Heap.get?_push_of_some _ q) (Nat.le_refl _) ⟨hz, its, 0, hv, Heap.get?_push_size _ rfl⟩
theorem Inv.fresh (I : Inv X pins σ H s) : H s.heap.objs.size = none := I.hok.fresh (Nat.le_refl _)
theorem Inv.lstM (I : Inv X pins σ H s) (hH : H l = some (.lst xs)) : xs.length ≤ sizeLine ∧ ∃ (its : List Value) (n : Nat), Vals xs its ∧ xs.length = its.length ∧ s.heap.get? l = some { cls := .type "list", data := .seq its.toArray n } := by
  obtain ⟨z, its, n, r, e⟩ := I.hok l _ hH
  exact ⟨z, its, n, r, r.length, e⟩
theorem notLongL {n : Nat} (h : n ≤ sizeLine) : Builtin.List.listTooLong n = false := by
  unfold Builtin.List.listTooLong
  exact decide_eq_false (by omega)
end
section
variable {X : Cx}
def rAppend : V → List V → Hp → VK → Prop := fun x vs H Q => ∃ l xs y, x = .ref l ∧ vs = [y] ∧ H l = some (.lst xs) ∧ xs.length < sizeLine ∧ Q .non (upd H l (.lst (xs ++ [y])))
theorem mt_append : MtM X "list.append" rAppend := by
  intro pins s σ H x vs v us Q I rx rv h
  obtain ⟨l, xs, y, rfl, rfl, hH, hz, q⟩ := h
  cases rx
  obtain ⟨u, rfl, ru⟩ := rv.one
  obtain ⟨z, its, n, r, hl, e⟩ := I.lstM hH
  refine call_meets F.slot_list_append ⟨_, e, rfl⟩ F.entry_list_append (F.args_list_append_2 _ _) (PySem.list_append l its.toArray n u (by rw [List.size_toArray]; omega)) ⟨e, ?_⟩
  refine ⟨.non, _, I.lset (its' := its ++ [u]) hH e (by simp) (r.append (.cons ru .nil)) ?_, rfl, q⟩
  rw [List.length_append, List.length_singleton]
  omega
def rExtend : V → List V → Hp → VK → Prop := fun x vs H Q => ∃ l b xs zs, x = .ref l ∧ vs = [.ref b] ∧ H l = some (.lst xs) ∧ H b = some (.lst zs) ∧ xs.length + zs.length ≤ sizeLine ∧ Q .non (upd H l (.lst (xs ++ zs)))
theorem mt_extend : MtM X "list.extend" rExtend := by
  intro pins s σ H x vs v us Q I rx rv h
  obtain ⟨l, b, xs, zs, rfl, rfl, hH, hB, hz, q⟩ := h
  cases rx
  obtain ⟨u, rfl, ru⟩ := rv.one
  cases ru
  obtain ⟨z, its, n, r, hl, e⟩ := I.lstM hH
  obtain ⟨z2, its2, n2, r2, hl2, e2⟩ := I.lstM hB
  have hsz : its.toArray.size + its2.toArray.size ≤ sizeLine := by rw [List.size_toArray, List.size_toArray]; omega
  have hlong : ¬ (!its.toArray.isEmpty && Builtin.List.listTooLong (its.toArray.size + its2.toArray.size)) = true := by
    rw [notLongL hsz, Bool.and_false]
    exact Bool.false_ne_true
  refine call_meets F.slot_list_extend ⟨_, e, rfl⟩ F.entry_list_extend (F.args_list_extend_2 _ _)
    (AutoSeq1.list_extend_list_list_0 l its.toArray n b its2.toArray n2 hlong (by rw [List.size_toArray]; omega) (by omega)) ⟨e, e2, ?_⟩
  refine ⟨.non, _, I.lset (its' := its ++ its2) hH e (by simp) (r.append r2) ?_, rfl, q⟩
  rw [List.length_append]
  omega
def rPop : V → List V → Hp → VK → Prop := fun x vs H Q => ∃ l xs y, x = .ref l ∧ vs = [] ∧ H l = some (.lst xs) ∧ xs[xs.length - 1]? = some y ∧ Q y (upd H l (.lst xs.dropLast))
theorem mt_pop : MtM X "list.pop" rPop := by
  intro pins s σ H x vs v us Q I rx rv h
  obtain ⟨l, xs, y, rfl, rfl, hH, hy, q⟩ := h
  cases rx
  have hus := rv.zero
  subst hus
  obtain ⟨z, its, n, r, hl, e⟩ := I.lstM hH
  obtain ⟨u, hu, ru⟩ := r.get hy
  have hy' : its.toArray[its.toArray.size - 1]? = some u := by
    show its.toArray[its.length - 1]? = some u
    rw [← Array.getElem?_toList, ← hl]
    exact hu
  refine call_meets F.slot_list_pop ⟨_, e, rfl⟩ F.entry_list_pop (F.args_list_pop_1 _) (MeetsSeq.list_pop_last l its.toArray n u hy' (by rw [List.size_toArray]; omega)) ⟨e, ?_⟩
  refine ⟨y, _, I.lset (its' := its.dropLast) hH e ?_ r.dropLast ?_, ru, q⟩
  · show its.toArray.eraseIdxIfInBounds (its.toArray.size - 1) = its.dropLast.toArray
    rw [List.size_toArray, List.eraseIdxIfInBounds_toArray, erase_last]
  · rw [List.length_dropLast]
    omega
def rCat : R2 := fun x y H Q => ∃ l b xs zs, x = .ref l ∧ y = .ref b ∧ H l = some (.lst xs) ∧ H b = some (.lst zs) ∧ xs.length + zs.length ≤ sizeLine ∧ ∀ p, H p = none → Q (.ref p) (upd H p (.lst (xs ++ zs)))
theorem op_cat : OpR X (binaryOp .Add) rCat := by
  intro pins s σ H x y v u Q I rx ry h
  obtain ⟨l, b, xs, zs, rfl, rfl, hH, hB, hz, q⟩ := h
  cases rx
  cases ry
  obtain ⟨z, its, n, r, hl, e⟩ := I.lstM hH
  obtain ⟨z2, its2, n2, r2, hl2, e2⟩ := I.lstM hB
  refine PySem.P.add_list e e2 ?_ (by rw [List.size_toArray, List.size_toArray]; omega)
  have ea : its.toArray ++ its2.toArray = (its ++ its2).toArray := by simp
  rw [ea]
  exact ⟨.ref _, _, I.lnew (t' := s.toks) (r.append r2) (by rw [List.length_append]; omega), rfl, q _ I.fresh⟩
end
section
variable {prog : Program} {w : World} {A : Around} {E : Value → Shared → Prop} {s : Shared}
set_option maxRecDepth 100000 in
end
section
variable {X : Cx}
end
end L2
namespace Att
open PySem PySem.W PySem.Calls PyProof.Rows
theorem ints_of_wellAll {P : Params} {h : Heap} : ∀ (ns : List Int) (vs : List Value), WellAll P h vs (ns.map WData.int) → IntsAre vs ns := by
  intro ns
  induction ns with
  | nil =>
    intro vs w
    rw [List.map_nil] at w
    cases w
    exact .nil
  | cons n ns ih =>
    intro vs w
    rw [List.map_cons] at w
    cases w with
    | cons a b =>
      cases a
      exact .cons _ _ (ih _ b)
theorem script_of {l : OpenLaw} {n : Nat} (hn : l.most = some n) {P : Params} {h : Heap} {args : List WData} {vals : List Value}
    (hpre : l.row.toRowW.claim.pre args = true) (hwl : WellAll P h vals args) :
    ∃ a vs ns, vals = [Value.ref a] ∧ args = [WData.list (ns.map WData.int)] ∧ h.get? a = some { cls := .type "list", data := .seq vs.toArray } ∧ IntsAre vs ns ∧ ns.length ≤ n := by
  have hsh : WShape.hasAll [] args [.list .int] = true := (pre_splitW hpre).1
  have hc : l.pre.holds [] { args := args } = true := (pre_splitW hpre).2
  obtain ⟨d, r, rfl, h1, h2⟩ := hasAllW_cons hsh
  obtain rfl := hasAllW_nil h2
  obtain ⟨xs, rfl, h3⟩ := hasW_list h1
  obtain ⟨ns, rfl⟩ := items_int h3
  have hlen : ns.length ≤ n := by
    unfold OpenLaw.pre at hc
    have h4 : (WTm.not (.lt (.lit (.int (n : Int))) (.len (.arg 0)))).holds [] { args := [.list (ns.map .int)] } = true := by
      have h4 := (holds_andW hc).1
      rw [hn] at h4
      exact h4
    have h5 := condW_of h4 (w_not (w_lt w_lit (w_len_list (w_arg rfl))))
    rw [List.length_map] at h5
    refine Nat.le_of_not_lt fun q => ?_
    have q' : (n : Int) < ((ns.length : Nat) : Int) := by omega
    first
      | (rw [decide_eq_true q'] at h5; exact absurd h5 (by decide))
      | (simp at h5; omega)
  cases hwl with
  | cons w1 w2 =>
    cases w2
    cases w1 with
    | list ho hall => exact ⟨_, _, ns, rfl, rfl, ho, ints_of_wellAll ns _ hall, hlen⟩
theorem post_true (l : OpenLaw) (args : List WData) : l.row.toRowW.claim.post args (.bool true) args = true :=
  postW_of (r := l.row.toRowW) (X := (true == true))
    (show WShape.has [] (.bool true) .bool = true by first | rfl | decide | simp [WShape.has, WShape.arms, WShape.armsAll])
    (show (WTm.eq .res (.lit (.bool true))).value [] { args := args, res := some (.bool true), after := args } = some (.bool (true == true)) from w_eq_bool (w_res rfl) w_lit) rfl
theorem attach_call {l : OpenLaw} {n : Nat} {q : Program} {loose : List Str} {XP : (Str → Option Value) → Heap → Prop} {YP : World → Heap → Prop} {d : DefRec}
    (hn : l.most = some n) (hdf : d.params.defaults = [])
    (call : ∀ (w : World) (s₀ s₁ : Shared) (mg mb : Str → Option Value) (fa : Addr) (o : Obj) (pm cd doc : Value) (a : Addr) (vs : List Value) (ns : List Int),
      Ground q loose [] XP w s₀ mg mb s₁.heap → YP w s₁.heap →
      s₁.heap.get? fa = some o → o.data = .func (docDef d.name d.params d.body d.scope pm cd doc) → s₁.heap.CodeRec cd d.name → mg d.name = some (.ref fa) →
      s₁.heap.get? a = some { cls := .type "list", data := .seq vs.toArray } → IntsAre vs ns → ns.length ≤ n → s₁.gens = #[] →
      codeAny (model l.prog w) callerA (.call (.ref fa) ⟨[.ref a], []⟩) (fun r s' => r = .ok (.ret (.bool true)) ∧ OldK s₁.heap s'.heap ∧ s'.os = s₁.os ∧ AllBare s'.gens) s₁) :
    WalkO q loose XP YP l.row.toRowW d [] (fun f vs => PySem.call f vs) := by
  intro w s₀ s₁ mg mb G Y fa o pm cd doc dV kV ho hd hcd hD hmg hg args vals as hpre hlay hrd hwl hlo
  obtain rfl : dV = .none := Dflts.none hD hdf
  obtain rfl : kV = .none := Dflts.noKw hD
  obtain ⟨a, vs, ns, rfl, rfl, hobj, hints, hlen⟩ := script_of hn hpre hwl
  refine enter_call (codeAny_mono (call w s₀ s₁ mg mb fa o pm cd doc a vs ns G Y ho (fd_plain hd) hcd hmg hobj hints hlen hg) fun r s' hq => ?_)
  obtain ⟨rfl, h2, h3, h4⟩ := hq
  exact ⟨.inl ⟨.bool true, .bool true, [], rfl, fun _ => rfl, .bool true, post_true l _, fun _ => ⟨List.Pairwise.nil, fun _ hm => (nomatch hm)⟩⟩, h2, h3, h4⟩
section
variable {prog : Program} {w : World} {A : Around} {E : Value → Shared → Prop} {s : Shared} {K : Frag}
def ledger (h : Heap) (L d : Addr) : List (Addr × Obj) := (List.range h.objs.size).filterMap fun a => if a = L ∨ a = d then none else (h.get? a).map fun o => (a, o)
end
end Att
namespace L2
open PySem PySem.Spec PyProof.Rows
theorem vals_ints : ∀ {vs : List Value} {ns : List Int}, IntsAre vs ns → Vals (ns.map V.int) vs
  | _, _, .nil => .nil
  | _, _, .cons n t h => .cons ⟨t, rfl⟩ (vals_ints h)
def Only (H : Hp) : Prop := ∀ b, H b = none ∨ ∃ o xs, H b = some (.frz o (.lst xs))
theorem law_call {P : Program} {w : World} {K : PySem.W.Frag} {mg mb : Str → Option Value} {CX : CXT} {k : Nat} {fa a : Addr} {fd : FuncData} {x : Str} {sp : Sp} {s₁ : Shared} {vs : List Value} {ns : List Int}
    (KX : K.In s₁.heap) (hns : s₁.heap.Ns mainGlobals mg) (hb : s₁.heap.Ns builtinsNs mb) (hbb : ∀ x : Str, x ≠ "__name__" → mb x = bootBuiltins x) (hlim : s₁.heap.NoLimit) (hg : s₁.gens = #[])
    (ha : s₁.heap.get? a = some { cls := .type "list", data := .seq vs.toArray }) (hi : IntsAre vs ns) (hl : ns.length ≤ sizeLine) (hr : Room k callerA)
    (F : ∀ base : Heap, K.In base → base.Ns mainGlobals mg → FnOk P w K mg base CX k fa fd [x] sp) (hbind : ∀ (s : Shared) (u : Value), BindsTo s fd ⟨[u], []⟩ [(x, u)])
    (hsp : ∀ H : Hp, Only H → SqL K H a (ns.map V.int) → sp [.ref a] H (fun v _ => v = .bl true) fun _ _ _ => False)
    (hCX : ∀ H e s', CX [] H s₁ (fun _ _ _ => False) e s' → False) :
    codeAny (model P w) callerA (.call (.ref fa) ⟨[.ref a], []⟩) (fun r s' => r = .ok (.ret (.bool true)) ∧ OldK s₁.heap s'.heap ∧ s'.os = s₁.os ∧ AllBare s'.gens) s₁ := by
  have rv := vals_ints hi
  have lenV := hi.length
  have core : ∀ H : Hp, Only H → SqL K H a (ns.map V.int) → HOk P w H s₁.heap → (∀ b, H b ≠ none → b = a) → (H a ≠ none → K.lookup a = none) →
      codeAny (model P w) callerA (.call (.ref fa) ⟨[.ref a], []⟩) (fun r s' => r = .ok (.ret (.bool true)) ∧ OldK s₁.heap s'.heap ∧ s'.os = s₁.os ∧ AllBare s'.gens) s₁ := by
    intro H hO hS hok hA hK
    have base_of : ∀ {b : Addr} {o : Obj}, s₁.heap.get? b = some o → H b = none → (hidT s₁.heap H).get? b = some o := fun e n => hidT_get e n
    have noA : ∀ {b : Addr} {o : Obj} {es : Array DictEntry} {ep : Nat}, s₁.heap.get? b = some o → o.data = .dict es ep → H b = none := fun {b o es ep} e d => by
      cases q : H b with
      | none => rfl
      | some u =>
        have e' : b = a := hA b (by rw [q]; simp)
        subst e'
        rw [ha] at e; cases e
        have d' : Data.seq vs.toArray _ = Data.dict es ep := d
        cases d'
    have nsK : ∀ {b : Addr} {m : Str → Option Value}, s₁.heap.Ns b m → (hidT s₁.heap H).Ns b m := fun {b m} ⟨o, es, ep, e, d, r⟩ => ⟨o, es, ep, base_of e (noA e d), d, r⟩
    have hKb : K.In (hidT s₁.heap H) := fun b o e => base_of (KX b o e) (by
      cases q : H b with
      | none => rfl
      | some u =>
        have e' : b = a := hA b (by rw [q]; simp)
        subst e'
        rw [hK (by rw [q]; simp)] at e; cases e)
    have hM : Mod K mg (hidT s₁.heap H) := ⟨hKb, nsK hns, ⟨mb, nsK hb, hbb⟩, let ⟨mc, h1, h2⟩ := hlim; ⟨mc, nsK h1, h2⟩⟩
    have e0 : Env0 P w K mg (hidT s₁.heap H) callerA [] s₁ H := ⟨rfl, hM, fun b o e => of_hidT e, Nat.le_of_eq (hidT_size _ _), trivial, fun b hb => absurd (show b ∈ ([] : List Addr) from hb) (by simp), hok, .of_eq hg⟩
    refine codeAny_mono ((F _ hKb (nsK hns)).run callerA [] s₁ H ⟨[.ref a], []⟩ [.ref a] [.ref a] _ _ hr e0 (hbind s₁ (.ref a)) (.cons rfl .nil) (hsp H hO hS)) fun r s' h => ?_
    cases r with
    | error e => exact (hCX H e s' h).elim
    | ok fl =>
      cases fl with
      | next => exact False.elim h
      | brk => exact False.elim h
      | cont => exact False.elim h
      | ret u =>
        obtain ⟨v, H', os, bare, un, hok', r', q⟩ := h
        have q' : v = .bl true := q
        subst q'
        obtain rfl : u = Value.bool true := r'
        refine ⟨rfl, OldK.of_keep fun b o e => ?_, os, bare⟩
        cases q : H b with
        | none => exact un.keep b o e q (by intro z; exact absurd (show b ∈ ([] : List Addr) from z) (by simp)) (by simp)
        | some u =>
          rcases hO b with z | ⟨ob, xs, z⟩
          · rw [q] at z; cases z
          · have z2 := un.frzs b ob _ z
            obtain ⟨e1, _⟩ := hok b _ z
            obtain ⟨e2, _⟩ := hok' b _ z2
            rw [e] at e1; cases e1
            exact e2
  cases hk : K.lookup a with
  | some o =>
    have e := KX a o hk
    rw [ha] at e
    cases e
    refine core (fun _ => none) (fun _ => .inl rfl) (.inr ⟨_, vs.toArray, _, hk, rfl, rfl, rfl, by rw [List.size_toArray, lenV]; exact hl, by simpa using rv⟩) (fun b u z => by have z' : (none : Option HO) = some u := z; cases z') (fun b z => absurd rfl z) fun z => absurd rfl z
  | none =>
    refine core (fun b => if b = a then some (.frz { cls := .type "list", data := .seq vs.toArray } (.lst (ns.map V.int))) else none) (fun b => ?_) (.inl (.inr ⟨{ cls := .type "list", data := .seq vs.toArray }, if_pos rfl⟩)) (fun b u z => ?_) (fun b z => ?_) fun _ => hk
    · by_cases hb : b = a
      · exact .inr ⟨_, _, if_pos hb⟩
      · exact .inl (if_neg hb)
    · by_cases hb : b = a
      · have z' := (if_pos hb).symm.trans z
        cases z'
        subst hb
        exact ⟨ha, by rw [List.length_map]; exact hl, vs, _, rv, ha⟩
      · have z' := (if_neg hb).symm.trans z
        cases z'
    · by_cases hb : b = a
      · exact hb
      · exact absurd (if_neg hb) z
end L2
namespace L2
open PySem PySem.Spec PyProof.Rows
abbrev KOf {K : PySem.W.Frag} {h : Heap} (_ : K.In h) : PySem.W.Frag := K
theorem walk_of {l : PySem.W.OpenLaw} {n k : Nat} {q : Program} {loose : List Str} {XP : (Str → Option Value) → Heap → Prop} {YP : World → Heap → Prop} {d : DefRec} {K : Params → PySem.W.Frag} {CX : World → CXT} {sp : World → Sp} {x : Str}
    (hn : l.most = some n) (hn2 : n ≤ sizeLine) (hdf : d.params.defaults = []) (hr : Room k callerA)
    (hY : ∀ (w : World) (h : Heap), YP w h → (K w.params).In h)
    (F : ∀ (w : World) (mg : Str → Option Value) (fa : Addr) (h : Heap), (K w.params).In h → h.Ns mainGlobals mg → mg d.name = some (.ref fa) →
      ∃ fd : FuncData, (∀ (s : Shared) (u : Value), BindsTo s fd ⟨[u], []⟩ [(x, u)]) ∧
        ∀ base : Heap, (K w.params).In base → base.Ns mainGlobals mg → FnOk l.prog w (K w.params) mg base (CX w) k fa fd [x] (sp w))
    (hsp : ∀ (w : World) (H : Hp) (a : Addr) (ns : List Int), ns.length ≤ n → Only H → SqL (K w.params) H a (ns.map V.int) → sp w [.ref a] H (fun v _ => v = .bl true) fun _ _ _ => False)
    (hCX : ∀ (w : World) (H : Hp) (s : Shared) (e : Value) (s' : Shared), CX w [] H s (fun _ _ _ => False) e s' → False) :
    PySem.W.WalkO q loose XP YP l.row.toRowW d [] (fun f vs => PySem.call f vs) := by
  refine Att.attach_call hn hdf fun w s₀ s₁ mg mb fa o pm cd doc a vs ns G Y ho hd hcd hmg hobj hints hlen hg => ?_
  have KX := hY w _ Y
  obtain ⟨fd, hb, hF⟩ := F w mg fa _ KX G.T.g hmg
  exact law_call KX G.T.g G.T.b G.T.builtins G.T.nolimit hg hobj hints (Nat.le_trans hlen hn2) hr hF hb (fun H hO hS => hsp w H a ns hlen hO hS) fun H e s' => hCX w H s₁ e s'
end L2
/- THE LAST THEOREM (shape; LID, My.* are yours):
   My.Adr: a structure of the addresses that your layer names (classes, functions); My.Txt K t: a structure (Prop) of the equations over K;
   My.txt_mk : {K} {implicit addresses ..} (e1 : nsIn K mainGlobals "law" = some (some (.ref f))) (e2 : K.lookup f = some ⟨oc, od, .func (fnOf "law" "law" params body scope dV kV doc pm an cdv ct), sl⟩) (e3 : codeIn K cdv "law" = true) .. : ∃ t, My.Txt K t
set_option maxRecDepth 100000 in
set_option maxHeartbeats 0 in
theorem PySem.Challenge.cw_LID_holds : PySem.Challenge.rw_LID.Holds := by
  w_on; o_law; k_head; (case hw => w_witness2)
  k_fill
  refine L2.walk_of (l := PySem.Challenge.rw_LID) (n := 63) (k := 40) (x := "script") (CX := fun w => ..) (sp := fun _ => My.sp_law) rfl (by decide) rfl ⟨rfl, by decide, by decide⟩ (fun w h Y => PySem.W.kIn_of Y) ?F ?S ?C
  case F =>
    intro w mg fa h KX G hmg
    have T : ∃ t, My.Txt (L2.KOf KX) t := by
      dsimp only [L2.KOf]                          -- K must stand as «<heap const> w.params» for k_is
      refine' My.txt_mk ?e1 ?e2 ?e3 ..
      (case e1 => PySem.W.k_is)                    -- in the order: a name -> its address -> its object -> its parts
      (case e2 => PySem.W.k_is)
      ..
    obtain ⟨t, T⟩ := T
    have e0 := hmg.symm.trans (PySem.W.mg_of KX G T.law)
    cases e0                                       -- fa is the law's own address
    exact ⟨_, fun s u => .of_eq rfl, fun base kb nb => My.law_fn T kb nb⟩     -- if «.of_eq rfl» comes too early: refine' ⟨_, ?b, fun base kb nb => My.law_fn T kb nb⟩; exact fun s u => .of_eq rfl
  case S => exact fun w H a ns hl hO hS => ..
  case C => exact ..
(the tactic k_is has no namespace: write k_is) -/
namespace L2
open PySem PySem.Spec PyProof.Rows
def defArgs (s : Stmt) : Arguments := match s with
  | .FunctionDef _ a _ _ _ _ _ _ _ _ => a
  | _ => { posonlyargs := [], args := [], vararg := none, kwonlyargs := [], kw_defaults := [], kwarg := none, defaults := [] }
def defBody (s : Stmt) : List Stmt := match s with
  | .FunctionDef _ _ b _ _ _ _ _ _ _ => b
  | _ => []
def defScope (s : Stmt) : Scope := match s with
  | .FunctionDef _ _ _ _ _ _ sc _ _ _ => sc
  | _ => { kind := .function, names := [], isGenerator := false, isCoroutine := false }
abbrev CX0 : CXT := fun _ _ _ _ _ _ => False
abbrev E0 : XK := fun _ _ _ => False
theorem pass0 {X : Cx} : Passes CX0 X E0 := fun _ _ _ _ _ _ _ h => h.elim
structure Fun (K : PySem.W.Frag) (x qual : Str) (st : Stmt) (f : Addr) (fd : FuncData) : Prop where
  ex : ∃ (oc : Value) (od : Option Addr) (kV doc pm : Value) (an : Option Addr) (cdv ct : Value) (osl : Array (Option Value)),
    fd = PySem.W.fnOf x qual (defArgs st) (defBody st) (defScope st) .none kV doc pm an cdv ct ∧ K.lookup f = some ⟨oc, od, .func fd, osl⟩ ∧ PySem.W.codeIn K cdv qual = true
  kp : PySem.W.keepIn K (.ref f) = true
section
variable {P : Program} {w : World} {K : PySem.W.Frag} {mg : Str → Option Value} {base : Heap}
theorem Fun.ok {x qual : Str} {st : Stmt} {f : Addr} {fd : FuncData} {N ps : List Str} {k : Nat} {sp : Sp} (F : Fun K x qual st f fd) (S : FnScope N ps (defScope st)) (len : ∀ vs H Q E, sp vs H Q E → vs.length = ps.length)
    (hbody : ∀ (cdv : Value) (A : Around) (outer : List Env) (s : Shared) (H : Hp) (vs : List V) (Q : VK) (E : XK), Room k (A.deeper (envOfC qual (defScope st) s.heap.objs.size f cdv)) → sp vs H Q E →
      ∃ t, PSs (cxOf CX0 P w K mg base N qual (defScope st) f cdv A outer s H E).nox (defBody st) t ∧ t { nx := fun _ H' => Q .non H', rt := Q } (start N vs) H) : FnOk P w K mg base CX0 (k + 1) f fd ps sp := by
  obtain ⟨oc, od, kV, doc, pm, an, cdv, ct, osl, rfl, lk, hcd⟩ := F.ex
  refine fn_of lk hcd S len fun A outer s H vs Q E hr hsp => ?_
  obtain ⟨t, h, q⟩ := hbody cdv A outer s H vs Q E hr hsp
  exact ⟨t, h.nox, q⟩
theorem Fun.binds {x qual : Str} {st : Stmt} {f : Addr} {fd : FuncData} {ps : List Str} (F : Fun K x qual st f fd)
    (h : ∀ (kV doc pm : Value) (an : Option Addr) (cdv ct : Value) (us : List Value), us.length = ps.length → bindArgs (PySem.W.fnOf x qual (defArgs st) (defBody st) (defScope st) .none kV doc pm an cdv ct) ⟨us, []⟩ = pure (ps.zip us)) : Binds K fd ps [] := by
  obtain ⟨oc, od, kV, doc, pm, an, cdv, ct, osl, rfl, lk, hcd⟩ := F.ex
  exact .all (h kV doc pm an cdv ct)
theorem fun_mk {x qual : Str} {st : Stmt} {f : Addr} {oc : Value} {od an : Option Addr} {osl : Array (Option Value)} {kV doc pm cdv ct : Value} (l : K.lookup f = some ⟨oc, od, .func (PySem.W.fnOf x qual (defArgs st) (defBody st) (defScope st) .none kV doc pm an cdv ct), osl⟩)
    (c : PySem.W.codeIn K cdv qual = true) (k : PySem.W.keepIn K (.ref f) = true) : Fun K x qual st f (PySem.W.fnOf x qual (defArgs st) (defBody st) (defScope st) .none kV doc pm an cdv ct) := ⟨⟨oc, od, kV, doc, pm, an, cdv, ct, osl, rfl, l, c⟩, k⟩
end
theorem hu_of {A : Around} {k : Nat} (hr : Room k A) : A.units + 1 < cLine := Nat.lt_of_le_of_lt (Nat.add_le_add_left (by decide : 1 ≤ 64) _) hr.units
section
variable {X : Cx}
theorem pv (i : Nat) {x : Str} {pos : Pos} (hN : X.N[i]? = some x := by rfl) (hv : Vis X.env.scope x := by first | exact Or.inl rfl | exact Or.inr (Or.inl rfl) | exact Or.inr (Or.inr rfl)) (hd : (x == ("__debug__" : Str)) = false := by decide)
    (hcd : (x == ("__classdict__" : Str)) = false := by decide) : PE X (.Name x pos) (tVar i) := pe_var hN hv hd hcd
end
theorem iteF {A B : Prop} (h : B) : if false = true then A else B := by
  rw [if_neg Bool.false_ne_true]
  exact h
theorem iteT {A B : Prop} (h : A) : if true = true then A else B := by
  rw [if_pos rfl]
  exact h
theorem ite2 {c A B : Prop} [Decidable c] (h1 : c → A) (h2 : ¬ c → B) : if c then A else B := by
  by_cases h : c
  · rw [if_pos h]
    exact h1 h
  · rw [if_neg h]
    exact h2 h
def Same (H H' : Hp) : Prop := ∀ b o, H b = some o → H' b = some o
theorem Same.refl (H : Hp) : Same H H := fun _ _ h => h
theorem Same.trans {H H1 H2 : Hp} (a : Same H H1) (b : Same H1 H2) : Same H H2 := fun c o h => b c o (a c o h)
theorem Same.free {H H' : Hp} (e : Same H H') {l : Addr} (h : H' l = Option.none) : H l = Option.none := by
  cases q : H l with
  | none => rfl
  | some o =>
    rw [e l o q] at h
    cases h
theorem Same.seq {K : PySem.W.Frag} {H H' : Hp} {a : Addr} {xs : List V} (e : Same H H') (h : SqL K H a xs) : SqL K H' a xs := by
  rcases h with (h | ⟨o, h⟩) | h
  · exact .inl (.inl (e _ _ h))
  · exact .inl (.inr ⟨o, e _ _ h⟩)
  · exact .inr h
end L2
set_option maxHeartbeats 4000000
namespace L2
open PySem PySem.Spec PyProof.Rows
section
variable {κ : Type} [DecidableEq κ]
def valV (kvs : List (κ × V)) (k : κ) : Option V := (kvs.find? fun kv => decide (kv.1 = k)).map (·.2)
def putK (kvs : List (κ × V)) (k : κ) (v : V) : List (κ × V) :=
  if (kvs.any fun kv => decide (kv.1 = k)) = true then kvs.map (fun kv => if kv.1 = k then (kv.1, v) else kv) else kvs ++ [(k, v)]
def dropK (kvs : List (κ × V)) (k : κ) : List (κ × V) := kvs.filter fun kv => decide (kv.1 ≠ k)
theorem valV_pos {p : κ × V} {r : List (κ × V)} {k : κ} (e : p.1 = k) : valV (p :: r) k = some p.2 := by simp [valV, List.find?_cons, e]
theorem valV_neg {p : κ × V} {r : List (κ × V)} {k : κ} (e : ¬ p.1 = k) : valV (p :: r) k = valV r k := by simp [valV, List.find?_cons, e]
theorem valV_any (k : κ) : ∀ kvs : List (κ × V), (kvs.any fun kv => decide (kv.1 = k)) = (valV kvs k).isSome
  | [] => rfl
  | p :: r => by
    rw [List.any_cons]
    by_cases e : p.1 = k
    · simp only [valV_pos e, decide_eq_true e, Bool.true_or, Option.isSome_some]
    · rw [valV_neg e, decide_eq_false e, Bool.false_or]; exact valV_any k r
theorem valV_map (k j : κ) (y : V) : ∀ kvs : List (κ × V), valV (kvs.map fun kv => if kv.1 = k then (kv.1, y) else kv) j = (valV kvs j).map fun x => if j = k then y else x
  | [] => rfl
  | p :: r => by
    have ih := valV_map k j y r
    rw [List.map_cons]
    by_cases h : p.1 = k
    · rw [if_pos h]
      by_cases e : p.1 = j
      · rw [valV_pos (p := (p.1, y)) e, valV_pos e, Option.map_some, if_pos (e.symm.trans h)]
      · rw [valV_neg (p := (p.1, y)) e, valV_neg e, ih]
    · rw [if_neg h]
      by_cases e : p.1 = j
      · rw [valV_pos (p := p) e, valV_pos e, Option.map_some, if_neg (fun z => h (e.trans z))]
      · rw [valV_neg (p := p) e, valV_neg e, ih]
theorem valV_snoc (k j : κ) (y : V) : ∀ kvs : List (κ × V), valV kvs k = none → valV (kvs ++ [(k, y)]) j = if j = k then some y else valV kvs j
  | [], _ => by
    by_cases e : k = j
    · rw [if_pos e.symm]; exact valV_pos (p := (k, y)) e
    · rw [if_neg (fun z => e z.symm)]; exact valV_neg (p := (k, y)) e
  | p :: r, hn => by
    rw [List.cons_append]
    have hk : ¬ p.1 = k := fun z => by rw [valV_pos z] at hn; cases hn
    rw [valV_neg hk] at hn
    have ih := valV_snoc k j y r hn
    by_cases e : p.1 = j
    · rw [valV_pos e, valV_pos e, if_neg (fun z => hk (e.trans z))]
    · rw [valV_neg e, valV_neg e, ih]
theorem valV_put (kvs : List (κ × V)) (k j : κ) (y : V) : valV (putK kvs k y) j = if j = k then some y else valV kvs j := by
  unfold putK
  by_cases a : (kvs.any fun kv => decide (kv.1 = k)) = true
  · rw [if_pos a, valV_map]
    rw [valV_any] at a
    by_cases e : j = k
    · obtain ⟨x, hx⟩ := Option.isSome_iff_exists.mp a
      rw [if_pos e, e, hx, Option.map_some, if_pos rfl]
    · rw [if_neg e]
      cases valV kvs j with
      | none => rfl
      | some x => rw [Option.map_some, if_neg e]
  · rw [if_neg a]
    refine valV_snoc k j y kvs ?_
    rw [valV_any] at a
    cases q : valV kvs k with
    | none => rfl
    | some x => rw [q] at a; exact (a rfl).elim
theorem length_putK (kvs : List (κ × V)) (k : κ) (v : V) : (putK kvs k v).length ≤ kvs.length + 1 := by
  unfold putK
  split
  · rw [List.length_map]; omega
  · rw [List.length_append, List.length_cons, List.length_nil]; omega
theorem putK_new {kvs : List (κ × V)} {k : κ} (v : V) (h : valV kvs k = none) : putK kvs k v = kvs ++ [(k, v)] := by
  unfold putK
  rw [valV_any, h]
  exact if_neg (by decide)
theorem RelO.isSome_eq {o : Option V} {u : Option Value} (r : RelO o u) : o.isSome = u.isSome := by
  cases o with
  | none => cases u with
    | none => rfl
    | some _ => exact (show False from r).elim
  | some _ => cases u with
    | none => exact (show False from r).elim
    | some _ => rfl
theorem RelO.getD {o : Option V} {u : Option Value} {d : V} {d' : Value} (r : RelO o u) (rd : RelV d d') : RelV (o.getD d) (u.getD d') := by
  cases o with
  | none => cases u with
    | none => exact rd
    | some _ => exact (show False from r).elim
  | some _ => cases u with
    | none => exact (show False from r).elim
    | some _ => exact r
theorem KV.val {kvs : List (κ × V)} {vs : List (κ × Value)} (r : KV kvs vs) (k : κ) : RelO (valV kvs k) (valueAt vs k) := by
  unfold KV at r
  induction r with
  | nil => exact True.intro
  | @cons p q ps qs h t ih =>
    obtain ⟨h1, h2⟩ := h
    by_cases e : p.1 = k
    · have e' : q.1 = k := h1.symm.trans e
      have b : valueAt (q :: qs) k = some q.2 := by simp [valueAt, List.find?_cons, e']
      rw [valV_pos e, b]; exact h2
    · have e' : ¬ q.1 = k := fun z => e (h1.trans z)
      have b : valueAt (q :: qs) k = valueAt qs k := by simp [valueAt, List.find?_cons, e']
      rw [valV_neg e, b]; exact ih
theorem KV.any {kvs : List (κ × V)} {vs : List (κ × Value)} (r : KV kvs vs) (k : κ) : (kvs.any fun kv => decide (kv.1 = k)) = vs.any fun kv => decide (kv.1 = k) := by
  unfold KV at r
  induction r with
  | nil => rfl
  | cons h t ih => rw [List.any_cons, List.any_cons, ih, h.1]
theorem KV.repl {kvs : List (κ × V)} {vs : List (κ × Value)} (r : KV kvs vs) (k : κ) {y : V} {u : Value} (ry : RelV y u) :
    KV (kvs.map fun kv => if kv.1 = k then (kv.1, y) else kv) (vs.map fun kv => if kv.1 = k then (kv.1, u) else kv) := by
  unfold KV at r ⊢
  induction r with
  | nil => exact .nil
  | @cons p q ps qs h t ih =>
    rw [List.map_cons, List.map_cons]
    refine .cons ?_ ih
    obtain ⟨h1, h2⟩ := h
    by_cases e : p.1 = k
    · rw [if_pos e, if_pos (h1.symm.trans e)]; exact ⟨h1, ry⟩
    · rw [if_neg e, if_neg (fun z => e (h1.trans z))]; exact ⟨h1, h2⟩
theorem KV.put {kvs : List (κ × V)} {vs : List (κ × Value)} (r : KV kvs vs) (k : κ) {y : V} {u : Value} (ry : RelV y u) : KV (putK kvs k y) (stored vs k u) := by
  unfold putK stored
  rw [r.any k]
  by_cases e : (vs.any fun kv => decide (kv.1 = k)) = true
  · rw [if_pos e, if_pos e]; exact r.repl k ry
  · rw [if_neg e, if_neg e]; exact Paired.snoc r ⟨rfl, ry⟩
theorem KV.drop {kvs : List (κ × V)} {vs : List (κ × Value)} (r : KV kvs vs) (k : κ) : KV (dropK kvs k) (without vs k) := by
  unfold KV at r ⊢
  unfold dropK without
  induction r with
  | nil => exact .nil
  | @cons p q ps qs h t ih =>
    obtain ⟨h1, h2⟩ := h
    rw [List.filter_cons, List.filter_cons]
    by_cases e : p.1 = k
    · have a : ¬ decide (p.1 ≠ k) = true := by simp [e]
      have b : ¬ decide (q.1 ≠ k) = true := by simp [h1.symm.trans e]
      rw [if_neg a, if_neg b]; exact ih
    · have e' : ¬ q.1 = k := fun z => e (h1.trans z)
      have a : decide (p.1 ≠ k) = true := by simp [e]
      have b : decide (q.1 ≠ k) = true := by simp [e']
      rw [if_pos a, if_pos b]; exact .cons ⟨h1, h2⟩ ih
theorem KV.keys {kvs : List (κ × V)} {vs : List (κ × Value)} (r : KV kvs vs) : kvs.map (·.1) = vs.map (·.1) := by
  unfold KV at r
  induction r with
  | nil => rfl
  | cons h t ih => rw [List.map_cons, List.map_cons, ih, h.1]
theorem KV.length {kvs : List (κ × V)} {vs : List (κ × Value)} (r : KV kvs vs) : kvs.length = vs.length := Paired.length r
end
theorem kV_is {P : Program} {w : World} {k : Key} {u : Value} (r : RelV (kV k) u) : (mixKind P w).is k u = true := by
  cases k with
  | inl i => obtain ⟨t, e⟩ := (show ∃ t, u = Value.int i t from r); subst e; exact mixKind_int P w i t
  | inr x => obtain ⟨t, e⟩ := (show ∃ t, u = Value.str x t from r); subst e; exact mixKind_str P w x t
theorem items_are {P : Program} {w : World} : ∀ {ks : List Key} {us : List Value}, Vals (ks.map kV) us → ItemsAre (mixKind P w) ks us
  | [], _, r => by rw [List.map_nil] at r; cases r; exact .nil
  | k :: ks, _, r => by
    rw [List.map_cons] at r
    cases r with
    | cons h t => exact .cons (kV_is h) (items_are t)
abbrev KT (H : Hp) : List (List Key × V) → List (List Key × Addr × Value) → Prop := Paired fun p q => p.1 = q.1 ∧ H q.2.1 = some (.tup (p.1.map kV)) ∧ RelV p.2 q.2.2
theorem KT.val {H : Hp} {kvs : List (List Key × V)} {xs : List (List Key × Addr × Value)} (r : KT H kvs xs) (k : List Key) : RelO (valV kvs k) ((atKey xs k).map (·.2)) := by
  induction r with
  | nil => exact True.intro
  | @cons p q ps qs h t ih =>
    obtain ⟨h1, _, h2⟩ := h
    by_cases e : p.1 = k
    · have e' : q.1 = k := h1.symm.trans e
      have b : atKey (q :: qs) k = some q.2 := by simp [atKey, List.find?_cons, e']
      rw [valV_pos e, b]; exact h2
    · have e' : ¬ q.1 = k := fun z => e (h1.trans z)
      have b : atKey (q :: qs) k = atKey qs k := by simp [atKey, List.find?_cons, e']
      rw [valV_neg e, b]; exact ih
theorem KT.repl {H : Hp} {kvs : List (List Key × V)} {xs : List (List Key × Addr × Value)} (r : KT H kvs xs) (k : List Key) {y : V} {u : Value} (ry : RelV y u) :
    KT H (kvs.map fun kv => if kv.1 = k then (kv.1, y) else kv) (xs.map (putAt k u)) := by
  induction r with
  | nil => exact .nil
  | @cons p q ps qs h t ih =>
    rw [List.map_cons, List.map_cons]
    refine .cons ?_ ih
    obtain ⟨h1, h2, h3⟩ := h
    unfold putAt
    by_cases e : p.1 = k
    · rw [if_pos e, if_pos (h1.symm.trans e)]; exact ⟨h1, h2, ry⟩
    · rw [if_neg e, if_neg (fun z => e (h1.trans z))]; exact ⟨h1, h2, h3⟩
theorem KT.put {H : Hp} {kvs : List (List Key × V)} {xs : List (List Key × Addr × Value)} (r : KT H kvs xs) (k : List Key) {b : Addr} {y : V} {u : Value} (hb : H b = some (.tup (k.map kV))) (ry : RelV y u) :
    KT H (putK kvs k y) (storedH xs k b u) := by
  have e : (kvs.any fun kv => decide (kv.1 = k)) = (atKey xs k).isSome := by
    rw [valV_any, (r.val k).isSome_eq, Option.isSome_map]
  unfold putK storedH
  rw [e]
  by_cases q : (atKey xs k).isSome = true
  · rw [if_pos q, if_pos q]; exact r.repl k ry
  · rw [if_neg q, if_neg q]; exact Paired.snoc r ⟨rfl, hb, ry⟩
theorem KT.keeps {H H' : Hp} {kvs : List (List Key × V)} {xs : List (List Key × Addr × Value)} (r : KT H kvs xs) (ht : ∀ b ys, H b = some (.tup ys) → H' b = some (.tup ys)) : KT H' kvs xs :=
  Paired.mapP r fun _ _ z => ⟨z.1, ht _ _ z.2.1, z.2.2⟩
section
variable {P : Program} {w : World} {H : Hp} {h : Heap} {a : Addr}
theorem rd_of {u : HO} (ok : HOk P w H h) (e : Rd H a u) : ObjOk P w H h a u := e.ok ok
theorem dk_rd {kvs : List (Key × V)} (ok : HOk P w H h) (e : Rd H a (.dK kvs)) : kvs.length ≤ sizeLine ∧ (a == sysModules) = false ∧ ∃ vs, KV kvs vs ∧ h.DictOf (mixKind P w) a vs :=
  show ObjOk P w H h a (.dK kvs) from rd_of ok e
theorem dk_of {kvs : List (Key × V)} (ok : HOk P w H h) (e : H a = some (.dK kvs)) : kvs.length ≤ sizeLine ∧ (a == sysModules) = false ∧ ∃ vs, KV kvs vs ∧ h.DictOf (mixKind P w) a vs := dk_rd ok (.inl e)
theorem key_of {ks : List Key} (ok : HOk P w H h) (e : H a = some (.tup (ks.map kV))) : (tupleKind (mixKind P w)).is h ks a := by
  obtain ⟨_, its, r, o, h1, h2, n, h3⟩ := (show ObjOk P w H h a (.tup (ks.map kV)) from ok a _ e)
  exact ⟨o, its.toArray, n, h1, h2, h3, by simpa using items_are r⟩
theorem dt_rd {kvs : List (List Key × V)} (ok : HOk P w H h) (e : Rd H a (.dT kvs)) : kvs.length ≤ sizeLine ∧ (a == sysModules) = false ∧
    ∃ xs, KT H kvs xs ∧ h.DictOfH (tupleKind (mixKind P w)) a xs := by
  obtain ⟨z, y, xs, r, o, es, ep, h1, h2, h3, h4, h5⟩ := (show ObjOk P w H h a (.dT kvs) from rd_of ok e)
  refine ⟨z, y, xs, r, o, es, ep, h1, h2, h3, h4, fun x hx => ?_, h5⟩
  have all : ∀ {l : List (List Key × V)} {m : List (List Key × Addr × Value)}, KT H l m → ∀ x ∈ m, (tupleKind (mixKind P w)).is h x.1 x.2.1 := by
    intro l m q
    induction q with
    | nil => intro x hx; exact nomatch hx
    | @cons p q ps qs hq t ih =>
      intro x hx
      rcases List.mem_cons.mp hx with e | hx
      · subst e
        exact key_of ok (by rw [← hq.1]; exact hq.2.1)
      · exact ih x hx
  exact all r x hx
theorem dt_of {kvs : List (List Key × V)} (ok : HOk P w H h) (e : H a = some (.dT kvs)) : kvs.length ≤ sizeLine ∧ (a == sysModules) = false ∧
    ∃ xs, KT H kvs xs ∧ h.DictOfH (tupleKind (mixKind P w)) a xs := dt_rd ok (.inl e)
end
def DGet (H : Hp) (a : Addr) (y : V) (r : Option V) : Prop :=
  (∃ kvs k, Rd H a (.dK kvs) ∧ y = kV k ∧ r = valV kvs k) ∨ ∃ kvs k b, Rd H a (.dT kvs) ∧ y = .ref b ∧ H b = some (.tup (k.map kV)) ∧ r = valV kvs k
def DPut (H : Hp) (a : Addr) (y v : V) (H' : Hp) : Prop :=
  (∃ kvs k, H a = some (.dK kvs) ∧ y = kV k ∧ kvs.length < sizeLine ∧ H' = upd H a (.dK (putK kvs k v))) ∨
  ∃ kvs k b, H a = some (.dT kvs) ∧ y = .ref b ∧ H b = some (.tup (k.map kV)) ∧ kvs.length < sizeLine ∧ H' = upd H a (.dT (putK kvs k v))
theorem DGet.k {H : Hp} {a : Addr} {kvs : List (Key × V)} {k : Key} (e : H a = some (.dK kvs)) : DGet H a (kV k) (valV kvs k) := .inl ⟨kvs, k, .inl e, rfl, rfl⟩
theorem DGet.t {H : Hp} {a b : Addr} {kvs : List (List Key × V)} {k : List Key} (e : H a = some (.dT kvs)) (eb : H b = some (.tup (k.map kV))) : DGet H a (.ref b) (valV kvs k) := .inr ⟨kvs, k, b, .inl e, rfl, eb, rfl⟩
theorem DPut.k {H : Hp} {a : Addr} {kvs : List (Key × V)} {k : Key} {v : V} (e : H a = some (.dK kvs)) (hl : kvs.length < sizeLine) : DPut H a (kV k) v (upd H a (.dK (putK kvs k v))) := .inl ⟨kvs, k, e, rfl, hl, rfl⟩
theorem DPut.t {H : Hp} {a b : Addr} {kvs : List (List Key × V)} {k : List Key} {v : V} (e : H a = some (.dT kvs)) (eb : H b = some (.tup (k.map kV))) (hl : kvs.length < sizeLine) :
    DPut H a (.ref b) v (upd H a (.dT (putK kvs k v))) := .inr ⟨kvs, k, b, e, rfl, eb, hl, rfl⟩
section
variable {X : Cx} {pins : List (Addr × Obj)} {σ : St} {H : Hp} {s : Shared} {a : Addr} {y v : V} {u r : Value} {o : Option V} {A : Around} {E : Value → Shared → Prop}
theorem Inv.big (I : Inv X pins σ H s) : sysModules < s.heap.objs.size := by
  have h : mainGlobals < s.heap.objs.size := (I.mod.glob.keeps I.bk).lt
  exact Nat.lt_trans (by decide) h
theorem d_getItem {Q : Value → Shared → Prop} (hu : A.units + 1 < cLine) (I : Inv X pins σ H s) (g : DGet H a y (some v)) (ry : RelV y u) (h : ∀ w' s', Inv X pins σ H s' → RelV v w' → Q w' s') :
    wpAny (model X.prog X.w) A (getItem (.ref a) u) Q E s := by
  rcases g with ⟨kvs, k, e, ey, l⟩ | ⟨kvs, k, b, e, ey, eb, l⟩
  · subst ey
    obtain ⟨z, hd, vs, rel, dd⟩ := dk_rd I.hok e
    obtain ⟨w', hw, rw'⟩ := RelO.some_of (v := v) (o := valueAt vs k) (by rw [l]; exact rel.val k)
    exact wpAny_getItem_of (kV_is ry) dd.mapOf hw (h w' _ (I.tok _) rw')
  · subst ey
    cases (show u = Value.ref b from ry)
    obtain ⟨z, hd, xs, rel, dd⟩ := dt_rd I.hok e
    obtain ⟨w', hw, rw'⟩ := RelO.some_of (v := v) (o := (atKey xs k).map (·.2)) (by rw [l]; exact rel.val k)
    obtain ⟨p, hp, hp2⟩ := Option.map_eq_some_iff.mp hw
    refine wpAny_getItem_heap (tupleKind_room_in1 hu) (key_of I.hok eb) dd hp ?_
    rw [hp2]
    exact h w' _ (I.tok _) rw'
theorem d_in {Q : Value → Shared → Prop} (hu : A.units + 1 < cLine) (I : Inv X pins σ H s) (g : DGet H a y o) (ry : RelV y u) (h : ∀ s', Inv X pins σ H s' → Q (.bool o.isSome) s') :
    wpAny (model X.prog X.w) A (compareOp .In u (.ref a)) Q E s := by
  rcases g with ⟨kvs, k, e, ey, l⟩ | ⟨kvs, k, b, e, ey, eb, l⟩
  · subst ey
    obtain ⟨z, hd, vs, rel, dd⟩ := dk_rd I.hok e
    refine wpAny_in_of (kV_is ry) hd dd.mapOf ?_
    rw [← (rel.val k).isSome_eq, ← l]
    exact h _ (I.tok _)
  · subst ey
    cases (show u = Value.ref b from ry)
    obtain ⟨z, hd, xs, rel, dd⟩ := dt_rd I.hok e
    refine wpAny_in_heap (tupleKind_room_in1 hu) (key_of I.hok eb) hd dd ?_
    have q := (rel.val k).isSome_eq
    rw [Option.isSome_map] at q
    rw [← q, ← l]
    exact h _ (I.tok _)
theorem d_notIn {Q : Value → Shared → Prop} (hu : A.units + 1 < cLine) (I : Inv X pins σ H s) (g : DGet H a y o) (ry : RelV y u) (h : ∀ s', Inv X pins σ H s' → Q (.bool (!o.isSome)) s') :
    wpAny (model X.prog X.w) A (compareOp .NotIn u (.ref a)) Q E s := by
  rcases g with ⟨kvs, k, e, ey, l⟩ | ⟨kvs, k, b, e, ey, eb, l⟩
  · subst ey
    obtain ⟨z, hd, vs, rel, dd⟩ := dk_rd I.hok e
    refine wpAny_notIn_of (kV_is ry) hd dd.mapOf ?_
    rw [← (rel.val k).isSome_eq, ← l]
    exact h _ (I.tok _)
  · subst ey
    cases (show u = Value.ref b from ry)
    obtain ⟨z, hd, xs, rel, dd⟩ := dt_rd I.hok e
    refine wpAny_notIn_heap (tupleKind_room_in1 hu) (key_of I.hok eb) hd dd ?_
    have q := (rel.val k).isSome_eq
    rw [Option.isSome_map] at q
    rw [← q, ← l]
    exact h _ (I.tok _)
theorem d_write {h' : Heap} {t' : Nat} {ob : HO} (I : Inv X pins σ H s) (mu : Mut (H a)) (hs : Heap.SameBut a s.heap h') (he : ∃ q, h'.get? a = some q) (new : ObjOk X.prog X.w (upd H a ob) h' a ob) :
    Inv X pins σ (upd H a ob) { s with heap := h', toks := t' } :=
  I.write (x := a) (e := a) mu (.inl rfl) (fun b q hb z => (hs.2 b hb).trans z) he new
theorem dk_new {P : Program} {w : World} {H' : Hp} {h' : Heap} {kvs : List (Key × V)} {vs : List (Key × Value)} (z : kvs.length ≤ sizeLine) (hd : (a == sysModules) = false) (rel : KV kvs vs) (dd : h'.DictOf (mixKind P w) a vs) :
    ObjOk P w H' h' a (.dK kvs) := ⟨z, hd, vs, rel, dd⟩
theorem d_setItem {H' : Hp} {Q : Unit → Shared → Prop} (hu : A.units + 1 < cLine) (I : Inv X pins σ H s) (g : DPut H a y v H') (ry : RelV y u) (rv : RelV v r) (h : ∀ s', Inv X pins σ H' s' → Q () s') :
    wpAny (model X.prog X.w) A (setItem (.ref a) u r) Q E s := by
  rcases g with ⟨kvs, k, e, ey, l, eH⟩ | ⟨kvs, k, b, e, ey, eb, l, eH⟩
  · subst ey eH
    obtain ⟨z, hd, vs, rel, dd⟩ := dk_of I.hok e
    have hz : vs.length ≤ sizeLine := by rw [← rel.length]; exact z
    have hl : (putK kvs k v).length ≤ sizeLine := by have := length_putK kvs k v; omega
    refine wpAny_setItem_pairs (hsz := hz) (kV_is ry) dd fun h' dd' hs => h _ ?_
    have he : ∃ q, h'.get? a = some q := let ⟨q, _, _, hq, _⟩ := dd'; ⟨q, hq⟩
    exact d_write I (by rw [e]; exact True.intro) hs he (dk_new hl hd (rel.put k rv) dd')
  · subst ey eH
    cases (show u = Value.ref b from ry)
    obtain ⟨z, hd, xs, rel, dd⟩ := dt_of I.hok e
    have hz : xs.length ≤ sizeLine := by rw [← Paired.length rel]; exact z
    have hl : (putK kvs k v).length ≤ sizeLine := by have := length_putK kvs k v; omega
    refine wpAny_setItem_heap (hsz := hz) (tupleKind_room_in1 hu) (key_of I.hok eb) dd fun h' dd' hs => h _ ?_
    obtain ⟨q, es, ep, hq, h2, h3, h4, _, h5⟩ := dd'
    refine d_write I (by rw [e]; exact True.intro) hs ⟨q, hq⟩ ⟨hl, hd, _, (rel.put k eb rv).keeps fun c ys ec => ?_, q, es, ep, hq, h2, h3, h4, h5⟩
    rw [upd_ne (ne_of ec e (fun z => nomatch z))]
    exact ec
end
section
variable {X : Cx} {pins : List (Addr × Obj)} {σ : St} {H : Hp} {s : Shared} {a : Addr} {kvs : List (Key × V)} {k : Key} {u : Value} {A : Around} {E : Value → Shared → Prop}
end
def NoSl (i : Expr) : Prop := ∀ ov iv, subscripted i false ov iv = operate [ov, iv] (getItem ov iv)
theorem subD_of {prog : Program} {w : World} {A : Around} {E : Value → Shared → Prop} {s : Shared} {env : Env} {value slice : Expr} {pos : Pos} {T id : String} {Q : Value → Shared → Prop}
    (hl : typeLookup (.type T) "__getitem__" = pure (some (.builtin id))) (hs : NoSl slice)
    (h : wpAny (model prog w) A (eval value env) (fun o s₁ => wpAny (model prog w) A (eval slice env) (fun i s₂ => s₂.TypeIs o T ∧ wpAny (model prog w) A (getItem o i) Q E s₂) E s₁) E s) :
    wpAny (model prog w) A (eval (.Subscript value slice pos) env) Q E s := by
  refine Subscript_ (wpAny_mono h (fun o s₁ h₁ => wpAny_mono h₁ (fun i s₂ h₂ => ?_) fun _ _ x => x) fun _ _ x => x)
  obtain ⟨hT, h₂⟩ := h₂
  unfold subscriptTail
  refine wpAny_bind ?_
  rw [getitemInPython_of_ne hT.not_modules]
  refine wpAny_bind (wpAny_specialOf hT hl ?_)
  have fin : wpAny (model prog w) A (subscripted slice false o i) (fun r s₃ => wpAny (model prog w) A (letTemporaryGo value o r >>= fun _ => pure r) Q E s₃) E s₂ := by
    rw [hs o i]
    exact wpAny_operating (wpAny_mono h₂ (fun r s₃ h₃ => wpAny_bind (wpAny_letTemporaryGo (wpAny_pure h₃))) fun _ _ x => x)
  first
    | exact wpAny_pure (wpAny_bind fin)
    | exact wpAny_bind (wpAny_pure (wpAny_bind fin))
    | exact wpAny_bind fin
theorem dict_typeIs {X : Cx} {pins : List (Addr × Obj)} {σ : St} {H : Hp} {s : Shared} {a : Addr} {y : V} {o : Option V} (I : Inv X pins σ H s) (g : DGet H a y o) : s.TypeIs (.ref a) "dict" := by
  rcases g with ⟨kvs, k, e, _, _⟩ | ⟨kvs, k, b, e, _, _, _⟩
  · obtain ⟨_, _, vs, _, dd⟩ := dk_rd I.hok e
    exact dd.typeIs
  · obtain ⟨_, _, xs, _, dd⟩ := dt_rd I.hok e
    exact dd.typeIs
def tDGet (td ty : TE) : TE := fun σ H Q => td σ H fun x H1 => ty σ H1 fun y H2 => ∃ a v, x = .ref a ∧ DGet H2 a y (some v) ∧ Q v H2
def tDIn (ty td : TE) : TE := fun σ H Q => ty σ H fun y H1 => td σ H1 fun x H2 => ∃ a o, x = .ref a ∧ DGet H2 a y o ∧ Q (.bl o.isSome) H2
def tDNotIn (ty td : TE) : TE := fun σ H Q => ty σ H fun y H1 => td σ H1 fun x H2 => ∃ a o, x = .ref a ∧ DGet H2 a y o ∧ Q (.bl (!o.isSome)) H2
def sDPut (td ty tv : TE) : TS := fun D σ H => tv σ H fun v H1 => td σ H1 fun x H2 => ty σ H2 fun y H3 => ∃ a H4, x = .ref a ∧ DPut H3 a y v H4 ∧ D.nx σ H4
section
variable {X : Cx} {o i e value : Expr} {pos pos' tpos : Pos} {td ty tv : TE}
theorem pe_dget (hu : X.A.units + 1 < cLine) (ho : PE X o td) (hi : PE X i ty) (hs : NoSl i) : PE X (.Subscript o i pos) (tDGet td ty) := by
  intro pins s σ H Q I h
  refine subD_of PySem.F.slot_dict_getitem.lookup hs (thn (ho pins s σ H _ I h) fun u s1 ⟨x, H1, I1, rx, q1⟩ => thn (hi pins s1 σ H1 _ I1 q1) fun iv s2 ⟨y, H2, I2, ry, a, v, ex, g, q2⟩ => ?_)
  subst ex
  obtain rfl : u = Value.ref a := rx
  exact ⟨dict_typeIs I2 g, d_getItem hu I2 g ry fun w' s3 I3 rw' => ⟨v, H2, I3, rw', q2⟩⟩
theorem pc_din (hu : X.A.units + 1 < cLine) (hi : PE X i ty) (ho : PE X o td) : PC X .In i o (tDIn ty td) := by
  intro pins s σ H Q I h
  refine thn (hi pins s σ H _ I h) fun iv s1 ⟨y, H1, I1, ry, q1⟩ => thn (ho pins s1 σ H1 _ I1 q1) fun u s2 ⟨x, H2, I2, rx, a, ov, ex, g, q2⟩ => ?_
  subst ex
  obtain rfl : u = Value.ref a := rx
  exact d_in hu I2 g ry fun s3 I3 => ⟨.bl ov.isSome, H2, I3, rfl, q2⟩
theorem pc_dnotin (hu : X.A.units + 1 < cLine) (hi : PE X i ty) (ho : PE X o td) : PC X .NotIn i o (tDNotIn ty td) := by
  intro pins s σ H Q I h
  refine thn (hi pins s σ H _ I h) fun iv s1 ⟨y, H1, I1, ry, q1⟩ => thn (ho pins s1 σ H1 _ I1 q1) fun u s2 ⟨x, H2, I2, rx, a, ov, ex, g, q2⟩ => ?_
  subst ex
  obtain rfl : u = Value.ref a := rx
  exact d_notIn hu I2 g ry fun s3 I3 => ⟨.bl (!ov.isSome), H2, I3, rfl, q2⟩
theorem ps_dput (hu : X.A.units + 1 < cLine) (ho : PE X o td) (hi : PE X i ty) (hv : PE X value tv) (hs : swapsWith value (some (.Subscript o i pos')) pos.line X.env = pure false) :
    PS X (.Assign [.Subscript o i pos'] value pos) (sDPut td ty tv) := by
  intro pins s σ H D I h
  refine wpAny_Assign_Subscript (thn (hv pins s σ H _ I h) fun r s1 ⟨v, H1, I1, rv, q1⟩ => thn (ho pins s1 σ H1 _ I1 q1) fun u s2 ⟨x, H2, I2, rx, q2⟩ => thn (hi pins s2 σ H2 _ I2 q2) fun iv s3 ⟨y, H3, I3, ry, a, H4, ex, g, q3⟩ => ?_) hs
  subst ex
  obtain rfl : u = Value.ref a := rx
  exact d_setItem hu I3 g ry rv fun s4 I4 => ⟨σ, H4, I4, q3⟩
end
theorem dk_empty {P : Program} {w : World} {H : Hp} (h : Heap) (hb : sysModules < h.objs.size) : ObjOk P w H (h.push { cls := .type "dict", data := .dict #[] }) h.objs.size (.dK []) :=
  ⟨Nat.zero_le _, beq_eq_false_iff_ne.mpr (Ne.symm (Nat.ne_of_lt hb)), [], .nil, Heap.DictOf.new h⟩
def tDNewK : TE := fun _ H Q => ∀ p, H p = none → Q (.ref p) (upd H p (.dK []))
section
variable {X : Cx} {pos : Pos}
theorem pe_dnewK : PE X (.Dict [] [] pos) tDNewK := fun pins s σ H Q I h =>
  wpAny_Dict_empty ⟨.ref s.heap.objs.size, _, I.laid (a := s.heap.objs.size) (o := .dK []) (t' := s.toks) (fun _ _ q => Heap.get?_push_of_some _ q) (Nat.le_refl _) (dk_empty s.heap I.big), rfl, h _ (I.hok.fresh (Nat.le_refl _))⟩
end
def tPairs : List (TE × TE) → St → Hp → (List (V × V) → Hp → Prop) → Prop
  | [], _, H, Q => Q [] H
  | (tk, tv) :: r, σ, H, Q => tk σ H fun x H1 => tv σ H1 fun y H2 => tPairs r σ H2 fun ps H3 => Q ((x, y) :: ps) H3
abbrev VV : List (V × V) → List (Value × Value) → Prop := Paired fun p q => RelV p.1 q.1 ∧ RelV p.2 q.2
def PPs (X : Cx) (pos : Pos) (keys : List (Option Expr)) (values : List Expr) (trs : List (TE × TE)) : Prop :=
  ∀ (pins : List (Addr × Obj)) (s : Shared) (σ : St) (H : Hp) (Q : List (V × V) → Hp → Prop), Inv X pins σ H s → tPairs trs σ H Q →
    wpAny (model X.prog X.w) X.A (evalPairs (pairTrees keys values X.env pos)) (fun vs s' => ∃ ps H', Inv X pins σ H' s' ∧ VV ps vs ∧ Q ps H') X.xe s
theorem pps_nil {X : Cx} {pos : Pos} : PPs X pos [] [] [] := fun pins s σ H Q I h => pairTrees_nil_walk ⟨[], H, I, .nil, h⟩
theorem pps_cons {X : Cx} {pos : Pos} {k v : Expr} {ks : List (Option Expr)} {vs : List Expr} {tk tv : TE} {trs : List (TE × TE)} (hk : PE X k tk) (hv : PE X v tv) (hr : PPs X pos ks vs trs) :
    PPs X pos (some k :: ks) (v :: vs) ((tk, tv) :: trs) := fun pins s σ H Q I h =>
  pairTrees_cons_walk (thn (hk pins s σ H _ I h) fun u s1 ⟨x, H1, I1, rx, q1⟩ => thn (hv pins s1 σ H1 _ I1 q1) fun w2 s2 ⟨y, H2, I2, ry, q2⟩ =>
    thn (hr pins s2 σ H2 _ I2 q2) fun ws s3 ⟨ps, H3, I3, rel, q3⟩ => ⟨(x, y) :: ps, H3, I3, .cons ⟨rx, ry⟩ rel, q3⟩)
def mergeK (kvs more : List (Key × V)) : List (Key × V) := more.foldl (fun acc kv => putK acc kv.1 kv.2) kvs
theorem KV.merge : ∀ {more : List (Key × V)} {rs : List (Key × Value)} {kvs : List (Key × V)} {vs : List (Key × Value)}, KV more rs → KV kvs vs → KV (mergeK kvs more) (merged vs rs) := by
  intro more rs kvs vs r
  unfold KV at r
  induction r generalizing kvs vs with
  | nil => intro q; exact q
  | @cons p q ps qs h t ih =>
    intro r0
    have e : KV (putK kvs p.1 p.2) (stored vs q.1 q.2) := by
      have := r0.put p.1 h.2
      rw [← h.1]; exact this
    exact ih e
theorem length_mergeK : ∀ (more kvs : List (Key × V)), (mergeK kvs more).length ≤ kvs.length + more.length
  | [], kvs => by show kvs.length ≤ kvs.length + 0; omega
  | p :: r, kvs => by
    have h1 := length_mergeK r (putK kvs p.1 p.2)
    have h2 := length_putK kvs p.1 p.2
    show (mergeK (putK kvs p.1 p.2) r).length ≤ _
    rw [List.length_cons]; omega
theorem carries_of {P : Program} {w : World} : ∀ {kvs : List (Key × V)} {ws : List (Value × Value)}, VV (kvs.map fun kv => (kV kv.1, kv.2)) ws → ∃ rs, Carries (mixKind P w) ws rs ∧ KV kvs rs
  | [], _, r => by rw [List.map_nil] at r; cases r; exact ⟨[], True.intro, .nil⟩
  | p :: kvs, _, r => by
    rw [List.map_cons] at r
    cases r with
    | @cons a b as bs h t =>
      obtain ⟨rs, c, q⟩ := carries_of (P := P) (w := w) t
      obtain ⟨b1, b2⟩ := b
      exact ⟨(p.1, b2) :: rs, ⟨kV_is h.1, rfl, c⟩, .cons ⟨rfl, h.2⟩ q⟩
def tDisp (trs : List (TE × TE)) : TE := fun σ H Q => ∀ p, H p = none → tPairs trs σ (upd H p (.dK [])) fun ps H2 => H2 p = some (.dK []) ∧ ∃ kvs : List (Key × V), ps = kvs.map (fun kv => (kV kv.1, kv.2)) ∧ kvs.length ≤ 15 ∧ Q (.ref p) (upd H2 p (.dK (mergeK [] kvs)))
theorem pe_disp {X : Cx} {pos : Pos} {keys : List (Option Expr)} {values : List Expr} {trs : List (TE × TE)} (h : PPs X pos keys values trs) (hall : keys.all (·.isSome) = true) (hl : keys.length = values.length) (h0 : keys ≠ [])
    (h15 : keys.length ≤ 15) : PE X (.Dict keys values pos) (tDisp trs) := by
  intro pins s σ H Q I q
  have hn := I.hok.fresh (Nat.le_refl s.heap.objs.size)
  have I1 := I.laid (a := s.heap.objs.size) (o := .dK []) (h' := s.heap.push { cls := .type "dict", data := .dict #[] }) (t' := s.toks) (fun _ _ q => Heap.get?_push_of_some _ q) (Nat.le_refl _) (dk_empty s.heap I.big)
  refine wpAny_Dict_walk (knd := mixKind X.prog X.w) hall hl h0 h15 (thn (h pins _ σ _ _ I1 (q _ hn)) fun ws s2 ⟨ps, H2, I2, rel, e, kvs, ep, lk, q2⟩ => ?_)
  subst ep
  obtain ⟨rs, c, rk⟩ := carries_of (P := X.prog) (w := X.w) rel
  obtain ⟨z, hd, vs0, r0, dd⟩ := dk_of I2.hok e
  cases r0
  refine ⟨rs, c, dd, fun h' dd' hs => ⟨.ref s.heap.objs.size, _, ?_, rfl, q2⟩⟩
  have hz : (mergeK [] kvs).length ≤ sizeLine := by
    have h1 := length_mergeK kvs []
    rw [List.length_nil] at h1
    rw [sizeLine_eq]; omega
  have he : ∃ q, h'.get? s.heap.objs.size = some q := let ⟨q, _, _, hq, _⟩ := dd'; ⟨q, hq⟩
  exact d_write I2 (by rw [e]; exact True.intro) hs he (dk_new hz hd (rk.merge .nil) dd')
structure M1 (X : Cx) (o : Expr) (m : Str) (apos : Pos) (e : Expr) (cpos : Pos) : Prop where
  base : attributeBase o m X.env (eval o X.env) = eval o X.env
  few : ((backTo cpos (starEach [e] X.env)).all (fun x => !x.1) && (backToKw cpos (keywordEach [] X.env)).all (fun x => x.1.isSome)
    && decide (([e] : List Expr).length + ([] : List Keyword).length + (if ([] : List Keyword).isEmpty then 0 else 1) < 30)) = true
  line : (apos.endLine == cpos.line) = true
  trees : backTo cpos (starEach [e] X.env) = [(false, eval e X.env)]
structure M2 (X : Cx) (o : Expr) (m : Str) (apos : Pos) (e f : Expr) (cpos : Pos) : Prop where
  base : attributeBase o m X.env (eval o X.env) = eval o X.env
  few : ((backTo cpos (starEach [e, f] X.env)).all (fun x => !x.1) && (backToKw cpos (keywordEach [] X.env)).all (fun x => x.1.isSome)
    && decide (([e, f] : List Expr).length + ([] : List Keyword).length + (if ([] : List Keyword).isEmpty then 0 else 1) < 30)) = true
  line : (apos.endLine == cpos.line) = true
  trees : backTo cpos (starEach [e, f] X.env) = [(false, eval e X.env), (false, eval f X.env)]
def IsD (H : Hp) (a : Addr) : Prop := (∃ kvs, Rd H a (.dK kvs)) ∨ ∃ kvs, Rd H a (.dT kvs)
theorem isD_at {X : Cx} {pins : List (Addr × Obj)} {σ : St} {H : Hp} {s : Shared} {a : Addr} (I : Inv X pins σ H s) (d : IsD H a) :
    s.TypeIs (.ref a) "dict" ∧ (∀ b, Value.ref a = .ref b → ∃ ob, s.heap.get? b = some ob ∧ ob.dict = none) ∧ (a == sysModules) = false := by
  rcases d with ⟨kvs, e⟩ | ⟨kvs, e⟩
  · obtain ⟨_, hd, vs, _, dd⟩ := dk_rd I.hok e
    refine ⟨dd.typeIs, fun b q => ?_, hd⟩
    cases q
    obtain ⟨ob, _, _, h1, h2, _⟩ := dd
    exact ⟨ob, h1, h2.2.1⟩
  · obtain ⟨_, hd, xs, _, dd⟩ := dt_rd I.hok e
    refine ⟨dd.typeIs, fun b q => ?_, hd⟩
    cases q
    obtain ⟨ob, _, _, h1, h2, _⟩ := dd
    exact ⟨ob, h1, h2.2.1⟩
section
variable {X : Cx} {pins : List (Addr × Obj)} {σ : St} {H : Hp} {s : Shared} {a : Addr} {y d : V} {u r : Value} {o : Option V} {A : Around} {E : Value → Shared → Prop}
end
section
variable {X : Cx} {o e f : Expr} {apos cpos : Pos} {td ty tx : TE}
end
section
variable {X : Cx} {pins : List (Addr × Obj)} {σ : St} {H : Hp} {s : Shared} {a : Addr} {kvs : List (Key × V)} {A : Around} {E : Value → Shared → Prop}
end
section
variable {X : Cx} {pins : List (Addr × Obj)} {σ : St} {H : Hp} {s : Shared} {a : Addr} {y : V} {u : Value} {A : Around} {E : Value → Shared → Prop}
end
end L2
namespace L2
open PySem
theorem lk_list_keys : typeLookup (.type "list") "keys" = pure none := by rw [typeLookup_type, builtinLookup_eq_fast]; kernel_rfl
theorem lk_list_hook : typeLookup (.type "list") "__getattr__" = pure none := by rw [typeLookup_type, builtinLookup_eq_fast]; kernel_rfl
section
variable {prog : Program} {w : World} {A : Around} {E : Value → Shared → Prop} {h : Heap} {g : Array GenState} {d : Drawn} {t : Nat} {os : OsState} {a : Addr} {o : Obj}
theorem sub_AE : isSubtype (.type "AttributeError") (.type "AttributeError") = pure true := by rw [isSubtype_type]; kernel_rfl
theorem own_AE {m : Str} {tk : Tok} : ownMembersOf (.type "AttributeError") [.str m tk] = #[unsetMember, unsetMember] := by kernel_rfl
theorem first_AE {m : Str} {tk : Tok} : firstArgMember (.type "AttributeError") [.str m tk] = pure .none := by kernel_rfl
theorem raise_attr {α : Type} {self : Value} {name msg : Str} {Q : α → Shared → Prop} (hm : msg.length ≤ sizeLine) (hh : A.handled = none)
    (hq : ∀ h' t' e oe, (∀ b o, h.get? b = some o → h'.get? b = some o) → h'.get? e = some oe → oe.cls = .type "AttributeError" → E (.ref e) ⟨h', g, d, t', os⟩) :
    wpAny (model prog w) A (raiseAttrError self name msg) Q E ⟨h, g, d, t, os⟩ := by
  have f1 := sub_AE
  unfold raiseAttrError newExc
  refine wpAny_bind (wpAny_mkStr ?_ hm)
  have fe := first_AE (m := msg) (tk := t)
  rw [own_AE]
  repeat (any_goals (first | assumption | wp_step))
  unfold raiseNew
  refine wpAny_bind (wpAny_handled ?_)
  rw [hh]
  refine wpAny_bind (wpAny_pure ?_)
  refine wpAny_throw ?_
  refine hq _ _ _ _ (fun b o q => ?_) (Heap.get?_update_self _ (Heap.get?_push_size _ rfl) rfl) rfl
  have lt := Heap.lt_size q
  rw [Heap.get?_update_other _ _ (by rw [Heap.size_push]; exact Nat.ne_of_gt (Nat.lt_succ_of_lt lt))]
  exact Heap.get?_push_of_some _ (Heap.get?_push_of_some _ q)
theorem keys_entry {tk : Tok} {its : Array Value} {n : Nat} {Q : Fin → Shared → Prop} (hx : h.get? a = some { cls := .type "list", data := .seq its n }) (hh : A.handled = none)
    (hq : ∀ h' t' e oe, (∀ b o, h.get? b = some o → h'.get? b = some o) → h'.get? e = some oe → oe.cls = .type "AttributeError" → E (.ref e) ⟨h', g, d, t', os⟩) :
    wpAny (model prog w) A (Builtin.«object.__getattribute__» ⟨[.ref a, .str "keys" tk], []⟩) Q E ⟨h, g, d, t, os⟩ := by
  have hT : (⟨h, g, d, t, os⟩ : Shared).TypeIs (.ref a) "list" := ⟨_, hx, rfl⟩
  have f4 := lk_list_keys
  repeat (any_goals (first | assumption | wp_step))
  exact raise_attr (by decide +kernel) hh hq
theorem keys_none {its : Array Value} {n : Nat} {Q : Option Value → Shared → Prop} (hx : h.get? a = some { cls := .type "list", data := .seq its n }) (hh : A.handled = none)
    (hq : ∀ h' t', (∀ b o, h.get? b = some o → h'.get? b = some o) → Q none ⟨h', g, d, t', os⟩) : wpAny (model prog w) A (getAttr? (.ref a) "keys") Q E ⟨h, g, d, t, os⟩ := by
  have hT : ∀ t', (⟨h, g, d, t', os⟩ : Shared).TypeIs (.ref a) "list" := fun t' => ⟨_, hx, rfl⟩
  have f1 := sub_AE
  have f2 := F.slot_list_getattribute.lookup
  have f3 := F.slot_list_getattribute.bind (.ref a)
  have f4 := lk_list_hook
  unfold getAttr? getAttrBy? getAttrBy
  refine wpAny_bind (wpAny_mkText (wpAny_bind (wpAny_attempt (wpAny_holding (wpAny_bind (wpAny_typeOf (hT _) ?_))))))
  rw [f2]
  refine wpAny_bind (wpAny_pure ?_)
  show wpAny _ _ (getAttrByItsOwn _ _ _ _ _ _) _ _ _
  unfold getAttrByItsOwn
  refine wpAny_bind (wpAny_pure (a := none) (wpAny_bind (wpAny_attempt (wpAny_holding ?_))))
  show wpAny _ _ (boundAndCalled _ _ _) _ _ _
  unfold boundAndCalled
  rw [f3]
  refine wpAny_bind (wpAny_pure (wpAny_call (codeAny_call_builtin F.slot_list_getattribute.plain F.entry_list_ga (F.slot_list_getattribute.check _ _ _ _ _ _ _ _ (hT _) (F.args_list_getattribute_2 _ _) (keys_entry hx hh fun h' t' e oe k ee ec => ?_)))))
  have te : (⟨h', g, d, t', os⟩ : Shared).TypeIs (.ref e) "AttributeError" := ⟨oe, ee, ec⟩
  show wpAny _ _ (getattributeRaised _ _ _ _ _ _ _) _ _ _
  unfold getattributeRaised
  refine wpAny_bind (wpAny_isInstance te f1 ?_)
  rw [if_pos rfl]
  show wpAny _ _ (typeLookup _ _ >>= _) _ _ _
  rw [f4]
  refine wpAny_bind (wpAny_pure ?_)
  show wpAny _ _ (throw _) _ _ _
  refine wpAny_throw ?_
  refine wpAny_bind (wpAny_isInstance te f1 ?_)
  rw [if_pos rfl]
  exact wpAny_pure (hq h' t' k)
end
end L2
namespace L2
open PySem
theorem plain_dul : plainId "dict.update.loop" = true := by decide +kernel
theorem entry_dul : entryFor table "dict.update.loop" = some Builtin.«dict.update.loop» := entryFor_of_tree (by kernel_rfl)
section
variable {prog : Program} {w : World} {K : Type} [DecidableEq K] {knd : KeyKind prog w K} {A : Around} {E : Value → Shared → Prop}
def PairAt (knd : KeyKind prog w K) (h : Heap) (u : Value) (kv : K × Value) : Prop :=
  ∃ t key n o, u = .ref t ∧ knd.is kv.1 key = true ∧ h.get? t = some o ∧ o.cls = .type "tuple" ∧ o.data = .seq #[key, kv.2] n
theorem PairAt.keep {h h' : Heap} {u : Value} {kv : K × Value} (p : PairAt knd h u kv) (k : ∀ b o, o.cls = .type "tuple" → h.get? b = some o → h'.get? b = some o) : PairAt knd h' u kv :=
  let ⟨t, key, n, o, a, b, c, d, e⟩ := p; ⟨t, key, n, o, a, b, k t o d c, d, e⟩
theorem dul_go {R : Result → Shared → Prop} {d it l : Addr} {items : Array Value} (hh : A.handled = none) : ∀ (more : List (K × Value)) (i : Nat) (s : Shared) (kvs : List (K × Value)) (j : Int) (tk : Tok), items.size = i + more.length →
    s.heap.DictOf knd d kvs → s.heap.IsListIter it l i → s.heap.IsList l items → (∀ m kv, more[m]? = some kv → ∃ u, items[i + m]? = some u ∧ PairAt knd s.heap u kv) → kvs.length + more.length ≤ sizeLine →
    (∀ h' t', h'.DictOf knd d (more.foldl (fun a p => stored a p.1 p.2) kvs) → (∀ b o, b ≠ d → b ≠ it → s.heap.get? b = some o → h'.get? b = some o) → R (.ok (.ret .none)) { s with heap := h', toks := t' }) →
    codeAny (model prog w) A (.builtin "dict.update.loop" ⟨[.ref d, .ref it, .int j tk, .none], []⟩) R s := by
  intro more
  induction more with
  | nil =>
    intro i s kvs j tk hi hd hit hl hp hz hR
    refine codeAny_builtin entry_dul ?_
    rw [Around.under_plainId plain_dul _]
    unfold Builtin.«dict.update.loop»
    have hs : items[i]? = none := Array.getElem?_eq_none (by rw [hi]; exact Nat.le_refl _)
    refine wpAny_bind (wpAny_pyNext_list_end hh hit hl hs fun h1 eb => ?_)
    have nd : d ≠ it := fun z => by
      obtain ⟨o, _, _, q, _, c, _⟩ := hd
      obtain ⟨o', q', _, c'⟩ := hit
      rw [z, q'] at q; cases q; rw [c'] at c; cases c
    show wpAny _ _ (Builtin.Dict.addKeywords d [] >>= _) _ _ _
    exact wpAny_bind (wpAny_pure (wpAny_pure (hR h1 s.toks (hd.extBut eb nd) fun b o n1 n2 q => eb b o n2 q)))
  | cons kv more ih =>
    intro i s kvs j tk hi hd hit hl hp hz hR
    refine codeAny_builtin entry_dul ?_
    rw [Around.under_plainId plain_dul _]
    unfold Builtin.«dict.update.loop»
    obtain ⟨u, hu, t, key, n, o, rfl, hk, ho, hc, hdt⟩ := hp 0 kv rfl
    refine wpAny_bind (wpAny_pyNext_list_item hit hl hu fun h1 it1 sb => ?_)
    have nd : d ≠ it := fun z => by
      obtain ⟨o, _, _, q, _, c, _⟩ := hd
      obtain ⟨o', q', _, c'⟩ := hit
      rw [z, q'] at q; cases q; rw [c'] at c; cases c
    have n2 : ∀ b o, (o.cls = .type "tuple" ∨ o.cls = .type "list") → s.heap.get? b = some o → b ≠ d ∧ b ≠ it := by
      intro b o c q
      constructor
      · intro z
        obtain ⟨o', q', c'⟩ := hd.typeIs
        rw [z, q'] at q; cases q; rw [c'] at c; rcases c with c | c <;> exact absurd c (by decide)
      · intro z
        obtain ⟨o', q', c', _⟩ := hit
        rw [z, q'] at q; cases q; rw [c'] at c; rcases c with c | c <;> exact absurd c (by decide)
    have nt : ∀ b o, o.cls = .type "tuple" → s.heap.get? b = some o → b ≠ d ∧ b ≠ it := fun b o c q => n2 b o (.inl c) q
    have nl : l ≠ d ∧ l ≠ it := by
      obtain ⟨o, q, c, _⟩ := hl
      exact n2 l o (.inr c) q
    have ho1 : h1.get? t = some o := (sb.2 t (nt t o hc ho).2).trans ho
    have hd1 : h1.DictOf knd d kvs := hd.sameBut sb nd
    refine wpAny_bind (wpAny_holding (wpAny_bind (wpAny_tryCatch ?_)))
    unfold Builtin.Dict.pairItems
    refine wpAny_bind (wpAny_typeOf (T := "tuple") ⟨o, ho1, hc⟩ ?_)
    rw [if_pos (by decide)]
    refine wpAny_bind (wpAny_seqItems ho1 hdt (wpAny_pure ?_))
    show wpAny _ _ (holding [key, kv.2] (dictSet d key kv.2)) _ _ _
    rw [List.length_cons] at hz hi
    refine wpAny_holding (wpAny_dictSet_pairs (s := { s with heap := h1 }) hk hd1 (fun h2 hd2 sb2 => ?_) (by omega))
    have kk : ∀ b o, b ≠ d → b ≠ it → s.heap.get? b = some o → h2.get? b = some o := fun b o n1 n2 q => (sb2.2 b n1).trans ((sb.2 b n2).trans q)
    have ln : (stored kvs kv.1 kv.2).length ≤ kvs.length + 1 := by
      unfold stored
      split
      · simp
      · simp
    refine wpAny_pure ⟨plainId_quiet plain_dul _, ih (i + 1) _ _ _ _ (by omega) hd2 (it1.at fun o q => (sb2.2 it (Ne.symm nd)).trans q) (hl.at fun o q => kk l o nl.1 nl.2 q) (fun m kv' e => ?_) (by omega) fun h3 t3 hd3 k3 => ?_⟩
    · obtain ⟨u', e1, e2⟩ := hp (m + 1) kv' e
      exact ⟨u', by rw [← e1]; congr 1; omega, e2.keep fun b o c q => kk b o (nt b o c q).1 (nt b o c q).2 q⟩
    · exact hR h3 t3 hd3 fun b o n1 n2 q => k3 b o n1 n2 (kk b o n1 n2 q)
theorem sub_ld : (Value.type "list" != Value.type "dict") = true := by decide
theorem call_dict_list {s : Shared} {l : Addr} {items : Array Value} {n : Nat} {more : List (K × Value)} {Q : Value → Shared → Prop} (knd : KeyKind prog w K) (hh : A.handled = none) (hx : s.heap.get? l = some { cls := .type "list", data := .seq items n })
    (hi : items.size = more.length) (hp : ∀ (m : Nat) kv, more[m]? = some kv → ∃ u, items[m]? = some u ∧ PairAt knd s.heap u kv) (hz : more.length ≤ sizeLine)
    (h : ∀ h' t', h'.DictOf knd s.heap.objs.size (more.foldl (fun a p => stored a p.1 p.2) []) → (∀ b o, s.heap.get? b = some o → h'.get? b = some o) → Q (.ref s.heap.objs.size) { s with heap := h', toks := t' }) :
    wpAny (model prog w) A (call (.type "dict") [.ref l]) Q E s := by
  refine callType_codes (Q₁ := fun obj s₁ => obj = .ref s.heap.objs.size ∧ s₁ = { s with heap := s.heap.push { cls := .type "dict", data := .dict #[] } }) F.kt_called_dict (F.kt_typeCall_dict_1 _) F.entry_dict_init (kt_code_dict_new _ ⟨rfl, rfl⟩) ?_
  rintro obj s₁ ⟨rfl, rfl⟩
  have new0 : (s.heap.push { cls := .type "dict", data := .dict #[] }).DictOf knd s.heap.objs.size [] := Heap.DictOf.new s.heap
  have l0 := Heap.get?_push_of_some { cls := .type "dict", data := .dict #[] } hx
  refine ⟨new0.typeIs, F.args_dict_init_2 _ _, ?_⟩
  unfold Builtin.«dict.__init__» Builtin.Dict.selfAndRest
  refine wpAny_bind (wpAny_bind (wpAny_notOrdered_dict new0.typeIs (wpAny_pure ?_)))
  show wpAny _ _ (Builtin.Dict.updateFrom "dict.__init__" s.heap.objs.size (.ref l) [] .none) _ _ _
  unfold Builtin.Dict.updateFrom
  refine wpAny_bind (wpAny_typeOf (T := "list") ⟨_, l0, rfl⟩ ?_)
  rw [if_pos sub_ld]
  refine wpAny_bind (keys_none l0 hh fun h1 t1 k1 => ?_)
  refine wpAny_bind (wpAny_rule ?_)
  have l1 := k1 _ _ l0
  refine wpAny_bind (wpAny_pyIter_list ⟨_, l1, rfl, _, rfl⟩ ?_)
  have k2 : ∀ b o, s.heap.get? b = some o → (h1.push { cls := .type "list_iterator", data := .fields #[.ref l, .int 0 0] }).get? b = some o := fun b o q => Heap.get?_push_of_some _ (k1 _ _ (Heap.get?_push_of_some _ q))
  refine wpAny_pure ⟨plainId_quiet plain_dul _, dul_go (knd := knd) (A := A.in1) (l := l) (items := items) (show A.in1.handled = none from hh) more 0 _ [] _ _ (by rw [hi, Nat.zero_add]) ?_ ⟨_, Heap.get?_push_size _ rfl, rfl, rfl⟩ ⟨_, k2 _ _ hx, rfl, n, rfl⟩ (fun m kv e => ?_) (by simpa using hz) fun h' t' hd k3 => ?_⟩
  · obtain ⟨o, es, ep, q, r⟩ := new0
    exact ⟨o, es, ep, Heap.get?_push_of_some _ (k1 _ _ q), r⟩
  · obtain ⟨u, e1, e2⟩ := hp m kv e
    exact ⟨u, by rw [Nat.zero_add]; exact e1, e2.keep fun b o _ q => k2 b o q⟩
  · refine ⟨rfl, h h' t' hd fun b o q => k3 b o (Nat.ne_of_lt (Heap.lt_size q)) ?_ (k2 b o q)⟩
    have := Heap.lt_size (k1 _ _ (Heap.get?_push_of_some { cls := .type "dict", data := .dict #[] } q))
    exact Nat.ne_of_lt this
end
end L2
namespace L2
open PySem PySem.Spec PyProof.Rows
def PIfs (X : Cx) (ifs : List Expr) (t : TT) : Prop :=
  ∀ (pins : List (Addr × Obj)) (s : Shared) (σ : St) (H : Hp) (Q : Bool → Hp → Prop), Inv X pins σ H s → t σ H Q →
    wpAny (model X.prog X.w) X.A (forIn ifs true fun c r => if r = true then do let ok ← isTrue c X.env (eval c X.env); pure (ForInStep.yield ok) else pure (ForInStep.yield r)) (TP X pins σ Q) X.xe s
def tTrue : TT := fun _ H Q => Q true H
theorem pif_nil {X : Cx} : PIfs X [] tTrue := fun _ _ _ H _ I h => wpAny_tests_nil ⟨H, I, h⟩
theorem pif_one {X : Cx} {c : Expr} {t : TT} (h : PT X c t) : PIfs X [c] t := fun pins s σ H Q I hw => wpAny_tests_one (h pins s σ H Q I hw)
theorem compLoop_go {prog : Program} {w : World} {A : Around} {R : Result → Shared → Prop} {s : Shared} {elt target iter : Expr} {ifs : List Expr} {scope : Scope} {pos : Pos} {it acc : Value} {env : Env} (I : Nat → Shared → Prop)
    (turn : ∀ n s, I n s → wpAny (model prog w) A (pyNext it) (fun r s₁ => match r with
      | none => R (.ok .next) s₁
      | some v => wpAny (model prog w) A (letOwnedTupleGo target it v) (fun _ s₁ => wpAny (model prog w) A (assign target env v) (fun _ s₂ =>
          wpAny (model prog w) A (forIn ifs true fun c r => if r = true then do let ok ← isTrue c env (eval c env); pure (ForInStep.yield ok) else pure (ForInStep.yield r)) (fun ok s₃ =>
            if ok = true then wpAny (model prog w) A (eval elt env) (fun x s₄ =>
              wpAny (model prog w) A (call (.builtin "list.append") [acc, x]) (fun _ s₅ => ∃ m, m < n ∧ I m s₅) (fun _ _ => False) s₄) (fun _ _ => False) s₃
            else ∃ m, m < n ∧ I m s₃) (fun _ _ => False) s₂) (fun _ _ => False) s₁) (fun _ _ => False) s₁) (fun _ _ => False) s)
    (n : Nat) (h : I n s) :
    codeAny (model prog w) A (.compLoop (.ListComp elt [⟨target, iter, ifs, 0⟩] scope pos) 0 it acc env) R s := by
  refine codeAny_loop rfl I (fun n s hI => ?_) n h
  show wpAny _ A ((compTurn (.ListComp elt [⟨target, iter, ifs, 0⟩] scope pos) 0 it acc env).onRaise (fun x => do noteFrame x env; theTreesLotGoes x)) _ _ s
  refine wpAny_noted ?_
  rw [compTurn_list]
  refine wpAny_bind (wpAny_standAt (wpAny_bind (wpAny_mono (turn n s hI) (fun r s₁ h₁ => ?_) fun _ _ h' => h'.elim)))
  cases r with
  | none => exact wpAny_pure h₁
  | some v =>
    refine wpAny_bind (wpAny_mono h₁ (fun _ s₂ h₂ => ?_) fun _ _ h' => h'.elim)
    refine wpAny_bind (wpAny_mono h₂ (fun _ s₂ h₂ => wpAny_bind (wpAny_mono h₂ (fun ok s₃ h₃ => ?_) fun _ _ h' => h'.elim)) fun _ _ h' => h'.elim)
    cases ok with
    | false => exact wpAny_pure ⟨rfl, h₃⟩
    | true =>
      exact wpAny_bind (wpAny_bind (wpAny_mono h₃ (fun x s₄ h₄ => wpAny_bind (wpAny_mono h₄ (fun _ s₅ h₅ => wpAny_pure (wpAny_pure ⟨rfl, h₅⟩)) fun _ _ h' => h'.elim)) fun _ _ h' => h'.elim))
end L2
namespace L2
open PySem PySem.Spec PyProof.Rows
inductive ClsOf (K : PySem.W.Frag) (H : Hp) : V → String → Prop where
  | bl (x : Bool) : ClsOf K H (.bl x) "bool"
  | int (i : Int) : ClsOf K H (.int i) "int"
  | str (x : Str) : ClsOf K H (.str x) "str"
  | tup {a : Addr} {xs : List V} (e : SqT K H a xs) : ClsOf K H (.ref a) "tuple"
theorem call_isinst {X : Cx} : CallR X (.builtin "isinstance") (fun xs H Q => ∃ x T n b, xs = [x, .ty n] ∧ ClsOf X.K H x T ∧ PySem.W.kitOne X.K (.type T) (.type n) = some b ∧ Q (.bl b) H) := by
  intro pins s σ H xs us Q I r h
  obtain ⟨x, T, n, b, rfl, ty, e, q⟩ := h
  obtain ⟨u, w', rfl, rx, rn⟩ := vals2 r
  cases (show w' = Value.type n from rn)
  have fin : ∀ tk, EP X pins σ Q (.bool b) { s with toks := tk } := fun tk => ⟨.bl b, H, I.tok _, rfl, q⟩
  cases ty with
  | bl y => cases (show u = Value.bool y from rx); exact PySem.W.kia_one PySem.W.kitx_bool I.kIn True.intro e (fun z => nomatch z) fin
  | int i => obtain ⟨t, z⟩ := (show ∃ t, u = Value.int i t from rx); cases z; exact PySem.W.kia_one PySem.W.kitx_int I.kIn True.intro e (fun z => nomatch z) fin
  | str y => obtain ⟨t, z⟩ := (show ∃ t, u = Value.str y t from rx); cases z; exact PySem.W.kia_one PySem.W.kitx_str I.kIn True.intro e (fun z => nomatch z) fin
  | @tup a ys hq =>
    cases (show u = Value.ref a from rx)
    obtain ⟨its, _, ⟨o, h1, h2, _⟩, _⟩ := I.tuple hq
    exact PySem.W.kia_one PySem.W.kitx_tuple I.kIn ⟨o, h1, h2⟩ e (fun z => nomatch z) fin
theorem call_isinstK {X : Cx} (K : PySem.W.Frag) (hK : X.K = K := by rfl) : CallR X (.builtin "isinstance") (fun xs H Q => ∃ x T n b, xs = [x, .ty n] ∧ ClsOf K H x T ∧ PySem.W.kitOne K (.type T) (.type n) = some b ∧ Q (.bl b) H) := by
  subst hK
  exact call_isinst
end L2
namespace L2
open PySem
structure Clos (env : Env) (scope : Scope) (cl : List (Str × Addr)) : Prop where
  eq : closureFor scope env = pure cl
  sub : ∀ y c, cl.lookup y = some c → env.cells.lookup y = some c
  all : ∀ y, (y, NameKind.free) ∈ scope.names → ∃ c, cl.lookup y = some c
theorem lookup_put {y n : Str} {c : Addr} {l : List (Str × Addr)} : ((n, c) :: l).lookup y = if y = n then some c else l.lookup y := by
  by_cases h : y = n
  · rw [if_pos h]; simp [List.lookup, h]
  · rw [if_neg h]; simp [List.lookup, beq_eq_false_iff_ne.mpr h]
theorem clos_of {env : Env} {scope : Scope} (h : ∀ y, (y, NameKind.free) ∈ scope.names → ∃ c, env.cells.lookup y = some c) : ∃ cl, Clos env scope cl := by
  have go : ∀ (names : List (Str × NameKind)) (acc : List (Str × Addr)), (∀ y, (y, NameKind.free) ∈ names → ∃ c, env.cells.lookup y = some c) → (∀ y c, acc.lookup y = some c → env.cells.lookup y = some c) →
      ∃ cl, (forIn names acc fun (x : Str × NameKind) (cs : List (Str × Addr)) => (if x.2 == .free then do let c ← cellOf env x.1; pure (ForInStep.yield ((x.1, c) :: cs)) else pure (ForInStep.yield cs) : Sem (ForInStep (List (Str × Addr))))) = pure cl ∧
        (∀ y c, cl.lookup y = some c → env.cells.lookup y = some c) ∧ (∀ y, (y, NameKind.free) ∈ names → ∃ c, cl.lookup y = some c) ∧ ∀ y c, acc.lookup y = some c → ∃ c', cl.lookup y = some c' := by
    intro names
    induction names with
    | nil => intro acc _ hs; exact ⟨acc, rfl, hs, fun y hy => absurd hy (by simp), fun y c e => ⟨c, e⟩⟩
    | cons x r ih =>
      intro acc hf hs
      obtain ⟨n, k⟩ := x
      rw [List.forIn_cons]
      by_cases hk : k = .free
      · subst hk
        obtain ⟨c0, e0⟩ := hf n List.mem_cons_self
        obtain ⟨cl, e1, e2, e3, e4⟩ := ih ((n, c0) :: acc) (fun y hy => hf y (List.mem_cons_of_mem _ hy)) (fun y c e => by
          rw [lookup_put] at e
          by_cases z : y = n
          · rw [if_pos z] at e; cases e; rw [z]; exact e0
          · rw [if_neg z] at e; exact hs y c e)
        refine ⟨cl, ?_, e2, fun y hy => ?_, fun y c e => ?_⟩
        · rw [← e1]
          have : cellOf env n = pure c0 := by unfold cellOf; rw [e0]
          simp only [this]
          rfl
        · rcases List.mem_cons.mp hy with z | z
          · cases z; exact e4 n c0 (by rw [lookup_put, if_pos rfl])
          · exact e3 y z
        · by_cases z : y = n
          · exact e4 y c0 (by rw [lookup_put, if_pos z])
          · exact e4 y c (by rw [lookup_put, if_neg z]; exact e)
      · obtain ⟨cl, e1, e2, e3, e4⟩ := ih acc (fun y hy => hf y (List.mem_cons_of_mem _ hy)) hs
        refine ⟨cl, ?_, e2, fun y hy => ?_, e4⟩
        · rw [← e1]
          have : (k == NameKind.free) = false := by simpa using hk
          simp only [this]
          rfl
        · rcases List.mem_cons.mp hy with z | z
          · cases z; exact absurd rfl hk
          · exact e3 y z
  obtain ⟨cl, e1, e2, e3, _⟩ := go scope.names [] h (fun y c e => by simp at e)
  refine ⟨cl, ?_, e2, e3⟩
  unfold closureFor
  exact Eq.trans (congrArg (fun t : Sem (List (Str × Addr)) => t >>= fun cs => pure cs) e1) rfl
theorem relabel_free {scope : Scope} {env : Env} {y : Str} (hk : env.scope.kind = .function) (hy : scope.names.lookup y = some .free) (he : env.kindOf y = some .cell) : (relabel scope env).names.lookup y = some .cell := by
  have go : ∀ l : List (Str × NameKind), l.lookup y = some .free → (l.map fun (x : Str × NameKind) => if (x.2 == NameKind.free && env.scope.kind == .function && env.kindOf x.1 == some .cell) then (x.1, NameKind.cell) else (x.1, x.2)).lookup y = some .cell := by
    intro l
    induction l with
    | nil => intro z; cases z
    | cons x r ih =>
      obtain ⟨n, k⟩ := x
      intro hy
      rw [List.map_cons]
      by_cases z : y = n
      · subst z
        simp [List.lookup] at hy
        subst hy
        simp [List.lookup, hk, he]
      · have zb : (y == n) = false := beq_eq_false_iff_ne.mpr z
        simp only [List.lookup, zb] at hy
        have := ih hy
        dsimp only
        split <;> simp only [List.lookup, zb] <;> exact this
  exact go _ hy
theorem mem_lk {α : Type} {y : Str} {v : α} : ∀ {l : List (Str × α)}, l.lookup y = some v → (y, v) ∈ l
  | [], h => by cases h
  | (n, u) :: r, h => by
    by_cases z : y = n
    · subst z
      simp [List.lookup] at h
      subst h
      exact List.mem_cons_self
    · have zb : (y == n) = false := beq_eq_false_iff_ne.mpr z
      simp only [List.lookup, zb] at h
      exact List.mem_cons_of_mem _ (mem_lk h)
theorem relabel_kind {scope : Scope} {env : Env} {y : Str} {k : NameKind} (h : (relabel scope env).names.lookup y = some k) (hk : k = .cell ∨ k = .free) (hc : ∀ z ∈ scope.names, z.2 ≠ .cell) : (y, NameKind.free) ∈ scope.names := by
  have m := mem_lk h
  unfold relabel at m
  obtain ⟨⟨n, k'⟩, m1, m2⟩ := List.mem_map.mp m
  dsimp only at m2
  split at m2
  · rename_i q
    cases m2
    simp at q
    obtain ⟨⟨q, _⟩, _⟩ := q
    subst q
    exact m1
  · cases m2
    rcases hk with hk | hk
    · exact absurd hk (hc _ m1)
    · rw [← hk]; exact m1
end L2
namespace L2
open PySem PySem.Spec PyProof.Rows
def cxD (X : Cx) (scope : Scope) (cl : List (Str × Addr)) (C : Addr) (s1 : Shared) (H1 : Hp) (N : List Str) (fp : List Addr) : Cx :=
  { X with N := N, s₀ := s1, H₀ := H1, env := compEnvC scope cl C X.env, outer := X.stack, stack := X.stack, ex := fp, fn := fun _ => false, pn := [], xe := fun _ _ => False }
structure Caps (X : Cx) (scope : Scope) (js : List (Nat × Str)) : Prop where
  at_ : ∀ p ∈ js, X.N[p.1]? = some p.2 ∧ X.env.scope.names.lookup p.2 = some .cell ∧ scope.names.lookup p.2 = some .free
  all : ∀ y, (y, NameKind.free) ∈ scope.names → X.env.scope.names.lookup y = some .cell
def capS (ts : List Str) (js : List (Nat × Str)) (σ : St) : St := ts.map (fun _ => none) ++ js.map fun p => (σ[p.1]?).join
theorem inv_compG {X : Cx} {pins : List (Addr × Obj)} {σ : St} {H : Hp} {s1 s4 : Shared} {scope : Scope} {ts : List Str} {js : List (Nat × Str)} {cl : List (Str × Addr)} {fp : List Addr} {C : Addr} {m : Str → Option Value}
    (I : Inv X pins σ H s1) (hf : ∀ b ∈ fp, FpOk X pins H b) (hfl : ∀ b ∈ fp, b < s1.heap.objs.size) (hkind : scope.kind = .function) (hcell : ∀ y ∈ scope.names, y.2 ≠ .cell) (cp : Caps X scope js) (hcl : Clos X.env scope cl)
    (hC : s1.heap.objs.size < C) (ho : s4.os = s1.os) (hg : s4.gens = s1.gens) (old : ∀ b o, s1.heap.get? b = some o → s4.heap.get? b = some o) (hn : s4.heap.Ns C m)
    (hD : s4.heap.get? s1.heap.objs.size = some { cls := .type "list", data := .seq ([] : List Value).toArray 0 }) :
    Inv (cxD X scope cl C s1 H (ts ++ js.map (·.2)) fp) [] (capS ts js σ) (upd H s1.heap.objs.size (.lst [])) s4 := by
  have xk : X.env.scope.kind = .function := I.ok.kind
  have has : ∀ y, ((relabel scope X.env).names.lookup y = some .cell ∨ (relabel scope X.env).names.lookup y = some .free) → ∃ c, cl.lookup y = some c := fun y hy => hcl.all y (by
    rcases hy with hy | hy
    · exact relabel_kind hy (.inl rfl) hcell
    · exact relabel_kind hy (.inr rfl) hcell)
  have lt : ∀ y c, cl.lookup y = some c → c < s1.heap.objs.size := fun y c e => by
    obtain ⟨v, o, ho, _⟩ := I.cell y c (hcl.sub y c e)
    exact Heap.lt_size ho
  refine ⟨⟨I.ok.mod, hkind, I.ok.glob, I.ok.blt, Nat.le_of_lt hC, fun y z c h1 h2 => I.ok.inj y z c (hcl.sub _ _ h1) (hcl.sub _ _ h2), has, fun y c h _ => absurd (show false = true from h) Bool.false_ne_true, I.ok.hd, I.ok.frames, .inl rfl,
      fun b hb => ⟨Nat.ne_of_lt (Nat.lt_trans (hfl b hb) hC), fun y c h => (hf b hb).2.2.2.2.1 y c (hcl.sub _ _ h)⟩, I.bs, Nat.le_trans I.ok.bsz I.sz, fun b o e hb => ?_, fun b hb => ?_, I.stack, I.stkFree⟩,
    ho, ?_, Un.laid old (Nat.le_refl _) I.fresh, ⟨m, hn, fun i y v e1 e2 _ => ?_⟩, fun y c h => ?_, ?_, fun y c h => ?_, fun p hp => absurd (show p ∈ ([] : List (Addr × Obj)) from hp) (by simp), I.hok.laid old (Nat.le_refl _) ?_, ?_⟩
  · obtain ⟨_, _, _, h4, _⟩ := hf b hb
    rcases h4 with h4 | h4
    · exact I.ok.noex b o e h4
    · exact absurd (Nat.lt_of_lt_of_le (Heap.lt_size (I.ok.bs b o e).1) h4) (Nat.lt_irrefl _)
  · intro hb'
    obtain ⟨_, h2, h3, _⟩ := hf b hb
    rcases List.mem_cons.mp (I.stkSub b hb') with z | z
    · exact h2 z
    · exact h3 z
  · rw [hg]; exact I.bare
  · have e1' : (ts ++ js.map (·.2))[i]? = some y := e1
    have e2' : (ts.map (fun _ => (none : Option V)) ++ js.map fun p => (σ[p.1]?).join)[i]? = some (some v) := e2
    by_cases hi : i < ts.length
    · rw [List.getElem?_append_left (by simpa using hi)] at e2'
      simp [hi] at e2'
    · rw [List.getElem?_append_right (by omega)] at e1'
      rw [List.getElem?_append_right (by simpa using Nat.le_of_not_lt hi)] at e2'
      rw [List.length_map] at e2'
      rw [List.getElem?_map] at e1' e2'
      cases hj : js[i - ts.length]? with
      | none => rw [hj] at e1'; cases e1'
      | some p =>
        rw [hj] at e1' e2'
        simp only [Option.map_some, Option.some.injEq] at e1' e2'
        obtain ⟨a1, a2, a3⟩ := cp.at_ p (List.mem_of_getElem? hj)
        subst e1'
        have es : σ[p.1]? = some (some v) := by
          cases q : σ[p.1]? with
          | none => rw [q] at e2'; cases e2'
          | some z => rw [q] at e2'; exact congrArg some e2'
        obtain ⟨m0, hn0, lk⟩ := I.loc
        obtain ⟨u, ru, l⟩ := lk p.1 p.2 v a1 es (.inr (.inl a2))
        rcases l with l | ⟨_, c, ec, o, hc, hd⟩
        · have l1 : X.env.scope.names.lookup p.2 = some .local := l.1
          rw [a2] at l1; cases l1
        · obtain ⟨c', ec'⟩ := hcl.all p.2 (mem_lk a3)
          have e3 := hcl.sub _ _ ec'
          rw [ec] at e3
          cases e3
          exact ⟨u, ru, .inr ⟨.inl (relabel_free xk a3 a2), c, ec', o, old _ _ hc, hd⟩⟩
  · obtain ⟨v, o, h1, h2⟩ := I.cell y c (hcl.sub y c h)
    exact ⟨v, o, old _ _ h1, h2⟩
  · show upd H s1.heap.objs.size (.lst []) C = none
    rw [upd_ne (Nat.ne_of_gt hC)]
    exact I.hok.fresh (Nat.le_of_lt hC)
  · show upd H s1.heap.objs.size (.lst []) c = none
    rw [upd_ne (Nat.ne_of_lt (lt y c h))]
    exact I.freeC y c (hcl.sub y c h)
  · exact ⟨by show 0 ≤ sizeLine; decide, [], 0, .nil, hD⟩
  · show (capS ts js σ).length = (ts ++ js.map (·.2)).length
    simp [capS]
def tCompG (wi : TI) (ts : List Str) (js : List (Nat × Str)) (g : TG) (tif : TT) (te : TE) : TE := fun σ H Q => wi σ H fun J H1 => ∀ D, H1 D = none → ∃ W : Nat → Nat → List V → St → Hp → Prop, (∃ m, W 0 m [] (capS ts js σ) (upd H1 D (.lst []))) ∧
  ∀ i m ys σ' H, W i m ys σ' H → (J.stop i H ∧ Q (.ref D) H) ∨ (J.go i H ∧ ∃ m', m' < m ∧ ∀ x H', J.yld i H x H' → g x σ' H' fun σ2 H2 => tif σ2 H2 fun b H3 =>
    if b = true then te σ2 H3 fun y H4 => H4 D = some (.lst ys) ∧ ys.length < sizeLine ∧ W (i + 1) m' (ys ++ [y]) σ2 (upd H4 D (.lst (ys ++ [y]))) else W (i + 1) m' ys σ2 H3)
theorem pe_compG {X : Cx} {elt iter tg : Expr} {ifs : List Expr} {scope : Scope} {pos : Pos} {wi : TI} {g : TG} {tif : TT} {te : TE} (ts : List Str) (js : List (Nat × Str)) (hc : X.calm = true) (hi : PI X tg iter wi)
    (cp : Caps X scope js) (hcell : ∀ y ∈ scope.names, y.2 ≠ .cell) (hkind : scope.kind = .function)
    (hnames : ∀ y ∈ scope.names, y.2 = .local → scope.names.lookup y.1 = some .local)
    (hg : ∀ cl C s1 H1 fp, PG (cxD X scope cl C s1 H1 (ts ++ js.map (·.2)) fp) tg g)
    (hif : ∀ cl C s1 H1 fp, PIfs (cxD X scope cl C s1 H1 (ts ++ js.map (·.2)) fp) ifs tif) (he : ∀ cl C s1 H1 fp, PE (cxD X scope cl C s1 H1 (ts ++ js.map (·.2)) fp) elt te)
    (hs : ∀ x, foldedSetIterable iter X.env x = pure x := by intro _; rfl) :
    PE X (.ListComp elt [⟨tg, iter, ifs, 0⟩] scope pos) (tCompG wi ts js g tif te) := by
  intro pins s σ H Q I h
  rw [eval_ListComp]
  obtain ⟨cl, hcl⟩ := clos_of (env := X.env) (scope := scope) fun y hy => I.ok.has y (.inl (cp.all y hy))
  refine wpAny_comprehension_free (use := none) rfl hs hcl.eq hkind hnames (thn (hi pins s σ H _ I h) fun v s1 h1 => thn h1 fun itv s2 h2 => ?_)
  obtain ⟨it, fp, tn, J, H2, e, I2, T, st2, f2, h2⟩ := h2
  subst e
  obtain ⟨W, ⟨m0, w0⟩, turn⟩ := h2 s2.heap.objs.size I2.fresh
  have hfl : ∀ b ∈ fp, b < s2.heap.objs.size := fun b hb => by obtain ⟨o, e, _⟩ := T.obj _ _ st2 b hb; exact Heap.lt_size e
  refine wpAny_newObj_type (wpAny_newFunctionEnv hcell (by intro y hy; simp at hy) (fun h₁ hns₁ hsb₁ => ?_) hkind)
  dsimp only at hns₁ hsb₁ ⊢
  generalize hH2 : s2.heap.push { cls := .type "list", dict := none, data := .seq ([] : List Value).toArray } = G2 at hns₁ hsb₁ ⊢
  have hCs : G2.objs.size = s2.heap.objs.size + 1 := by rw [← hH2, Heap.size_push]
  have hDC : s2.heap.objs.size ≠ G2.objs.size := by rw [hCs]; exact Nat.ne_of_lt (Nat.lt_succ_self _)
  have old : ∀ b o, s2.heap.get? b = some o → h₁.get? b = some o := fun b o e =>
    hsb₁.extBut b o (by rw [hCs]; exact Nat.ne_of_lt (Nat.lt_succ_of_lt (Heap.lt_size e))) (Heap.get?_push_of_some _ (hH2 ▸ Heap.get?_push_of_some _ e))
  have hacc : h₁.get? s2.heap.objs.size = some { cls := .type "list", data := .seq ([] : List Value).toArray 0 } := hsb₁.extBut _ _ hDC (Heap.get?_push_of_some _ (hH2 ▸ Heap.get?_push_size _ rfl))
  generalize hX2 : cxD X scope cl G2.objs.size s2 H2 (ts ++ js.map (·.2)) fp = X2
  have I4 : Inv X2 [] (capS ts js σ) (upd H2 s2.heap.objs.size (.lst [])) { s2 with heap := h₁, toks := s2.toks + ([] : List (Str × Value)).length } := by
    rw [← hX2]
    exact inv_compG I2 f2 hfl hkind hcell cp hcl (by rw [hCs]; exact Nat.lt_succ_self _) rfl rfl old hns₁ hacc
  have x1 : X2.prog = X.prog := by rw [← hX2]; rfl
  have x2 : X2.w = X.w := by rw [← hX2]; rfl
  have x3 : X2.K = X.K := by rw [← hX2]; rfl
  have x4 : X2.calm = true := by rw [← hX2]; exact hc
  have x5 : X2.A = X.A := by rw [← hX2]; rfl
  have x6 : X2.env = compEnvC scope cl G2.objs.size X.env := by rw [← hX2]; rfl
  have x7 : X2.xe = fun _ _ => False := by rw [← hX2]; rfl
  have hg' : PG X2 tg g := by rw [← hX2]; exact hg _ _ _ _ _
  have hif' : PIfs X2 ifs tif := by rw [← hX2]; exact hif _ _ _ _ _
  have he' : PE X2 elt te := by rw [← hX2]; exact he _ _ _ _ _
  have st4 : tn 0 h₁ := T.keep _ _ _ st2 fun b _ o e => old b o e
  have stat : ∀ {H' : Hp} {pins' : List (Addr × Obj)}, (∀ b ∈ fp, H' b = none) → (∀ p ∈ pins', p.1 ∉ fp) → ∀ b ∈ fp, FpOk X2 pins' H' b := fun {H' pins'} hn hp b hb => by
    have o4 := I4.ok
    subst hX2
    exact ⟨hn b hb, (o4.exf b hb).1, o4.exfs b hb, .inl hb, (o4.exf b hb).2, fun p hp' => by
      have hp2 : p ∈ ([] : List (Addr × Obj)) ++ pins' := hp'
      rw [List.nil_append] at hp2
      intro z; exact hp p hp2 (by rw [z]; exact hb)⟩
  have fin : ∀ {s' : Shared} {σ' : St} {H' : Hp}, Inv X2 [] σ' H' s' → Q (.ref s2.heap.objs.size) H' →
      compPost (model X.prog X.w) X.A X.xe none (EP X pins σ Q) (.ref s2.heap.objs.size) G2.objs.size (.ok .next) s' := fun {s' σ' H'} J' q => by
    subst hX2
    obtain ⟨m', hn', _⟩ := J'.loc
    refine ⟨m', hn', fun h' hs' => ?_⟩
    have u : Un (frs X.stack) fp H2 H' s2.heap s'.heap := J'.base
    have nC : ∀ b o, s2.heap.get? b = some o → b ≠ G2.objs.size := fun b o e => by rw [hCs]; exact Nat.ne_of_lt (Nat.lt_succ_of_lt (Heap.lt_size e))
    have u' : Un (frs X.stack) fp H2 H' s2.heap h' := ⟨fun b o e n hb hx => (hs'.2 b (nC b o e)).trans (u.keep b o e n hb hx), fun b o e n hb hx => by
        obtain ⟨sl, z⟩ := u.slot b o e n hb hx
        exact ⟨sl, (hs'.2 b (nC b o e)).trans z⟩, u.free, fun b o e hx => by
        obtain ⟨o', z⟩ := u.there b o e hx
        exact ⟨o', (hs'.2 b (nC b o e)).trans z⟩, u.tups, u.frzs, u.tbls⟩
    have hok : HOk X.prog X.w H' h' := fun b ob e => by
      refine (J'.hok b ob e).stay (fun c w' hc' q' => (hs'.2 c ?_).trans q') (fun _ q => q) fun _ _ q => q
      intro z
      have fr : H' G2.objs.size = none := J'.free
      rcases hc' with z' | z'
      · rw [← z'] at e; rw [z, fr] at e; cases e
      · rw [z, fr] at z'; cases z'
    have I5 : Inv X pins σ H' { s' with heap := h' } := I2.call' (s' := { s' with heap := h' }) J'.os u' hok J'.bare fun b hb => by
      obtain ⟨_, f1, _, f3, f4, f5⟩ := f2 b hb
      exact ⟨f3, f1, f4, f5⟩
    exact ⟨.ref s2.heap.objs.size, H', I5, rfl, q⟩
  have loop : ∀ s₃ : Shared, s₃ = { s2 with heap := h₁, toks := s2.toks + ([] : List (Str × Value)).length } →
      codeAny (model X.prog X.w) X.A (.compLoop (.ListComp elt [⟨tg, iter, ifs, 0⟩] scope pos) 0 (.ref it) (.ref s2.heap.objs.size) (compEnvC scope cl G2.objs.size X.env))
        (compPost (model X.prog X.w) X.A X.xe none (EP X pins σ Q) (.ref s2.heap.objs.size) G2.objs.size) s₃ := by
    rintro s₃ rfl
    subst hX2
    refine compLoop_go (fun n s' => ∃ i ys σ' H', Inv (cxD X scope cl G2.objs.size s2 H2 (ts ++ js.map (·.2)) fp) [] σ' H' s' ∧ tn i s'.heap ∧ (∀ b ∈ fp, H' b = none) ∧ W i n ys σ' H') ?_ m0
      ⟨0, [], _, _, I4, st4, fun b hb => by rw [upd_ne (Nat.ne_of_lt (hfl b hb))]; exact (f2 b hb).1, w0⟩
    rintro n s' ⟨i, ys, σ0, H', J', st', fr', w'⟩
    rcases turn i n ys σ0 H' w' with ⟨stop, q⟩ | ⟨go, m', hm, step⟩
    · refine wpAny_mono (T.done (cxD X scope cl G2.objs.size s2 H2 (ts ++ js.map (·.2)) fp) rfl rfl rfl hc i [] s' _ H' (fun _ _ => False) J' (stat fr' (by simp)) st' stop) (fun r s4 ⟨hr, J4⟩ => ?_) fun _ _ z => z
      subst hr
      exact fin J4 q
    · refine wpAny_mono (T.item (cxD X scope cl G2.objs.size s2 H2 (ts ++ js.map (·.2)) fp) rfl rfl rfl hc i [] s' _ H' (fun _ _ => False) J' (stat fr' (by simp)) st' go) (fun r s4 ⟨u, hr, h4⟩ => ?_) fun _ _ z => z
      subst hr
      refine wpAny_mono h4 (fun _ s5 ⟨xv, H5, J5, r5, y5, st5, fr5⟩ => ?_) fun _ _ z => z
      have J5' := J5.pinned (stat fr5 (by simp)) (T.obj _ _ st5)
      have back : ∀ {s7 : Shared} {σ7 : St} {H7 : Hp}, Inv (cxD X scope cl G2.objs.size s2 H2 (ts ++ js.map (·.2)) fp) ([] ++ pinsAt fp s5.heap) σ7 H7 s7 → Inv (cxD X scope cl G2.objs.size s2 H2 (ts ++ js.map (·.2)) fp) [] σ7 H7 s7 ∧ tn (i + 1) s7.heap ∧ ∀ b ∈ fp, H7 b = none := fun {s7 σ7 H7} J7 => by
        refine ⟨J7.unpinned, T.keep _ _ _ st5 fun b hb o e => (J7.pin (b, o) (List.mem_append_right _ (List.mem_append_right _ (mem_pinsAt hb e)))).1, fun b hb => ?_⟩
        obtain ⟨o, e, d⟩ := T.obj _ _ st5 b hb
        exact (J7.pin (b, o) (List.mem_append_right _ (List.mem_append_right _ (mem_pinsAt hb e)))).2.1
      show wpAny _ _ (assign tg (cxD X scope cl G2.objs.size s2 H2 (ts ++ js.map (·.2)) fp).env u) _ _ s5
      refine wpAny_mono (hg' _ s5 _ H5 xv u _ J5' r5 (step xv H5 y5)) (fun _ s6 ⟨σ6, H6, J6, q6⟩ => ?_) fun _ _ z => z
      refine wpAny_mono (hif' _ s6 _ H6 _ J6 q6) (fun b s7 ⟨H7, J7, q7⟩ => ?_) fun _ _ z => z
      cases b with
      | false =>
        rw [if_neg Bool.false_ne_true] at q7 ⊢
        obtain ⟨J8, st8, fr8⟩ := back J7
        exact ⟨m', hm, i + 1, ys, σ6, H7, J8, st8, fr8, q7⟩
      | true =>
        rw [if_pos rfl] at q7 ⊢
        refine wpAny_mono (he' _ s7 _ H7 _ J7 q7) (fun yv s8 ⟨y, H8, J8, r8, hD8, hz8, w8⟩ => ?_) fun _ _ z => z
        refine wpAny_mono (mt_append (X := cxD X scope cl G2.objs.size s2 H2 (ts ++ js.map (·.2)) fp) _ s8 _ H8 (.ref s2.heap.objs.size) [y] (.ref s2.heap.objs.size) [yv] (fun v H' => W (i + 1) m' (ys ++ [y]) σ6 H') J8 rfl (.cons r8 .nil) ⟨s2.heap.objs.size, ys, y, rfl, rfl, hD8, hz8, w8⟩)
          (fun _ s9 ⟨_, H9, J9, _, w9⟩ => ?_) fun _ _ z => z
        obtain ⟨J10, st10, fr10⟩ := back J9
        exact ⟨m', hm, i + 1, ys ++ [y], σ6, H9, J10, st10, fr10, w9⟩
  exact codeAny_compStart_list (loop _ rfl) (T.self _ _ _ _ _ st4 (loop _ rfl))
end L2
namespace L2
open PySem PySem.Spec PyProof.Rows
theorem boot_enum : bootBuiltins "enumerate" = some (.type "enumerate") := by decide +kernel
end L2
namespace L2
open PySem PySem.Spec PyProof.Rows
def fillK (kvs acc : List (Key × V)) : List (Key × V) := kvs.foldl (fun a p => putK a p.1 p.2) acc
theorem fill_rel : ∀ {kvs : List (Key × V)} {vs : List (Key × Value)} {acc : List (Key × V)} {accv : List (Key × Value)}, KV kvs vs → KV acc accv → KV (fillK kvs acc) (vs.foldl (fun a p => stored a p.1 p.2) accv)
  | _, _, _, _, .nil, h => h
  | _, _, _, _, .cons (a := p) (b := q) r t, h => by
    obtain ⟨e, rv⟩ := r
    show KV (fillK _ (putK _ p.1 p.2)) (List.foldl _ (stored _ q.1 q.2) _)
    rw [← e]
    exact fill_rel t (h.put p.1 rv)
theorem fill_len : ∀ (kvs acc : List (Key × V)), (fillK kvs acc).length ≤ acc.length + kvs.length
  | [], acc => by simp [fillK]
  | p :: r, acc => by
    have := fill_len r (putK acc p.1 p.2)
    have := length_putK acc p.1 p.2
    show (fillK r (putK acc p.1 p.2)).length ≤ _
    rw [List.length_cons]
    omega
section
variable {X : Cx} {pins : List (Addr × Obj)} {σ : St} {H : Hp} {s : Shared}
theorem pairs_at (I : Inv X pins σ H s) : ∀ {ts : List Addr} {kvs : List (Key × V)} {its : List Value}, Paired (fun t kv => SqT X.K H t [kV kv.1, kv.2]) ts kvs → Vals (ts.map V.ref) its →
    ∃ vs : List (Key × Value), KV kvs vs ∧ Paired (fun u kv => PairAt (mixKind X.prog X.w) s.heap u kv) its vs
  | [], _, _, .nil, r => by
    rw [List.map_nil] at r
    cases r
    exact ⟨[], .nil, .nil⟩
  | t :: ts, kv :: kvs, _, .cons h p, r => by
    rw [List.map_cons] at r
    cases r with
    | cons r1 r2 =>
      obtain ⟨vs, e1, e2⟩ := pairs_at I p r2
      obtain ⟨its, rv, ⟨o, h1, h2, n, h3⟩, _⟩ := I.tuple h
      obtain ⟨u1, u2, rfl, q1, q2⟩ := vals2 rv
      exact ⟨(kv.1, u2) :: vs, .cons ⟨rfl, q2⟩ e1, .cons ⟨t, u1, n, o, r1, kV_is q1, h1, h2, h3⟩ e2⟩
theorem Paired.at_ {α β : Type} {F : α → β → Prop} : ∀ {xs : List α} {ys : List β}, Paired F xs ys → ∀ (m : Nat) (y : β), ys[m]? = some y → ∃ x, xs[m]? = some x ∧ F x y
  | _, _, .nil, m, y, e => by cases m <;> cases e
  | _, _, .cons h t, 0, y, e => by cases e; exact ⟨_, rfl, h⟩
  | _, _, .cons h t, m + 1, y, e => Paired.at_ t m y e
theorem call_dictP (hc : X.calm = true) : CallR X (.type "dict") (fun xs H Q => ∃ a ts kvs, xs = [.ref a] ∧ H a = some (.lst (ts.map V.ref)) ∧ Paired (fun t kv => SqT X.K H t [kV kv.1, kv.2]) ts kvs ∧ ∀ d, H d = none → Q (.ref d) (upd H d (.dK (fillK kvs [])))) := by
  intro pins s σ H xs us Q I r h
  obtain ⟨a, ts, kvs, rfl, e, p, q⟩ := h
  obtain ⟨u, rfl, rx⟩ := vals1 r
  cases (show u = Value.ref a from rx)
  obtain ⟨z, its, n, rv, ho⟩ := (show ObjOk X.prog X.w H s.heap a (.lst _) from I.hok a _ e)
  obtain ⟨vs, r1, r2⟩ := pairs_at I p rv
  have l1 := Paired.length r2
  have l2 := r1.length
  have l3 := Paired.length p
  rw [List.length_map] at z
  refine call_dict_list (mixKind X.prog X.w) (I.ok.hd hc) ho (by simpa using l1) (fun m kv em => ?_) (by omega) fun h' t' hd kk => ?_
  · obtain ⟨u, e1, e2⟩ := Paired.at_ r2 m kv em
    exact ⟨u, by simpa using e1, e2⟩
  · have new : ObjOk X.prog X.w (upd H s.heap.objs.size (.dK (fillK kvs []))) h' s.heap.objs.size (.dK (fillK kvs [])) := by
      refine dk_new ?_ ?_ (fill_rel r1 .nil) hd
      · have := fill_len kvs []
        simp at this
        omega
      · have := I.big
        exact beq_eq_false_iff_ne.mpr (Nat.ne_of_gt this)
    exact ⟨.ref s.heap.objs.size, _, I.laid (t' := t') kk (Nat.le_refl _) new, rfl, q _ (I.hok.fresh (Nat.le_refl _))⟩
theorem paired_of {α β : Type} {F : α → β → Prop} : ∀ {xs : List α} {ys : List β}, xs.length = ys.length → (∀ (j : Nat) x y, xs[j]? = some x → ys[j]? = some y → F x y) → Paired F xs ys
  | [], [], _, _ => .nil
  | [], _ :: _, e, _ => by cases e
  | _ :: _, [], e, _ => by cases e
  | x :: xs, y :: ys, e, h => .cons (h 0 x y rfl rfl) (paired_of (Nat.succ.inj e) fun j a b e1 e2 => h (j + 1) a b e1 e2)
theorem is_kV {P : Program} {w : World} {k : Key} {u : Value} (h : (mixKind P w).is k u = true) : RelV (kV k) u := by
  rcases keyIs_shape (show keyIs k u = true from h) with ⟨i, t, rfl, rfl⟩ | ⟨x, t, rfl, rfl⟩
  · exact ⟨t, rfl⟩
  · exact ⟨t, rfl⟩
theorem call_listD (hc : X.calm = true) : CallR X (.type "list") (fun xs H Q => ∃ a kvs, xs = [.ref a] ∧ H a = some (.dK kvs) ∧ ∀ D, H D = none → Q (.ref D) (upd H D (.lst (kvs.map fun p => kV p.1)))) := by
  intro pins s σ H xs us Q I r h
  obtain ⟨a, kvs, rfl, e, q⟩ := h
  obtain ⟨u, rfl, rx⟩ := vals1 r
  cases (show u = Value.ref a from rx)
  obtain ⟨z, hs, vs, rel, dd⟩ := dk_of I.hok e
  obtain ⟨o, es, ep, d1, d2, d3, d4⟩ := dd
  have l1 := rel.length
  refine PySem.W.kdl_call (PySem.W.kdl_dict (knd := mixKind X.prog X.w) (kvs := vs) (ep := ep) hs) (I.ok.hd hc) ⟨o, es, d1, d2, d3, d4⟩ (by omega) fun h' tk acc c kk hD hacc => ?_
  have keys := rel.keys
  have vals : Vals (kvs.map fun p => kV p.1) acc.toList := by
    refine paired_of (by have h1 := hacc.1; simp only [List.length_map, Array.length_toList]; omega) fun j x y e1 e2 => ?_
    rw [Array.getElem?_toList] at e2
    obtain ⟨k, v, e3, e4⟩ := hacc.2 j y e2
    rw [List.getElem?_map] at e1
    obtain ⟨p, e5, rfl⟩ := Option.map_eq_some_iff.mp e1
    have e6 : (kvs.map (·.1))[j]? = some p.1 := by rw [List.getElem?_map, e5]; rfl
    rw [keys, List.getElem?_map, e3] at e6
    cases e6
    exact is_kV e4
  have new : ObjOk X.prog X.w (upd H s.heap.objs.size (.lst (kvs.map fun p => kV p.1))) h' s.heap.objs.size (.lst (kvs.map fun p => kV p.1)) := ⟨by rw [List.length_map]; exact z, acc.toList, c, vals, by simpa using hD⟩
  exact ⟨.ref s.heap.objs.size, _, I.laid (t' := tk) kk (Nat.le_refl _) new, rfl, q _ (I.hok.fresh (Nat.le_refl _))⟩
end
end L2
namespace L2
open PySem PySem.Spec PyProof.Rows
def PlainV (v : V) : Prop := flatV v = true ∨ ∃ r, v = .ref r
end L2
namespace L2
open PySem PySem.Spec PyProof.Rows
section
variable {K : PySem.W.Frag} {a D : Addr} {xs : List V} {ts : List Str} {js : List (Nat × Str)} {g : TG} {tif : TT} {te : TE} {R : Hp → Prop} {σ : St} {H : Hp}
theorem compG_list (Pv : Nat → List V → St → Hp → Prop) (h0 : Pv 0 [] (capS ts js σ) (upd H D (.lst []))) (hl : ∀ i ys σ H, i ≤ xs.length → Pv i ys σ H → SqL K H a xs)
    (hs : ∀ i x ys σ H, xs[i]? = some x → Pv i ys σ H → g x σ H fun σ2 H2 => tif σ2 H2 fun b H3 => if b = true then te σ2 H3 fun y H4 => H4 D = some (.lst ys) ∧ ys.length < sizeLine ∧ Pv (i + 1) (ys ++ [y]) σ2 (upd H4 D (.lst (ys ++ [y]))) else Pv (i + 1) ys σ2 H3)
    (hd : ∀ ys σ H, Pv xs.length ys σ H → R H) :
    ∃ W : Nat → Nat → List V → St → Hp → Prop, (∃ m, W 0 m [] (capS ts js σ) (upd H D (.lst []))) ∧
  ∀ i m ys σ' H, W i m ys σ' H → ((Itl K a).stop i H ∧ R H) ∨ ((Itl K a).go i H ∧ ∃ m', m' < m ∧ ∀ x H', (Itl K a).yld i H x H' → g x σ' H' fun σ2 H2 => tif σ2 H2 fun b H3 =>
    if b = true then te σ2 H3 fun y H4 => H4 D = some (.lst ys) ∧ ys.length < sizeLine ∧ W (i + 1) m' (ys ++ [y]) σ2 (upd H4 D (.lst (ys ++ [y]))) else W (i + 1) m' ys σ2 H3) := by
  refine ⟨fun i m ys σ H => m = xs.length - i ∧ i ≤ xs.length ∧ Pv i ys σ H, ⟨xs.length, by simp, Nat.zero_le _, h0⟩, ?_⟩
  rintro i m ys σ' H ⟨rfl, hi, p⟩
  have q := hl i ys σ' H hi p
  by_cases hlt : i < xs.length
  · refine .inr ⟨⟨xs, xs[i], q, by simp [hlt]⟩, xs.length - (i + 1), by omega, fun x H' y => ?_⟩
    obtain ⟨e, y⟩ := y
    subst e
    have z := hs i x ys σ' _ (y xs q) p
    have h1 : (i + 1 ≤ xs.length) = True := eq_true hlt
    simp only [h1, true_and]
    exact z
  · have e : i = xs.length := by omega
    subst e
    exact .inl ⟨⟨xs, q, Nat.le_refl _⟩, hd ys σ' H p⟩
theorem compG_range {lo : Int} {n : Nat} (Pv : Nat → List V → St → Hp → Prop) (h0 : Pv 0 [] (capS ts js σ) (upd H D (.lst [])))
    (hs : ∀ i ys σ H, i < n → Pv i ys σ H → g (.int (lo + i)) σ H fun σ2 H2 => tif σ2 H2 fun b H3 => if b = true then te σ2 H3 fun y H4 => H4 D = some (.lst ys) ∧ ys.length < sizeLine ∧ Pv (i + 1) (ys ++ [y]) σ2 (upd H4 D (.lst (ys ++ [y]))) else Pv (i + 1) ys σ2 H3)
    (hd : ∀ ys σ H, Pv n ys σ H → R H) :
    ∃ W : Nat → Nat → List V → St → Hp → Prop, (∃ m, W 0 m [] (capS ts js σ) (upd H D (.lst []))) ∧
  ∀ i m ys σ' H, W i m ys σ' H → ((Itr lo n).stop i H ∧ R H) ∨ ((Itr lo n).go i H ∧ ∃ m', m' < m ∧ ∀ x H', (Itr lo n).yld i H x H' → g x σ' H' fun σ2 H2 => tif σ2 H2 fun b H3 =>
    if b = true then te σ2 H3 fun y H4 => H4 D = some (.lst ys) ∧ ys.length < sizeLine ∧ W (i + 1) m' (ys ++ [y]) σ2 (upd H4 D (.lst (ys ++ [y]))) else W (i + 1) m' ys σ2 H3) := by
  refine ⟨fun i m ys σ H => m = n - i ∧ i ≤ n ∧ Pv i ys σ H, ⟨n, by simp, Nat.zero_le _, h0⟩, ?_⟩
  rintro i m ys σ' H ⟨rfl, hi, p⟩
  by_cases hlt : i < n
  · refine .inr ⟨hlt, n - (i + 1), by omega, fun x H' y => ?_⟩
    obtain ⟨rfl, rfl⟩ := y
    have z := hs i ys σ' _ hlt p
    have h1 : (i + 1 ≤ n) = True := eq_true hlt
    simp only [h1, true_and]
    exact z
  · have e : i = n := by omega
    subst e
    exact .inl ⟨Nat.le_refl _, hd ys σ' H p⟩
end
theorem kit_self {K : PySem.W.Frag} {t : Value} : PySem.W.kitOne K t t = some true := by unfold PySem.W.kitOne; rw [if_pos (beq_self_eq_true t)]
def tCutS (t : TS) : TS := fun D σ H => ∃ R : St → Hp → Prop, t { D with nx := R } σ H ∧ ∀ σ' H', R σ' H' → D.nx σ' H'
theorem ps_cutS {X : Cx} {st : Stmt} {t : TS} (h : PS X st t) : PS X st (tCutS t) := by
  intro pins s σ H D I ⟨R, q, m⟩
  refine thn (h pins s σ H _ I q) fun f s1 z => ?_
  cases f with
  | next => obtain ⟨σ', H', I', r⟩ := z; exact ⟨σ', H', I', m _ _ r⟩
  | ret v => exact z
  | brk => exact z
  | cont => exact z
def CalleeD (P : Program) (w : World) (K : PySem.W.Frag) (mg : Str → Option Value) (base : Heap) (k : Nat) (x : Str) (ps : List Str) (sp : Sp) : Prop :=
  ∃ f fd, FnOk P w K mg base CX0 k f fd ps sp ∧ Binds K fd ps [] ∧ PySem.W.keepIn K (.ref f) = true ∧ mg x = some (.ref f)
theorem CalleeD.mono {P : Program} {w : World} {K : PySem.W.Frag} {mg : Str → Option Value} {base : Heap} {j k : Nat} {x : Str} {ps : List Str} {sp : Sp} (c : CalleeD P w K mg base j x ps sp) (h : j ≤ k) : CalleeD P w K mg base k x ps sp :=
  let ⟨f, fd, a, b⟩ := c; ⟨f, fd, a.mono h, b⟩
theorem pe_fn {X : Cx} {k : Nat} {x : Str} {ps : List Str} {sp : Sp} {e : Expr} {es : List Expr} {t : TA} {p pos : Pos} (c : CalleeD X.prog X.w X.K X.mg X.base k x ps sp) (hr : Room k X.A) (hg : Gl X x) (ha : PA X (e :: es) t)
    (hdb : (x == ("__debug__" : Str)) = false := by decide) (he : starEach (e :: es) X.env = (false, eval e X.env) :: starEach es X.env := by rfl) (hpl : (backTo pos (starEach es X.env)).any (·.1) = false := by rfl) :
    PE X (.Call (.Name x p) (e :: es) [] pos) (tCall sp [] E0 t) := by
  obtain ⟨f, fd, G, b, kp, m⟩ := c
  exact pe_call G hr hg m kp b .nil pass0 ha hdb he hpl
theorem fits {n : Nat} (h : n ≤ 1000000) : n ≤ sizeLine := Nat.le_trans h (by decide)
theorem fits' {n : Nat} (h : n ≤ 1000000) : n < sizeLine := Nat.lt_of_le_of_lt h (by decide)
theorem same_laid {H : Hp} {p : Addr} (h : H p = none) (o : HO) : Same H (upd H p o) := fun b u q => by rw [upd_ne (ne_of_none q h)]; exact q
theorem Same.tup {K : PySem.W.Frag} {H H' : Hp} {a : Addr} {xs : List V} (e : Same H H') (h : SqT K H a xs) : SqT K H' a xs := by
  rcases h with (h | ⟨o, h⟩) | h
  · exact .inl (.inl (e _ _ h))
  · exact .inl (.inr ⟨o, e _ _ h⟩)
  · exact .inr h
end L2
namespace L2
open PySem PySem.Spec PyProof.Rows
theorem call_allB {X : Cx} (hc : X.calm = true) : CallR X (.builtin "all") (fun xs H Q => ∃ (a : Addr) (bs : List Bool), xs = [.ref a] ∧ SqL X.K H a (bs.map V.bl) ∧ Q (.bl (bs.all id)) H) := by
  intro pins s σ H xs us Q I r h
  obtain ⟨a, bs, rfl, hq, q⟩ := h
  obtain ⟨u, rfl, rx⟩ := vals1 r
  cases (show u = Value.ref a from rx)
  obtain ⟨its, rv, pl, hz⟩ := I.list hq
  obtain ⟨o, h1, h2, m, h3⟩ := id pl.isList
  have la : a < s.heap.objs.size := Heap.lt_size h1
  have ln := rv.length
  rw [List.length_map] at ln
  have isB : ∀ (i : Nat) v, its.toArray[i]? = some v → v = .bool (bs.getD i true) := fun i v e => by
    have e' : its[i]? = some v := by simpa using e
    obtain ⟨x, e2, e3⟩ := Paired.at_ rv i v e'
    rw [List.getElem?_map] at e2
    obtain ⟨b, e4, rfl⟩ := Option.map_eq_some_iff.mp e2
    rw [List.getD_eq_getElem?_getD, e4]
    exact e3
  refine call_all_walk (wpAny_pyIter_list pl.isList ?_)
  refine ⟨s.heap.objs.size, _, _, _, _, _, fun i => bs.getD i true, rfl, Walks.list (A := X.A.in1) (show X.A.in1.handled = none from I.ok.hd hc) s.heap.objs.size a (Nat.ne_of_lt la) its.toArray, ⟨⟨_, Heap.get?_push_size _ rfl, rfl, rfl⟩, ⟨o, Heap.get?_push_of_some _ h1, h2, m, h3⟩⟩, ?_, fun h' tk kk => ?_⟩
  · intro i v s1 Q1 E1 hP hQ1
    rw [isB i v hP]
    exact wpAny_truthy_bool hQ1
  · have e : ((List.range its.toArray.size).all fun i => bs.getD i true) = bs.all id := by
      rw [List.size_toArray, ← ln, Bool.eq_iff_iff, List.all_eq_true, List.all_eq_true]
      constructor
      · intro h b hb
        obtain ⟨i, hi, e⟩ := List.mem_iff_getElem.mp hb
        have := h i (List.mem_range.mpr hi)
        rw [List.getD_eq_getElem?_getD, List.getElem?_eq_getElem hi, e] at this
        exact this
      · intro h i hi
        have hi' := List.mem_range.mp hi
        rw [List.getD_eq_getElem?_getD, List.getElem?_eq_getElem hi']
        exact h _ (List.getElem_mem hi')
    rw [e]
    exact ⟨.bl _, H, I.kept (t' := tk) fun b o' e' => kk b o' (by simp; exact Nat.ne_of_lt (Heap.lt_size e')) (Heap.get?_push_of_some _ e'), rfl, q⟩
section
variable {prog : Program} {w : World} {A : Around} {E : Value → Shared → Prop} {s : Shared}
theorem nextOf_tup {it l : Addr} {i : Nat} {items : Array Value} {x : Value} {Q : Value → Shared → Prop} (hit : s.heap.IsTupleIter it l i) (hl : s.heap.IsTuple l items) (hx : items[i]? = some x)
    (hQ : ∀ h', h'.IsTupleIter it l (i + 1) → Heap.SameBut it s.heap h' → Q x { s with heap := h' }) : wpAny (model prog w) A (Builtin.SmallTypes.nextOf (.ref it)) Q E s := by
  obtain ⟨o, ho, hc, hd⟩ := id hit
  obtain ⟨ol, hol, _, nl, hdl⟩ := hl
  unfold Builtin.SmallTypes.nextOf
  refine wpAny_bind (wpAny_callSpecial?_slot (name := Str.ofString "__next__") hit.typeIs F.slot_tuple_iterator_next (wpAny_call_entry F.slot_tuple_iterator_next hit.typeIs F.entry_tuple_iterator_next ?_ (F.args_tuple_iterator_next_1 _)))
  show wpAny _ _ (field (.ref it) 0 >>= fun v => _) _ _ s
  refine wpAny_bind (wpAny_field ho hd (x := .ref l) (by rfl) ?_)
  show wpAny _ _ (if (Value.ref l == .none) = true then _ else _) _ _ s
  rw [if_neg (by exact Bool.false_ne_true)]
  show wpAny _ _ (field (.ref it) 1 >>= fun v => _) _ _ s
  refine wpAny_bind (wpAny_field ho hd (x := .int i 0) (by rfl) ?_)
  show wpAny _ _ (seqItems? (.ref l) >>= fun v => _) _ _ s
  refine wpAny_bind (wpAny_seqItems hol hdl (by
    simp only [Int.toNat_natCast, hx]
    refine wpAny_bind (wpAny_setField ho hd (by simp) (wpAny_pure ⟨x, rfl, wpAny_pure (hQ _ ⟨_, Heap.get?_update_self _ ho (Obj.isFreed_of_fields (Obj.data_mapFields hd _)), (Obj.cls_mapFields ..).trans hc, ?_⟩ (Heap.SameBut.update ..))⟩))
    rw [Obj.data_mapFields hd]
    simp [rawInt]))
theorem nextOf_tup_end {it l : Addr} {i : Nat} {items : Array Value} {Q : Value → Shared → Prop} (hh : A.handled = none) (hit : s.heap.IsTupleIter it l i) (hl : s.heap.IsTuple l items) (hx : items[i]? = none)
    (hE : ∀ h' e, Heap.ExtBut it s.heap h' → (∃ o, h'.get? e = some o ∧ o.cls = .type "StopIteration") → E (.ref e) { s with heap := h' }) : wpAny (model prog w) A (Builtin.SmallTypes.nextOf (.ref it)) Q E s := by
  obtain ⟨o, ho, hc, hd⟩ := id hit
  obtain ⟨ol, hol, _, nl, hdl⟩ := hl
  unfold Builtin.SmallTypes.nextOf
  refine wpAny_bind (wpAny_callSpecial?_slot (name := Str.ofString "__next__") hit.typeIs F.slot_tuple_iterator_next (wpAny_call_entry F.slot_tuple_iterator_next hit.typeIs F.entry_tuple_iterator_next ?_ (F.args_tuple_iterator_next_1 _)))
  show wpAny _ _ (field (.ref it) 0 >>= fun v => _) _ _ s
  refine wpAny_bind (wpAny_field ho hd (x := .ref l) (by rfl) ?_)
  show wpAny _ _ (if (Value.ref l == .none) = true then _ else _) _ _ s
  rw [if_neg (by exact Bool.false_ne_true)]
  show wpAny _ _ (field (.ref it) 1 >>= fun v => _) _ _ s
  refine wpAny_bind (wpAny_field ho hd (x := .int i 0) (by rfl) ?_)
  show wpAny _ _ (seqItems? (.ref l) >>= fun v => _) _ _ s
  refine wpAny_bind (wpAny_seqItems hol hdl ?_); simp only [Int.toNat_natCast, hx]
  refine wpAny_bind (wpAny_rule (wpAny_bind (wpAny_setField ho hd (by simp) (wpAny_bind ?_)))); simp only [newExc, newTuple]
  refine wpAny_bind (wpAny_newObj_type ?_ (by size_fits)); refine wpAny_bind (m := firstArgMember _ _) (wpAny_of_eq (a := Value.none) (by first | rfl | (simp only [firstArgMember]; rfl)) ?_)
  refine wpAny_newObj_type ?_ (by size_fits); simp only [raiseNew]; refine wpAny_bind (wpAny_handled ?_)
  first | rw [show A.in1.handled = none from hh] | rw [hh]
  refine wpAny_bind (wpAny_pure (wpAny_throw (hE _ _ (((Heap.SameBut.update ..).extBut.push _).push _) ⟨_, Heap.get?_push_size _ rfl, rfl⟩)))
end
end L2
namespace L2
open PySem PySem.Spec PyProof.Rows
open AutoSeq1 (wpAny_loadPart')
section
variable {prog : Program} {w : World} {A : Around} {E : Value → Shared → Prop} {s : Shared}
end
end L2
namespace L2
open PySem
section
variable {K : PySem.W.Frag} {a D : Addr} {xs : List V} {ts : List Str} {js : List (Nat × Str)} {g : TG} {tif : TT} {te : TE} {R : Hp → Prop} {σ : St} {H : Hp}
theorem compG_tup (Pv : Nat → List V → St → Hp → Prop) (h0 : Pv 0 [] (capS ts js σ) (upd H D (.lst []))) (hl : ∀ i ys σ H, i ≤ xs.length → Pv i ys σ H → SqT K H a xs)
    (hs : ∀ i x ys σ H, xs[i]? = some x → Pv i ys σ H → g x σ H fun σ2 H2 => tif σ2 H2 fun b H3 => if b = true then te σ2 H3 fun y H4 => H4 D = some (.lst ys) ∧ ys.length < sizeLine ∧ Pv (i + 1) (ys ++ [y]) σ2 (upd H4 D (.lst (ys ++ [y]))) else Pv (i + 1) ys σ2 H3)
    (hd : ∀ ys σ H, Pv xs.length ys σ H → R H) :
    ∃ W : Nat → Nat → List V → St → Hp → Prop, (∃ m, W 0 m [] (capS ts js σ) (upd H D (.lst []))) ∧
  ∀ i m ys σ' H, W i m ys σ' H → ((Itt K a).stop i H ∧ R H) ∨ ((Itt K a).go i H ∧ ∃ m', m' < m ∧ ∀ x H', (Itt K a).yld i H x H' → g x σ' H' fun σ2 H2 => tif σ2 H2 fun b H3 =>
    if b = true then te σ2 H3 fun y H4 => H4 D = some (.lst ys) ∧ ys.length < sizeLine ∧ W (i + 1) m' (ys ++ [y]) σ2 (upd H4 D (.lst (ys ++ [y]))) else W (i + 1) m' ys σ2 H3) := by
  refine ⟨fun i m ys σ H => m = xs.length - i ∧ i ≤ xs.length ∧ Pv i ys σ H, ⟨xs.length, by simp, Nat.zero_le _, h0⟩, ?_⟩
  rintro i m ys σ' H ⟨rfl, hi, p⟩
  have q := hl i ys σ' H hi p
  by_cases hlt : i < xs.length
  · refine .inr ⟨⟨xs, xs[i], q, by simp [hlt]⟩, xs.length - (i + 1), by omega, fun x H' y => ?_⟩
    obtain ⟨e, y⟩ := y
    subst e
    have z := hs i x ys σ' _ (y xs q) p
    have h1 : (i + 1 ≤ xs.length) = True := eq_true hlt
    simp only [h1, true_and]
    exact z
  · have e : i = xs.length := by omega
    subst e
    exact .inl ⟨⟨xs, q, Nat.le_refl _⟩, hd ys σ' H p⟩
end
end L2
namespace L2
open PySem
section
variable {prog : Program} {w : World} {K : Type} [DecidableEq K] {knd : KeyKind prog w K} {A : Around} {E : Value → Shared → Prop}
end
section
variable {X : Cx} {o e : Expr} {apos cpos : Pos} {td ty : TE}
end
end L2
namespace L2
open PySem PySem.Spec PyProof.Rows
section
variable {d D : Addr} {o : Obj} {kvs : List (Key × V)} {ts : List Str} {js : List (Nat × Str)} {g : TG} {tif : TT} {te : TE} {R : Hp → Prop} {σ : St} {H : Hp}
end
end L2
namespace L2
open PySem PySem.Spec PyProof.Rows
end L2
namespace L2
open PySem PySem.Spec PyProof.Rows
theorem ps_setC {X : Cx} {elt iter tg : Expr} {iy : Nat} {y : Str} {py spos : Pos} {ifs : List Expr} {scope : Scope} {pos : Pos} {wi : TI} {g : TG} {tif : TT} {te : TE} (ts : List Str) (js : List (Nat × Str)) (hN : X.N.Nodup) (hiy : X.N[iy]? = some y) (hy : X.env.scope.names.lookup y = some .local) (hc : X.calm = true) (hi : PI X tg iter wi)
    (cp : Caps X scope js) (hcell : ∀ y ∈ scope.names, y.2 ≠ .cell) (hkind : scope.kind = .function)
    (hnames : ∀ y ∈ scope.names, y.2 = .local → scope.names.lookup y.1 = some .local)
    (hg : ∀ cl C s1 H1 fp, PG (cxD X scope cl C s1 H1 (ts ++ js.map (·.2)) fp) tg g)
    (hif : ∀ cl C s1 H1 fp, PIfs (cxD X scope cl C s1 H1 (ts ++ js.map (·.2)) fp) ifs tif) (he : ∀ cl C s1 H1 fp, PE (cxD X scope cl C s1 H1 (ts ++ js.map (·.2)) fp) elt te)
    (hsw : swapsWith (.ListComp elt [⟨tg, iter, ifs, 0⟩] scope pos) (some (.Name y py)) spos.line X.env = pure true := by rfl) (hs : ∀ x, foldedSetIterable iter X.env x = pure x := by intro _; rfl) :
    PS X (.Assign [.Name y py] (.ListComp elt [⟨tg, iter, ifs, 0⟩] scope pos) spos) (tAsg (tCompG wi ts js g tif te) (gName iy)) := by
  intro pins s σ H DD I h
  rw [exec_Assign_Name_used _ _ _ _ hsw]
  refine wpAny_bind (wpAny_standAt (wpAny_bind ?_))
  show wpAny _ _ (do let _ ← comprehension (.ListComp elt [⟨tg, iter, ifs, 0⟩] scope pos) scope X.env _ (newList []) false (eval iter X.env) (some (assign (.Name y py) X.env))) _ _ s
  obtain ⟨cl, hcl⟩ := clos_of (env := X.env) (scope := scope) fun y hy => I.ok.has y (.inl (cp.all y hy))
  refine wpAny_bind (wpAny_mono (wpAny_comprehension_free (use := some (assign (.Name y py) X.env)) (Q := fun _ s' => SP X pins DD .next s') rfl hs hcl.eq hkind hnames (thn (hi pins s σ H _ I h) fun v s1 h1 => thn h1 fun itv s2 h2 => ?_)) (fun _ s' hq => wpAny_pure (wpAny_pure hq)) fun _ _ e => e)
  obtain ⟨it, fp, tn, J, H2, e, I2, T, st2, f2, h2⟩ := h2
  subst e
  obtain ⟨W, ⟨m0, w0⟩, turn⟩ := h2 s2.heap.objs.size I2.fresh
  have hfl : ∀ b ∈ fp, b < s2.heap.objs.size := fun b hb => by obtain ⟨o, e, _⟩ := T.obj _ _ st2 b hb; exact Heap.lt_size e
  refine wpAny_newObj_type (wpAny_newFunctionEnv hcell (by intro y hy; simp at hy) (fun h₁ hns₁ hsb₁ => ?_) hkind)
  dsimp only at hns₁ hsb₁ ⊢
  generalize hH2 : s2.heap.push { cls := .type "list", dict := none, data := .seq ([] : List Value).toArray } = G2 at hns₁ hsb₁ ⊢
  have hCs : G2.objs.size = s2.heap.objs.size + 1 := by rw [← hH2, Heap.size_push]
  have hDC : s2.heap.objs.size ≠ G2.objs.size := by rw [hCs]; exact Nat.ne_of_lt (Nat.lt_succ_self _)
  have old : ∀ b o, s2.heap.get? b = some o → h₁.get? b = some o := fun b o e =>
    hsb₁.extBut b o (by rw [hCs]; exact Nat.ne_of_lt (Nat.lt_succ_of_lt (Heap.lt_size e))) (Heap.get?_push_of_some _ (hH2 ▸ Heap.get?_push_of_some _ e))
  have hacc : h₁.get? s2.heap.objs.size = some { cls := .type "list", data := .seq ([] : List Value).toArray 0 } := hsb₁.extBut _ _ hDC (Heap.get?_push_of_some _ (hH2 ▸ Heap.get?_push_size _ rfl))
  generalize hX2 : cxD X scope cl G2.objs.size s2 H2 (ts ++ js.map (·.2)) fp = X2
  have I4 : Inv X2 [] (capS ts js σ) (upd H2 s2.heap.objs.size (.lst [])) { s2 with heap := h₁, toks := s2.toks + ([] : List (Str × Value)).length } := by
    rw [← hX2]
    exact inv_compG I2 f2 hfl hkind hcell cp hcl (by rw [hCs]; exact Nat.lt_succ_self _) rfl rfl old hns₁ hacc
  have x1 : X2.prog = X.prog := by rw [← hX2]; rfl
  have x2 : X2.w = X.w := by rw [← hX2]; rfl
  have x3 : X2.K = X.K := by rw [← hX2]; rfl
  have x4 : X2.calm = true := by rw [← hX2]; exact hc
  have x5 : X2.A = X.A := by rw [← hX2]; rfl
  have x6 : X2.env = compEnvC scope cl G2.objs.size X.env := by rw [← hX2]; rfl
  have x7 : X2.xe = fun _ _ => False := by rw [← hX2]; rfl
  have hg' : PG X2 tg g := by rw [← hX2]; exact hg _ _ _ _ _
  have hif' : PIfs X2 ifs tif := by rw [← hX2]; exact hif _ _ _ _ _
  have he' : PE X2 elt te := by rw [← hX2]; exact he _ _ _ _ _
  have st4 : tn 0 h₁ := T.keep _ _ _ st2 fun b _ o e => old b o e
  have stat : ∀ {H' : Hp} {pins' : List (Addr × Obj)}, (∀ b ∈ fp, H' b = none) → (∀ p ∈ pins', p.1 ∉ fp) → ∀ b ∈ fp, FpOk X2 pins' H' b := fun {H' pins'} hn hp b hb => by
    have o4 := I4.ok
    subst hX2
    exact ⟨hn b hb, (o4.exf b hb).1, o4.exfs b hb, .inl hb, (o4.exf b hb).2, fun p hp' => by
      have hp2 : p ∈ ([] : List (Addr × Obj)) ++ pins' := hp'
      rw [List.nil_append] at hp2
      intro z; exact hp p hp2 (by rw [z]; exact hb)⟩
  have fin : ∀ {s' : Shared} {σ' : St} {H' : Hp}, Inv X2 [] σ' H' s' → DD.nx (σ.set iy (some (.ref s2.heap.objs.size))) H' →
      compPost (model X.prog X.w) X.A X.xe (some (assign (.Name y py) X.env)) (fun _ s' => SP X pins DD .next s') (.ref s2.heap.objs.size) G2.objs.size (.ok .next) s' := fun {s' σ' H'} J' q => by
    subst hX2
    obtain ⟨m', hn', _⟩ := J'.loc
    have I5 : Inv X pins σ H' s' := I2.call' (s' := s') J'.os J'.base J'.hok J'.bare fun b hb => by
      obtain ⟨_, f1, _, f3, f4, f5⟩ := f2 b hb
      exact ⟨f3, f1, f4, f5⟩
    obtain ⟨f0, f1, _, f3, f4, f5⟩ := I2.fpOk (H' := H') (b := G2.objs.size) (by rw [hCs]; exact Nat.le_succ _) J'.free
    show wpAny _ _ (assign (.Name y py) X.env (.ref s2.heap.objs.size)) _ _ s'
    refine wpAny_assign_Name (store_ok2 I5 hN hiy (.inl hy) (v := .ref s2.heap.objs.size) rfl (fun s'' I6 ⟨a, sb, ha⟩ => ?_) (.inr hy))
    have nCa : G2.objs.size ≠ a := by
      rcases ha with ha | ha
      · rw [ha]; exact f1
      · exact (f4 _ _ ha).symm
    refine ⟨m', hn'.sameBut sb nCa, fun h' hs' => ?_⟩
    exact ⟨_, H', I6.turned (t' := s''.toks) (fun b o hb e => (hs'.2 b hb).trans e) f0 f1 f3 f4 f5, q⟩
  have loop : ∀ s₃ : Shared, s₃ = { s2 with heap := h₁, toks := s2.toks + ([] : List (Str × Value)).length } →
      codeAny (model X.prog X.w) X.A (.compLoop (.ListComp elt [⟨tg, iter, ifs, 0⟩] scope pos) 0 (.ref it) (.ref s2.heap.objs.size) (compEnvC scope cl G2.objs.size X.env))
        (compPost (model X.prog X.w) X.A X.xe (some (assign (.Name y py) X.env)) (fun _ s' => SP X pins DD .next s') (.ref s2.heap.objs.size) G2.objs.size) s₃ := by
    rintro s₃ rfl
    subst hX2
    refine compLoop_go (fun n s' => ∃ i ys σ' H', Inv (cxD X scope cl G2.objs.size s2 H2 (ts ++ js.map (·.2)) fp) [] σ' H' s' ∧ tn i s'.heap ∧ (∀ b ∈ fp, H' b = none) ∧ W i n ys σ' H') ?_ m0
      ⟨0, [], _, _, I4, st4, fun b hb => by rw [upd_ne (Nat.ne_of_lt (hfl b hb))]; exact (f2 b hb).1, w0⟩
    rintro n s' ⟨i, ys, σ0, H', J', st', fr', w'⟩
    rcases turn i n ys σ0 H' w' with ⟨stop, q⟩ | ⟨go, m', hm, step⟩
    · refine wpAny_mono (T.done (cxD X scope cl G2.objs.size s2 H2 (ts ++ js.map (·.2)) fp) rfl rfl rfl hc i [] s' _ H' (fun _ _ => False) J' (stat fr' (by simp)) st' stop) (fun r s4 ⟨hr, J4⟩ => ?_) fun _ _ z => z
      subst hr
      exact fin J4 q
    · refine wpAny_mono (T.item (cxD X scope cl G2.objs.size s2 H2 (ts ++ js.map (·.2)) fp) rfl rfl rfl hc i [] s' _ H' (fun _ _ => False) J' (stat fr' (by simp)) st' go) (fun r s4 ⟨u, hr, h4⟩ => ?_) fun _ _ z => z
      subst hr
      refine wpAny_mono h4 (fun _ s5 ⟨xv, H5, J5, r5, y5, st5, fr5⟩ => ?_) fun _ _ z => z
      have J5' := J5.pinned (stat fr5 (by simp)) (T.obj _ _ st5)
      have back : ∀ {s7 : Shared} {σ7 : St} {H7 : Hp}, Inv (cxD X scope cl G2.objs.size s2 H2 (ts ++ js.map (·.2)) fp) ([] ++ pinsAt fp s5.heap) σ7 H7 s7 → Inv (cxD X scope cl G2.objs.size s2 H2 (ts ++ js.map (·.2)) fp) [] σ7 H7 s7 ∧ tn (i + 1) s7.heap ∧ ∀ b ∈ fp, H7 b = none := fun {s7 σ7 H7} J7 => by
        refine ⟨J7.unpinned, T.keep _ _ _ st5 fun b hb o e => (J7.pin (b, o) (List.mem_append_right _ (List.mem_append_right _ (mem_pinsAt hb e)))).1, fun b hb => ?_⟩
        obtain ⟨o, e, d⟩ := T.obj _ _ st5 b hb
        exact (J7.pin (b, o) (List.mem_append_right _ (List.mem_append_right _ (mem_pinsAt hb e)))).2.1
      show wpAny _ _ (assign tg (cxD X scope cl G2.objs.size s2 H2 (ts ++ js.map (·.2)) fp).env u) _ _ s5
      refine wpAny_mono (hg' _ s5 _ H5 xv u _ J5' r5 (step xv H5 y5)) (fun _ s6 ⟨σ6, H6, J6, q6⟩ => ?_) fun _ _ z => z
      refine wpAny_mono (hif' _ s6 _ H6 _ J6 q6) (fun b s7 ⟨H7, J7, q7⟩ => ?_) fun _ _ z => z
      cases b with
      | false =>
        rw [if_neg Bool.false_ne_true] at q7 ⊢
        obtain ⟨J8, st8, fr8⟩ := back J7
        exact ⟨m', hm, i + 1, ys, σ6, H7, J8, st8, fr8, q7⟩
      | true =>
        rw [if_pos rfl] at q7 ⊢
        refine wpAny_mono (he' _ s7 _ H7 _ J7 q7) (fun yv s8 ⟨y, H8, J8, r8, hD8, hz8, w8⟩ => ?_) fun _ _ z => z
        refine wpAny_mono (mt_append (X := cxD X scope cl G2.objs.size s2 H2 (ts ++ js.map (·.2)) fp) _ s8 _ H8 (.ref s2.heap.objs.size) [y] (.ref s2.heap.objs.size) [yv] (fun v H' => W (i + 1) m' (ys ++ [y]) σ6 H') J8 rfl (.cons r8 .nil) ⟨s2.heap.objs.size, ys, y, rfl, rfl, hD8, hz8, w8⟩)
          (fun _ s9 ⟨_, H9, J9, _, w9⟩ => ?_) fun _ _ z => z
        obtain ⟨J10, st10, fr10⟩ := back J9
        exact ⟨m', hm, i + 1, ys ++ [y], σ6, H9, J10, st10, fr10, w9⟩
  exact codeAny_compStart_list (loop _ rfl) (T.self _ _ _ _ _ st4 (loop _ rfl))
end L2
namespace L2
open PySem PySem.Spec PyProof.Rows
section
variable {prog : Program} {w : World} {A : Around} {E : Value → Shared → Prop} {s : Shared}
end
end L2
namespace L2
open PySem PySem.Spec PyProof.Rows
end L2
namespace L2
open PySem PySem.Spec PyProof.Rows
end L2
namespace L2
open PySem PySem.Spec PyProof.Rows
end L2
namespace L2
open PySem
theorem op_in_seqK {X : Cx} (K : PySem.W.Frag) (hK : X.K = K := by rfl) : OpR X (compareOp .In) (rIn K false) := by
  subst hK
  exact op_in_seq
theorem op_ne_nil {X : Cx} (hu : X.A.units < cLine) : OpR X (compareOp .NotEq) (fun x y H Q => ∃ a b xs, x = .ref a ∧ y = .ref b ∧ SqL X.K H a xs ∧ SqL X.K H b [] ∧ Q (.bl (!xs.isEmpty)) H) := by
  intro pins s σ H x y v u Q I rx ry h
  obtain ⟨a, b, xs, rfl, rfl, ha, hb, q⟩ := h
  cases rx
  cases ry
  obtain ⟨its, r, pl, hz⟩ := I.list ha
  obtain ⟨its2, r2, pl2, hz2⟩ := I.list hb
  have e2 : its2 = [] := Vals.zero r2
  subst e2
  have hlen := r.length
  cases xs with
  | nil =>
    have e : its = [] := Vals.zero r
    subst e
    exact SeqAt.RcNeAt.lists (e := fun _ => true) pl.isList pl2.isList rfl hu (fun j h1 _ => absurd h1 (by simp)) X.prog X.w X.xe _ ⟨.bl false, H, I, rfl, q⟩
  | cons y ys =>
    refine SeqAt.RcNeAt.lists_lengths pl.isList pl2.isList ?_ hu X.prog X.w X.xe _ ⟨.bl true, H, I, rfl, q⟩
    rw [List.size_toArray, List.size_toArray, ← hlen]
    simp
end L2
namespace L2
open PySem PySem.Spec PyProof.Rows
def DEq (K : PySem.W.Frag) (H : Hp) : Nat → V → V → Prop
  | 0, x, y => x = y ∧ PlainV x
  | n + 1, x, y => (x = y ∧ PlainV x) ∨ ∃ a b xs ys, x = .ref a ∧ y = .ref b ∧ ((SqL K H a xs ∧ SqL K H b ys) ∨ (SqT K H a xs ∧ SqT K H b ys)) ∧ Paired (DEq K H n) xs ys
theorem DEq.self {K : PySem.W.Frag} {H : Hp} {x : V} (h : PlainV x) : ∀ n, DEq K H n x x
  | 0 => ⟨rfl, h⟩
  | _ + 1 => .inl ⟨rfl, h⟩
end L2
namespace L2
open PySem PySem.Spec PyProof.Rows
theorem lt_trans : ∀ a b c : List Nat, ltCps b a = false → ltCps c b = false → ltCps c a = false
  | [], b, [], _, _ => ltCps.eq_1
  | [], b, _ :: _, _, _ => ltCps.eq_3 _ _
  | x :: r, [], c, h, _ => by rw [ltCps.eq_2] at h; cases h
  | x :: r, y :: t, [], _, k => by rw [ltCps.eq_2] at k; cases k
  | x :: r, y :: t, z :: u, h, k => by
    rw [ltCps.eq_4, Bool.or_eq_false_iff, decide_eq_false_iff_not] at h k ⊢
    refine ⟨by omega, ?_⟩
    by_cases e : z = x
    · have e1 : y = x := by omega
      subst e; subst e1
      have h2 := h.2
      have k2 := k.2
      rw [beq_self_eq_true, Bool.true_and] at h2 k2 ⊢
      exact lt_trans r t u h2 k2
    · rw [beq_eq_false_iff_ne.mpr e, Bool.false_and]
end L2
namespace L2
open PySem PySem.Spec PyProof.Rows
section
variable {prog : Program} {w : World} {A : Around} {E : Value → Shared → Prop} {s : Shared}
abbrev IsZip2 (h : Heap) (z : Addr) (f0 f1 : Value) (TI TO : Addr) : Prop := h.get? z = some { cls := .type "zip", data := .fields #[f0, f1, .bool false, .ref TI, .ref TO] }
theorem wpAny_alive {M : Model} {a : Addr} {Q : Option Obj → Shared → Prop} (h : Q (s.heap.get? a) s) : wpAny M A (loadIfAlive a) Q E s := by
  intro Γ p _
  show Sem.wp M Γ (Sem.loadIfAlive a Sem.pure) _ _ p s
  rw [Sem.wp_loadIfAlive]
  exact h
theorem zipT_item {z TI TO i1 i2 l1 l2 : Addr} {i : Nat} {xs ys : Array Value} {x y a b f0 f1 : Value} {Q : Option Value → Shared → Prop} (ap : ZipApart z TI TO i1 i2 l1 l2) (hz : IsZip2 s.heap z f0 f1 TI TO) (hI : IsPair s.heap TI (.ref i1) (.ref i2)) (hO : IsPair s.heap TO a b)
    (h1 : s.heap.IsTupleIter i1 l1 i) (h2 : s.heap.IsTupleIter i2 l2 i) (t1 : s.heap.IsTuple l1 xs) (t2 : s.heap.IsTuple l2 ys) (hx : xs[i]? = some x) (hy : ys[i]? = some y) (hf : f0 = .none ∨ ∃ T : Nat, f0 = rawInt T)
    (hQ : ∀ h' f0' f1' a' b', IsZip2 h' z f0' f1' TI TO → (f0' = .none ∨ ∃ T : Nat, f0' = rawInt T) → IsPair h' TO a' b' → h'.IsTupleIter i1 l1 (i + 1) → h'.IsTupleIter i2 l2 (i + 1) → IsPair h' s.heap.objs.size x y →
      (∀ c o, c ≠ z → c ≠ TO → c ≠ i1 → c ≠ i2 → s.heap.get? c = some o → h'.get? c = some o) → Q (some (.ref s.heap.objs.size)) { s with heap := h' }) :
    wpAny (model prog w) A (pyNext (.ref z)) Q E s := by
  have hT : s.TypeIs (.ref z) "zip" := ⟨_, hz, rfl⟩
  unfold pyNext
  refine wpAny_bind (wpAny_attempt (wpAny_callSpecial?_slot (name := Str.ofString "__next__") hT F.slot_zip_next (wpAny_call_entry F.slot_zip_next hT F.entry_zip_next ?_ (F.args_zip_next_1 _))))
  obtain ⟨hp, g, d, tk, os⟩ := s
  show wpAny _ _ (field (.ref z) 2 >>= fun v => _) _ _ _
  refine wpAny_bind (wpAny_field hz rfl (x := .bool false) (by rfl) ?_)
  show wpAny _ _ (field (.ref z) 3 >>= fun v => _) _ _ _
  refine wpAny_bind (wpAny_field hz rfl (x := .ref TI) (by rfl) (wpAny_bind (wpAny_seqItems hI rfl ?_)))
  show wpAny _ _ (Builtin.SmallTypes.ownedTupleIsFree (.ref z) >>= fun v => _) _ _ _
  have free : ∀ (Q' : Bool → Shared → Prop) E', Q' true ⟨hp, g, d, tk, os⟩ → (∀ h', IsZip2 h' z f0 (.bool true) TI TO → Heap.SameBut z hp h' → Q' false ⟨h', g, d, tk, os⟩) → wpAny (model prog w) A.in1 (Builtin.SmallTypes.ownedTupleIsFree (.ref z)) Q' E' ⟨hp, g, d, tk, os⟩ := by
    intro Q' E' q1 q2
    unfold Builtin.SmallTypes.ownedTupleIsFree
    refine wpAny_bind (wpAny_field hz rfl (x := f0) (by rfl) ?_)
    rcases hf with rfl | ⟨T, rfl⟩
    · exact wpAny_pure q1
    · show wpAny _ _ (loadIfAlive (T : Int).toNat >>= fun v => _) _ _ _
      refine wpAny_bind (wpAny_alive ?_)
      by_cases c : (hp.get? (T : Int).toNat).isNone = true
      · show wpAny _ _ (if (hp.get? (T : Int).toNat).isNone = true then _ else _) _ _ _
        rw [if_pos c]
        exact wpAny_pure q1
      · show wpAny _ _ (if (hp.get? (T : Int).toNat).isNone = true then _ else _) _ _ _
        rw [if_neg c]
        refine wpAny_bind (wpAny_field hz rfl (x := f1) (by rfl) ?_)
        by_cases c2 : f1 = .bool true
        · subst c2
          show wpAny _ _ (if (Value.bool true != Value.bool true) = true then _ else _) _ _ _
          rw [if_neg (by simp)]
          exact wpAny_pure (q2 hp hz ⟨rfl, fun _ _ => rfl⟩)
        · show wpAny _ _ (if (f1 != Value.bool true) = true then _ else _) _ _ _
          rw [if_pos (by simpa using c2)]
          exact wpAny_bind (wpAny_setField_rec hz (by simp) fun h' f' k' => wpAny_pure (q2 h' f' k'))
  refine wpAny_bind (free _ _ ?_ fun h' hz' sb => ?_)
  · show wpAny _ _ (rule _ >>= fun _ => _) _ _ _
    refine wpAny_bind (wpAny_rule (wpAny_bind (wpAny_field hz rfl (x := .ref TO) (by rfl) ?_)))
    show wpAny _ _ (setField (.ref z) 0 .ellipsis >>= fun _ => _) _ _ _
    refine wpAny_bind (wpAny_setField_rec hz (by simp) fun h₁ f₁ k₁ => ?_)
    replace k₁ : Heap.SameBut z hp h₁ := k₁
    have hz₁ : IsZip2 h₁ z .ellipsis f1 TI TO := f₁
    have hO₁ : IsPair h₁ TO a b := k₁.extBut _ _ ap.TOz hO
    have a₁ : h₁.IsTupleIter i1 l1 i := h1.at fun o q => k₁.extBut i1 o ap.i1z q
    have b₁ : h₁.IsTupleIter i2 l2 i := h2.at fun o q => k₁.extBut i2 o ap.i2z q
    have c₁ : h₁.IsTuple l1 xs := t1.extBut k₁.extBut ap.l1z
    have d₁ : h₁.IsTuple l2 ys := t2.extBut k₁.extBut ap.l2z
    refine wpAny_bind ?_
    show wpAny _ _ (forIn [(Value.ref i1, 0), (Value.ref i2, 1)] (none, ()) _) _ _ ⟨h₁, g, d, tk, os⟩
    rw [List.forIn_cons]
    refine wpAny_bind (wpAny_bind (wpAny_onRaise ?_))
    show wpAny _ _ (Builtin.SmallTypes.nextOf (.ref i1) >>= fun v => pure (some v)) _ _ _
    refine wpAny_bind (nextOf_tup a₁ c₁ hx fun h₂ a₂ k₂ => wpAny_pure ?_)
    replace k₂ : Heap.SameBut i1 h₁ h₂ := k₂
    have hz₂ : IsZip2 h₂ z .ellipsis f1 TI TO := k₂.extBut _ _ (Ne.symm ap.i1z) hz₁
    have hO₂ : IsPair h₂ TO a b := k₂.extBut _ _ ap.TOi1 hO₁
    have b₂ : h₂.IsTupleIter i2 l2 i := b₁.at fun o q => k₂.extBut i2 o (Ne.symm ap.i12) q
    have d₂ : h₂.IsTuple l2 ys := d₁.extBut k₂.extBut ap.l2i1
    show wpAny _ _ (seqItems? (.ref TO) >>= fun v => _) _ _ ⟨h₂, g, d, tk, os⟩
    refine wpAny_bind (wpAny_seqItems hO₂ rfl ?_)
    show wpAny _ _ (updateSeq TO (fun x_1 => x_1.setIfInBounds 0 x) >>= fun _ => _) _ _ _
    refine wpAny_bind (wpAny_updateSeq_pair hO₂ fun h₃ f₃ k₃ => wpAny_bind (wpAny_letGo (wpAny_pure ?_)))
    replace k₃ : Heap.SameBut TO h₂ h₃ := k₃
    have hO₃ : IsPair h₃ TO x b := f₃
    have hz₃ : IsZip2 h₃ z .ellipsis f1 TI TO := k₃.extBut _ _ (Ne.symm ap.TOz) hz₂
    have a₃ : h₃.IsTupleIter i1 l1 (i + 1) := a₂.at fun o q => k₃.extBut i1 o (Ne.symm ap.TOi1) q
    have b₃ : h₃.IsTupleIter i2 l2 i := b₂.at fun o q => k₃.extBut i2 o (Ne.symm ap.TOi2) q
    have d₃ : h₃.IsTuple l2 ys := d₂.extBut k₃.extBut ap.l2TO
    show wpAny _ _ (forIn [(Value.ref i2, 1)] (none, ()) _) _ _ ⟨h₃, g, d, tk, os⟩
    rw [List.forIn_cons]
    refine wpAny_bind (wpAny_bind (wpAny_onRaise ?_))
    show wpAny _ _ (Builtin.SmallTypes.nextOf (.ref i2) >>= fun v => pure (some v)) _ _ _
    refine wpAny_bind (nextOf_tup b₃ d₃ hy fun h₄ b₄ k₄ => wpAny_pure ?_)
    replace k₄ : Heap.SameBut i2 h₃ h₄ := k₄
    have hz₄ : IsZip2 h₄ z .ellipsis f1 TI TO := k₄.extBut _ _ (Ne.symm ap.i2z) hz₃
    have hO₄ : IsPair h₄ TO x b := k₄.extBut _ _ ap.TOi2 hO₃
    have a₄ : h₄.IsTupleIter i1 l1 (i + 1) := a₃.at fun o q => k₄.extBut i1 o ap.i12 q
    show wpAny _ _ (seqItems? (.ref TO) >>= fun v => _) _ _ ⟨h₄, g, d, tk, os⟩
    refine wpAny_bind (wpAny_seqItems hO₄ rfl ?_)
    show wpAny _ _ (updateSeq TO (fun x_1 => x_1.setIfInBounds 1 y) >>= fun _ => _) _ _ _
    refine wpAny_bind (wpAny_updateSeq_pair hO₄ fun h₅ f₅ k₅ => wpAny_bind (wpAny_letGo (wpAny_pure ?_)))
    replace k₅ : Heap.SameBut TO h₄ h₅ := k₅
    have hO₅ : IsPair h₅ TO x y := f₅
    have hz₅ : IsZip2 h₅ z .ellipsis f1 TI TO := k₅.extBut _ _ (Ne.symm ap.TOz) hz₄
    have a₅ : h₅.IsTupleIter i1 l1 (i + 1) := a₄.at fun o q => k₅.extBut i1 o (Ne.symm ap.TOi1) q
    have b₅ : h₅.IsTupleIter i2 l2 (i + 1) := b₄.at fun o q => k₅.extBut i2 o (Ne.symm ap.TOi2) q
    show wpAny _ _ (pure (none, ())) _ _ ⟨h₅, g, d, tk, os⟩
    refine wpAny_pure ?_
    show wpAny _ _ (seqItems? (.ref TO) >>= fun v => _) _ _ ⟨h₅, g, d, tk, os⟩
    refine wpAny_bind (wpAny_seqItems hO₅ rfl ?_)
    show wpAny _ _ (newTuple [x, y] >>= fun v => _) _ _ ⟨h₅, g, d, tk, os⟩
    have hsz : h₅.objs.size = hp.objs.size := by rw [k₅.1, k₄.1, k₃.1, k₂.1, k₁.1]
    refine wpAny_bind (wpAny_newTuple ?_)
    rw [hsz]
    have up : ∀ {c o}, h₅.get? c = some o → (h₅.push { cls := .type "tuple", data := .seq #[x, y] }).get? c = some o := fun q => Heap.get?_push_of_some _ q
    have hN : IsPair (h₅.push { cls := .type "tuple", data := .seq #[x, y] }) hp.objs.size x y := by
      show _ = _
      rw [← hsz]; exact Heap.get?_push_size _ rfl
    have hz₆ := up hz₅
    have hO₆ := up hO₅
    have a₆ := a₅.at fun o q => up q
    have b₆ := b₅.at fun o q => up q
    have kk : ∀ c o, c ≠ z → c ≠ TO → c ≠ i1 → c ≠ i2 → hp.get? c = some o → (h₅.push { cls := .type "tuple", data := .seq #[x, y] }).get? c = some o := fun c o n1 n2 n3 n4 q => up (k₅.extBut c o n2 (k₄.extBut c o n4 (k₃.extBut c o n2 (k₂.extBut c o n3 (k₁.extBut c o n1 q)))))
    have hzl : z < hp.objs.size := Heap.lt_size hz
    have hOl : TO < hp.objs.size := Heap.lt_size hO
    generalize h₅.push { cls := .type "tuple", data := .seq #[x, y] } = h₆ at hN hz₆ hO₆ a₆ b₆ kk
    refine wpAny_bind (by
      unfold Builtin.SmallTypes.ownedTupleHandOut
      refine wpAny_bind (wpAny_setField_rec hz₆ (by simp) fun h₇ f₇ k₇ => ?_)
      have hz₇ : IsZip2 h₇ z (rawInt (hp.objs.size : Int)) f1 TI TO := f₇
      replace k₇ : Heap.SameBut z h₆ h₇ := k₇
      refine wpAny_setField_rec hz₇ (by simp) fun h₈ f₈ k₈ => ?_
      have hz₈ : IsZip2 h₈ z (rawInt (hp.objs.size : Int)) (.bool false) TI TO := f₈
      replace k₈ : Heap.SameBut z h₇ h₈ := k₈
      have up2 : ∀ c o, c ≠ z → h₆.get? c = some o → h₈.get? c = some o := fun c o n q => k₈.extBut c o n (k₇.extBut c o n q)
      exact wpAny_pure ⟨_, rfl, wpAny_pure (hQ h₈ _ _ _ _ hz₈ (.inr ⟨hp.objs.size, rfl⟩) (up2 _ _ ap.TOz hO₆) (a₆.at fun o q => up2 _ _ ap.i1z q) (b₆.at fun o q => up2 _ _ ap.i2z q) (up2 _ _ (Nat.ne_of_gt hzl) hN) fun c o n1 n2 n3 n4 q => up2 c o n1 (kk c o n1 n2 n3 n4 q))⟩)
  · replace sb : Heap.SameBut z hp h' := sb
    have a₁ : h'.IsTupleIter i1 l1 i := h1.at fun o q => sb.extBut i1 o ap.i1z q
    have b₁ : h'.IsTupleIter i2 l2 i := h2.at fun o q => sb.extBut i2 o ap.i2z q
    have c₁ : h'.IsTuple l1 xs := t1.extBut sb.extBut ap.l1z
    have d₁ : h'.IsTuple l2 ys := t2.extBut sb.extBut ap.l2z
    have hO₁ : IsPair h' TO a b := sb.extBut _ _ ap.TOz hO
    show wpAny _ _ (forIn #[Value.ref i1, Value.ref i2] (none, #[]) _ >>= fun v => _) _ _ ⟨h', g, d, tk, os⟩
    refine wpAny_bind ?_
    rw [show (#[Value.ref i1, Value.ref i2] : Array Value) = [Value.ref i1, Value.ref i2].toArray from rfl, List.forIn_toArray, List.forIn_cons]
    refine wpAny_bind (wpAny_bind (wpAny_holding ?_))
    show wpAny _ _ (Builtin.SmallTypes.nextOf (.ref i1) >>= fun v => pure (some v)) _ _ _
    refine wpAny_bind (nextOf_tup a₁ c₁ hx fun h₂ a₂ k₂ => wpAny_pure (wpAny_pure ?_))
    replace k₂ : Heap.SameBut i1 h' h₂ := k₂
    have hz₂ : IsZip2 h₂ z f0 (.bool true) TI TO := k₂.extBut _ _ (Ne.symm ap.i1z) hz'
    have hO₂ : IsPair h₂ TO a b := k₂.extBut _ _ ap.TOi1 hO₁
    have b₂ : h₂.IsTupleIter i2 l2 i := b₁.at fun o q => k₂.extBut i2 o (Ne.symm ap.i12) q
    have d₂ : h₂.IsTuple l2 ys := d₁.extBut k₂.extBut ap.l2i1
    show wpAny _ _ (forIn [Value.ref i2] (none, #[x]) _) _ _ ⟨h₂, g, d, tk, os⟩
    rw [List.forIn_cons]
    refine wpAny_bind (wpAny_bind (wpAny_holding ?_))
    show wpAny _ _ (Builtin.SmallTypes.nextOf (.ref i2) >>= fun v => pure (some v)) _ _ _
    refine wpAny_bind (nextOf_tup b₂ d₂ hy fun h₄ b₄ k₄ => wpAny_pure (wpAny_pure ?_))
    replace k₄ : Heap.SameBut i2 h₂ h₄ := k₄
    have hz₄ : IsZip2 h₄ z f0 (.bool true) TI TO := k₄.extBut _ _ (Ne.symm ap.i2z) hz₂
    have hO₄ : IsPair h₄ TO a b := k₄.extBut _ _ ap.TOi2 hO₂
    have a₄ : h₄.IsTupleIter i1 l1 (i + 1) := a₂.at fun o q => k₄.extBut i1 o ap.i12 q
    show wpAny _ _ (pure (none, #[x, y])) _ _ ⟨h₄, g, d, tk, os⟩
    refine wpAny_pure ?_
    show wpAny _ _ (newTuple [x, y] >>= fun v => _) _ _ ⟨h₄, g, d, tk, os⟩
    have hsz : h₄.objs.size = hp.objs.size := by rw [k₄.1, k₂.1, sb.1]
    refine wpAny_bind (wpAny_newTuple ?_)
    rw [hsz]
    have up : ∀ {c o}, h₄.get? c = some o → (h₄.push { cls := .type "tuple", data := .seq #[x, y] }).get? c = some o := fun q => Heap.get?_push_of_some _ q
    have hN : IsPair (h₄.push { cls := .type "tuple", data := .seq #[x, y] }) hp.objs.size x y := by
      show _ = _
      rw [← hsz]; exact Heap.get?_push_size _ rfl
    exact wpAny_pure ⟨_, rfl, wpAny_pure (hQ _ _ _ _ _ (up hz₄) hf (up hO₄) (a₄.at fun o q => up q) (b₄.at fun o q => up q) hN fun c o n1 n2 n3 n4 q => up (k₄.extBut c o n4 (k₂.extBut c o n3 (sb.extBut c o n1 q))))⟩
theorem zipT_end {z TI TO i1 i2 l1 l2 : Addr} {i : Nat} {xs : Array Value} {f0 f1 : Value} {Q : Option Value → Shared → Prop} (hh : A.handled = none) (ap : ZipApart z TI TO i1 i2 l1 l2) (hz : IsZip2 s.heap z f0 f1 TI TO) (hI : IsPair s.heap TI (.ref i1) (.ref i2))
    (h1 : s.heap.IsTupleIter i1 l1 i) (t1 : s.heap.IsTuple l1 xs) (hx : xs[i]? = none) (hf : f0 = .none ∨ ∃ T : Nat, f0 = rawInt T)
    (hQ : ∀ h', (∀ c o, c ≠ z → c ≠ i1 → s.heap.get? c = some o → h'.get? c = some o) → Q none { s with heap := h' }) : wpAny (model prog w) A (pyNext (.ref z)) Q E s := by
  have hT : s.TypeIs (.ref z) "zip" := ⟨_, hz, rfl⟩
  unfold pyNext
  refine wpAny_bind (wpAny_attempt (wpAny_callSpecial?_slot (name := Str.ofString "__next__") hT F.slot_zip_next (wpAny_call_entry F.slot_zip_next hT F.entry_zip_next ?_ (F.args_zip_next_1 _))))
  obtain ⟨hp, g, d, tk, os⟩ := s
  show wpAny _ _ (field (.ref z) 2 >>= fun v => _) _ _ _
  refine wpAny_bind (wpAny_field hz rfl (x := .bool false) (by rfl) ?_)
  show wpAny _ _ (field (.ref z) 3 >>= fun v => _) _ _ _
  refine wpAny_bind (wpAny_field hz rfl (x := .ref TI) (by rfl) (wpAny_bind (wpAny_seqItems hI rfl ?_)))
  show wpAny _ _ (Builtin.SmallTypes.ownedTupleIsFree (.ref z) >>= fun v => _) _ _ _
  have free : ∀ (Q' : Bool → Shared → Prop) E', Q' true ⟨hp, g, d, tk, os⟩ → (∀ h', IsZip2 h' z f0 (.bool true) TI TO → Heap.SameBut z hp h' → Q' false ⟨h', g, d, tk, os⟩) → wpAny (model prog w) A.in1 (Builtin.SmallTypes.ownedTupleIsFree (.ref z)) Q' E' ⟨hp, g, d, tk, os⟩ := by
    intro Q' E' q1 q2
    unfold Builtin.SmallTypes.ownedTupleIsFree
    refine wpAny_bind (wpAny_field hz rfl (x := f0) (by rfl) ?_)
    rcases hf with rfl | ⟨T, rfl⟩
    · exact wpAny_pure q1
    · show wpAny _ _ (loadIfAlive (T : Int).toNat >>= fun v => _) _ _ _
      refine wpAny_bind (wpAny_alive ?_)
      by_cases c : (hp.get? (T : Int).toNat).isNone = true
      · show wpAny _ _ (if (hp.get? (T : Int).toNat).isNone = true then _ else _) _ _ _
        rw [if_pos c]
        exact wpAny_pure q1
      · show wpAny _ _ (if (hp.get? (T : Int).toNat).isNone = true then _ else _) _ _ _
        rw [if_neg c]
        refine wpAny_bind (wpAny_field hz rfl (x := f1) (by rfl) ?_)
        by_cases c2 : f1 = .bool true
        · subst c2
          show wpAny _ _ (if (Value.bool true != Value.bool true) = true then _ else _) _ _ _
          rw [if_neg (by simp)]
          exact wpAny_pure (q2 hp hz ⟨rfl, fun _ _ => rfl⟩)
        · show wpAny _ _ (if (f1 != Value.bool true) = true then _ else _) _ _ _
          rw [if_pos (by simpa using c2)]
          exact wpAny_bind (wpAny_setField_rec hz (by simp) fun h' f' k' => wpAny_pure (q2 h' f' k'))
  have stop : ∀ (h' : Heap) (e : Addr), (∀ c o, c ≠ z → c ≠ i1 → hp.get? c = some o → h'.get? c = some o) → (∃ o, h'.get? e = some o ∧ o.cls = .type "StopIteration") → wpAny (model prog w) A (match (Except.error (Value.ref e) : Except Value (Option Value)) with
      | Except.ok (some v) => pure (some v)
      | Except.ok none => unsupported "iter:the-iterator's-class-has-lost-its-__next__-amid-the-walk"
      | Except.error e => do
        if ← isInstance e (.type "StopIteration") then pure none else throw e) Q E ⟨h', g, d, tk, os⟩ := fun h' e kk hs => by
    obtain ⟨o, ho, hc⟩ := hs
    exact wpAny_bind (wpAny_isInstance (T := "StopIteration") (b := true) ⟨o, ho, hc⟩ isSubtype_stop (wpAny_pure (hQ h' kk)))
  refine wpAny_bind (free _ _ ?_ fun h' hz' sb => ?_)
  · show wpAny _ _ (rule _ >>= fun _ => _) _ _ _
    refine wpAny_bind (wpAny_rule (wpAny_bind (wpAny_field hz rfl (x := .ref TO) (by rfl) ?_)))
    show wpAny _ _ (setField (.ref z) 0 .ellipsis >>= fun _ => _) _ _ _
    refine wpAny_bind (wpAny_setField_rec hz (by simp) fun h₁ f₁ k₁ => ?_)
    replace k₁ : Heap.SameBut z hp h₁ := k₁
    have hz₁ : IsZip2 h₁ z .ellipsis f1 TI TO := f₁
    have a₁ : h₁.IsTupleIter i1 l1 i := h1.at fun o q => k₁.extBut i1 o ap.i1z q
    have c₁ : h₁.IsTuple l1 xs := t1.extBut k₁.extBut ap.l1z
    refine wpAny_bind ?_
    show wpAny _ _ (forIn [(Value.ref i1, 0), (Value.ref i2, 1)] (none, ()) _) _ _ ⟨h₁, g, d, tk, os⟩
    rw [List.forIn_cons]
    refine wpAny_bind (wpAny_bind (wpAny_onRaise ?_))
    show wpAny _ _ (Builtin.SmallTypes.nextOf (.ref i1) >>= fun v => pure (some v)) _ _ _
    refine wpAny_bind (nextOf_tup_end (show A.in1.handled = none from hh) a₁ c₁ hx fun h₂ e k₂ hs => ?_)
    replace k₂ : Heap.ExtBut i1 h₁ h₂ := k₂
    have hz₂ : IsZip2 h₂ z .ellipsis f1 TI TO := k₂ _ _ (Ne.symm ap.i1z) hz₁
    refine wpAny_setField_rec hz₂ (by simp) fun h₃ f₃ k₃ => ?_
    replace k₃ : Heap.SameBut z h₂ h₃ := k₃
    refine stop h₃ e (fun c o n1 n2 q => k₃.extBut c o n1 (k₂ c o n2 (k₁.extBut c o n1 q))) ?_
    obtain ⟨o, ho, hc⟩ := hs
    have ne : e ≠ z := fun y => by
      rw [y] at ho
      have := Option.some.inj (ho.symm.trans hz₂)
      rw [this] at hc
      exact absurd (show Value.type "zip" = Value.type "StopIteration" from hc) (by decide)
    exact ⟨o, k₃.extBut e o ne ho, hc⟩
  · replace sb : Heap.SameBut z hp h' := sb
    have a₁ : h'.IsTupleIter i1 l1 i := h1.at fun o q => sb.extBut i1 o ap.i1z q
    have c₁ : h'.IsTuple l1 xs := t1.extBut sb.extBut ap.l1z
    show wpAny _ _ (forIn #[Value.ref i1, Value.ref i2] (none, #[]) _ >>= fun v => _) _ _ ⟨h', g, d, tk, os⟩
    refine wpAny_bind ?_
    rw [show (#[Value.ref i1, Value.ref i2] : Array Value) = [Value.ref i1, Value.ref i2].toArray from rfl, List.forIn_toArray, List.forIn_cons]
    refine wpAny_bind (wpAny_bind (wpAny_holding ?_))
    show wpAny _ _ (Builtin.SmallTypes.nextOf (.ref i1) >>= fun v => pure (some v)) _ _ _
    refine wpAny_bind (nextOf_tup_end (show A.in1.handled = none from hh) a₁ c₁ hx fun h₂ e k₂ hs => ?_)
    replace k₂ : Heap.ExtBut i1 h' h₂ := k₂
    exact stop h₂ e (fun c o n1 n2 q => k₂ c o n2 (sb.extBut c o n1 q)) hs
end
end L2
namespace L2
open PySem PySem.Spec PyProof.Rows
def zT (h : Heap) (l1 l2 : Addr) : Heap :=
  ((((h.push { cls := .type "tuple_iterator", data := .fields #[.ref l1, .int 0 0] }).push { cls := .type "tuple_iterator", data := .fields #[.ref l2, .int 0 0] }).push
    { cls := .type "tuple", data := .seq #[.ref h.objs.size, .ref (h.objs.size + 1)] }).push { cls := .type "tuple", data := .seq #[.none, .none] }).push
    { cls := .type "zip", data := .fields #[.none, .bool false, .bool false, .ref (h.objs.size + 2), .ref (h.objs.size + 3)] }
theorem newClass_zip (a b : Value) : Builtin.SmallTypes.newClass "zip" ⟨[.type "zip", a, b], []⟩ = pure (.type "zip", [a, b]) := by
  unfold Builtin.SmallTypes.newClass
  show (isType (.type "zip") >>= fun v => _) = _
  have e : isType (.type "zip") = pure true := rfl
  rw [e]
  show (isSubtype (.type "zip") (.type "zip") >>= fun v => _) = _
  rw [sub_zip]
  rfl
theorem meets_zipT (l1 l2 : Addr) (xs ys : Array Value) : Meets (Builtin.«zip.__new__» ⟨[.type "zip", .ref l1, .ref l2], []⟩) fun _ R s =>
    s.heap.IsTuple l1 xs ∧ s.heap.IsTuple l2 ys ∧ R (.ok (.ret (.ref (s.heap.objs.size + 4)))) { s with heap := zT s.heap l1 l2 } := by
  refine Meets.of_wp fun prog w A R s h => ?_
  obtain ⟨t1, t2, q⟩ := h
  obtain ⟨hp, g, d, tk, os⟩ := s
  unfold Builtin.«zip.__new__»
  rw [newClass_zip]
  refine wpAny_bind (wpAny_pure ?_)
  show wpAny _ _ (Builtin.SmallTypes.iterAll [.ref l1, .ref l2] >>= fun v => _) _ _ _
  refine wpAny_bind (by
    unfold Builtin.SmallTypes.iterAll
    refine wpAny_bind ?_
    rw [List.forIn_cons]
    refine wpAny_bind (wpAny_bind (wpAny_holding (wpAny_pyIter_tuple t1 (wpAny_pure ?_))))
    show wpAny _ _ (forIn [Value.ref l2] #[Value.ref hp.objs.size] _) _ _ _
    rw [List.forIn_cons]
    refine wpAny_bind (wpAny_bind (wpAny_holding (wpAny_pyIter_tuple (t2.push _) (wpAny_pure ?_))))
    show wpAny _ _ (pure #[Value.ref hp.objs.size, Value.ref _]) _ _ _
    refine wpAny_pure (wpAny_pure ?_)
    show wpAny _ _ (newTuple [.ref hp.objs.size, .ref _] >>= fun v => _) _ _ _
    refine wpAny_bind (wpAny_newTuple ?_)
    show wpAny _ _ (newTuple [.none, .none] >>= fun v => _) _ _ _
    refine wpAny_bind (wpAny_newTuple ?_)
    show wpAny _ _ (newObj (.type "zip") (.fields #[.none, .bool false, .bool false, .ref _, .ref _]) >>= fun v => _) _ _ _
    refine wpAny_bind (wpAny_newObj_type ?_ (by size_fits))
    refine wpAny_pure ⟨_, rfl, ?_⟩
    simp only [Heap.size_push]
    exact q)
theorem call_zipT {prog : Program} {w : World} {A : Around} {E : Value → Shared → Prop} {s : Shared} {l1 l2 : Addr} {xs ys : Array Value} {Q : Value → Shared → Prop} (t1 : s.heap.IsTuple l1 xs) (t2 : s.heap.IsTuple l2 ys)
    (hQ : Q (.ref (s.heap.objs.size + 4)) { s with heap := zT s.heap l1 l2 }) : wpAny (model prog w) A (call (.type "zip") [.ref l1, .ref l2]) Q E s := by
  refine callType_new F.called_zip rfl (F.typeCall_zip_2 _ _) (F.newCall_zip_2 _ _) (fun obj => F.args_object_init_3 _ _ _) F.entry_zip_new (meets_zipT l1 l2 xs ys) ⟨t1, t2, ?_⟩
  refine ⟨?_, hQ⟩
  refine ⟨{ cls := .type "zip", data := .fields #[.none, .bool false, .bool false, .ref (s.heap.objs.size + 2), .ref (s.heap.objs.size + 3)] }, ?_, rfl⟩
  show (zT s.heap l1 l2).get? (s.heap.objs.size + 4) = _
  unfold zT
  have e : ((((s.heap.push { cls := .type "tuple_iterator", data := .fields #[.ref l1, .int 0 0] }).push { cls := .type "tuple_iterator", data := .fields #[.ref l2, .int 0 0] }).push
    { cls := .type "tuple", data := .seq #[.ref s.heap.objs.size, .ref (s.heap.objs.size + 1)] }).push { cls := .type "tuple", data := .seq #[.none, .none] }).objs.size = s.heap.objs.size + 4 := by simp only [Heap.size_push]
  rw [← e]
  exact Heap.get?_push_size _ rfl
end L2
namespace L2
open PySem PySem.Spec PyProof.Rows
structure ZSt (h : Heap) (z TI TO i1 i2 l1 l2 : Addr) (xs ys : Array Value) (i : Nat) : Prop where
  hz : ∃ f0 f1, IsZip2 h z f0 f1 TI TO ∧ (f0 = .none ∨ ∃ T : Nat, f0 = rawInt T)
  hI : IsPair h TI (.ref i1) (.ref i2)
  hO : ∃ a b, IsPair h TO a b
  h1 : h.IsTupleIter i1 l1 i
  h2 : h.IsTupleIter i2 l2 i
  t1 : h.IsTuple l1 xs
  t2 : h.IsTuple l2 ys
theorem tuple_at {h h' : Heap} {l : Addr} {xs : Array Value} (t : h.IsTuple l xs) (k : ∀ o, h.get? l = some o → h'.get? l = some o) : h'.IsTuple l xs := by
  obtain ⟨o, a, b, c⟩ := t
  exact ⟨o, k o a, b, c⟩
def AccOk (h : Heap) (N : Nat) (xs ys acc : Array Value) : Prop := ∃ Ts : List Nat, acc.toList = Ts.map Value.ref ∧ Ts.Pairwise (· < ·) ∧ ∀ (j T : Nat), Ts[j]? = some T → N ≤ T ∧ ∃ x y : Value, IsPair h T x y ∧ xs[j]? = some x ∧ ys[j]? = some y
theorem AccOk.keep {h h' : Heap} {N : Nat} {xs ys acc : Array Value} (a : AccOk h N xs ys acc) (k : ∀ (T : Nat) o, N ≤ T → h.get? T = some o → h'.get? T = some o) : AccOk h' N xs ys acc := by
  obtain ⟨Ts, e1, e2, e3⟩ := a
  refine ⟨Ts, e1, e2, fun j T hj => ?_⟩
  obtain ⟨l, x, y, p, q⟩ := e3 j T hj
  exact ⟨l, x, y, k T _ l p, q⟩
theorem AccOk.more {h : Heap} {N T0 : Nat} {xs ys acc : Array Value} {x y : Value} (a : AccOk h N xs ys acc) (lt : ∀ (Ts : List Nat), acc.toList = Ts.map Value.ref → ∀ T ∈ Ts, T < T0) (hN : N ≤ T0) (p : IsPair h T0 x y) (hx : xs[acc.size]? = some x) (hy : ys[acc.size]? = some y) : AccOk h N xs ys (acc.push (.ref T0)) := by
  obtain ⟨Ts, e1, e2, e3⟩ := a
  have el : Ts.length = acc.size := by
    have := congrArg List.length e1
    rw [List.length_map] at this
    rw [← this]; simp
  refine ⟨Ts ++ [T0], by rw [Array.toList_push, e1, List.map_append]; rfl, List.pairwise_append.mpr ⟨e2, by simp, fun T hT b hb => by rw [List.mem_singleton.mp hb]; exact lt Ts e1 T hT⟩, fun j T hj => ?_⟩
  by_cases c : j < Ts.length
  · rw [List.getElem?_append_left c] at hj
    exact e3 j T hj
  · rw [List.getElem?_append_right (by omega)] at hj
    have c2 : j - Ts.length = 0 := by
      have := (List.getElem?_eq_some_iff.mp hj).1
      simp at this
      omega
    rw [c2] at hj
    cases hj
    have : j = acc.size := by omega
    rw [this]
    exact ⟨hN, x, y, p, hx, hy⟩
theorem zip_loop {prog : Program} {w : World} {A : Around} {R : Result → Shared → Prop} {S z TI TO i1 i2 l1 l2 : Addr} {xs ys : Array Value} {res : Value} {N n : Nat} (hh : A.handled = none) (ap : ZipApart z TI TO i1 i2 l1 l2) (ex : xs.size = n) (ey : ys.size = n) (hn : n ≤ 1000000)
    (lz : z < N ∧ TI < N ∧ TO < N ∧ i1 < N ∧ i2 < N ∧ l1 < N ∧ l2 < N ∧ S < N) (nS : S ≠ z ∧ S ≠ TI ∧ S ≠ TO ∧ S ≠ i1 ∧ S ≠ i2 ∧ S ≠ l1 ∧ S ≠ l2) :
    ∀ (k i : Nat) (s : Shared) (acc : Array Value) (c : Nat), n - i = k → i ≤ n → N ≤ s.heap.objs.size → ZSt s.heap z TI TO i1 i2 l1 l2 xs ys i → s.heap.get? S = some { cls := .type "list", data := .seq acc c } → acc.size = i → AccOk s.heap N xs ys acc →
      (∀ (h' : Heap) (acc' : Array Value) (c' : Nat), (∀ b o, b ≠ S → b ≠ z → b ≠ TO → b ≠ i1 → b ≠ i2 → s.heap.get? b = some o → h'.get? b = some o) → h'.get? S = some { cls := .type "list", data := .seq acc' c' } → acc'.size = n → AccOk h' N xs ys acc' → R (.ok (.ret res)) { s with heap := h' }) →
      codeAny (model prog w) A (Code.builtin "list.extend.loop" ⟨[.ref S, .ref z, res], []⟩) R s := by
  have far : ∀ T : Nat, N ≤ T → T ≠ S ∧ T ≠ z ∧ T ≠ TO ∧ T ≠ i1 ∧ T ≠ i2 := fun T h => ⟨Nat.ne_of_gt (Nat.lt_of_lt_of_le lz.2.2.2.2.2.2.2 h), Nat.ne_of_gt (Nat.lt_of_lt_of_le lz.1 h), Nat.ne_of_gt (Nat.lt_of_lt_of_le lz.2.2.1 h), Nat.ne_of_gt (Nat.lt_of_lt_of_le lz.2.2.2.1 h), Nat.ne_of_gt (Nat.lt_of_lt_of_le lz.2.2.2.2.1 h)⟩
  intro k
  induction k with
  | zero =>
    intro i s acc c hk hi hN st hS ha hacc q
    have e : i = n := by omega
    subst e
    refine codeAny_builtin F.entry_extend_loop ?_
    rw [Around.under_plainId F.plain_extend_loop]
    show wpAny _ _ (pyNext (.ref z) >>= fun v => _) _ _ _
    obtain ⟨f0, f1, hz, hf⟩ := st.hz
    refine wpAny_bind (zipT_end (show A.in1.handled = none from hh) ap hz st.hI st.h1 st.t1 (by rw [Array.getElem?_eq_none (by omega)]) hf fun h' kk => ?_)
    refine wpAny_pure ?_
    exact q h' acc c (fun b o n1 n2 n3 n4 n5 hb => kk b o n2 n4 hb) (kk _ _ nS.1 nS.2.2.2.1 hS) ha (hacc.keep fun T o l hT => kk _ _ (far T l).2.1 (far T l).2.2.2.1 hT)
  | succ k ih =>
    intro i s acc c hk hi hN st hS ha hacc q
    refine codeAny_builtin F.entry_extend_loop ?_
    rw [Around.under_plainId F.plain_extend_loop]
    show wpAny _ _ (pyNext (.ref z) >>= fun v => _) _ _ _
    obtain ⟨f0, f1, hz, hf⟩ := st.hz
    obtain ⟨a, b, hO⟩ := st.hO
    obtain ⟨x0, hx⟩ : ∃ x0, xs[i]? = some x0 := ⟨xs[i]'(by omega), Array.getElem?_eq_getElem (by omega)⟩
    obtain ⟨y0, hy⟩ : ∃ y0, ys[i]? = some y0 := ⟨ys[i]'(by omega), Array.getElem?_eq_getElem (by omega)⟩
    refine wpAny_bind (zipT_item (A := A.in1) ap hz st.hI hO st.h1 st.h2 st.t1 st.t2 hx hy hf fun h' f0' f1' a' b' hz' hf' hO' h1' h2' hN' kk => ?_)
    show wpAny _ _ (updateSeq S (fun u => u.push (.ref s.heap.objs.size)) >>= fun _ => _) _ _ _
    have hS' : h'.get? S = some { cls := .type "list", data := .seq acc c } := kk _ _ nS.1 nS.2.2.1 nS.2.2.2.1 nS.2.2.2.2.1 hS
    have sz1 : acc.size ≤ sizeLine := fits (by omega)
    have sz2 : (acc.push (Value.ref s.heap.objs.size)).size ≤ sizeLine + 1 := by rw [Array.size_push]; omega
    refine wpAny_bind (wpAny_updateSeq hS' rfl ?_ sz1 sz2)
    refine wpAny_pure ⟨plainId_quiet F.plain_extend_loop _, ?_⟩
    have up : ∀ b o, b ≠ S → h'.get? b = some o → (h'.update S (Obj.mapSeq fun u => u.push (.ref s.heap.objs.size))).get? b = some o := fun b o nb hb => by
      rw [Heap.get?_update_other _ _ (Ne.symm nb)]; exact hb
    have lt : ∀ b o, s.heap.get? b = some o → b ≠ s.heap.objs.size := fun b o hb => Nat.ne_of_lt (Heap.lt_size hb)
    obtain ⟨c2, hSn⟩ : ∃ c2, (h'.update S (Obj.mapSeq fun u => u.push (.ref s.heap.objs.size))).get? S = some { cls := .type "list", data := .seq (acc.push (.ref s.heap.objs.size)) c2 } := ⟨_, Heap.get?_update_self _ hS' rfl⟩
    have hNn := up _ _ (far _ hN).1 hN'
    generalize h'.update S (Obj.mapSeq fun u => u.push (.ref s.heap.objs.size)) = h₂ at up hSn hNn
    have st₂ : ZSt h₂ z TI TO i1 i2 l1 l2 xs ys (i + 1) := ⟨⟨f0', f1', up _ _ nS.1.symm hz', hf'⟩, up _ _ nS.2.1.symm (kk _ _ ap.TIz ap.TITO ap.TIi1 ap.TIi2 st.hI), ⟨a', b', up _ _ nS.2.2.1.symm hO'⟩,
      h1'.at fun o q => up _ _ nS.2.2.2.1.symm q, h2'.at fun o q => up _ _ nS.2.2.2.2.1.symm q, tuple_at st.t1 fun o q => up _ _ nS.2.2.2.2.2.1.symm (kk _ _ ap.l1z ap.l1TO ap.l1i1 ap.l1i2 q), tuple_at st.t2 fun o q => up _ _ nS.2.2.2.2.2.2.symm (kk _ _ ap.l2z ap.l2TO ap.l2i1 ap.l2i2 q)⟩
    refine ih (i + 1) ⟨h₂, s.gens, s.drawn, s.toks, s.os⟩ (acc.push (.ref s.heap.objs.size)) c2 (by omega) (by omega) (Nat.le_trans hN (Nat.le_of_lt (Heap.lt_size hNn))) st₂ hSn (by rw [Array.size_push, ha]) ?_ fun h₃ acc' c' k₃ e₃ s₃ a₃ => ?_
    · have acc2 : AccOk h₂ N xs ys acc := hacc.keep fun T o l hT => up _ _ (far T l).1 (kk _ _ (far T l).2.1 (far T l).2.2.1 (far T l).2.2.2.1 (far T l).2.2.2.2 hT)
      refine acc2.more (fun Ts eT T hT => ?_) hN hNn (by rw [ha]; exact hx) (by rw [ha]; exact hy)
      obtain ⟨Ts', e1, _, e3⟩ := hacc
      have : Ts' = Ts := by
        have e := e1.symm.trans eT
        exact List.map_inj_right (fun _ _ z => by cases z; rfl) |>.mp e
      subst this
      obtain ⟨j, hj⟩ := List.getElem?_of_mem hT
      obtain ⟨_, x, y, p, _⟩ := e3 j T hj
      exact Heap.lt_size p
    · exact q h₃ acc' c' (fun b o n1 n2 n3 n4 n5 hb => k₃ b o n1 n2 n3 n4 n5 (up _ _ n1 (kk _ _ n2 n3 n4 n5 hb))) e₃ s₃ a₃
end L2
namespace L2
open PySem PySem.Spec PyProof.Rows
theorem ZSt.keep {h h' : Heap} {z TI TO i1 i2 l1 l2 : Addr} {xs ys : Array Value} {i : Nat} (st : ZSt h z TI TO i1 i2 l1 l2 xs ys i) (k : ∀ b o, h.get? b = some o → h'.get? b = some o) : ZSt h' z TI TO i1 i2 l1 l2 xs ys i := by
  obtain ⟨⟨f0, f1, a, b⟩, hI, ⟨c, d, hO⟩, h1, h2, t1, t2⟩ := st
  exact ⟨⟨f0, f1, k _ _ a, b⟩, k _ _ hI, ⟨c, d, k _ _ hO⟩, h1.at fun o q => k _ _ q, h2.at fun o q => k _ _ q, tuple_at t1 fun o q => k _ _ q, tuple_at t2 fun o q => k _ _ q⟩
theorem zip_no_len : typeLookup (.type "zip") (Str.ofString "__len__") = pure none := by kernel_rfl
theorem zip_no_hint : typeLookup (.type "zip") (Str.ofString "__length_hint__") = pure none := by kernel_rfl
theorem call_listZ {prog : Program} {w : World} {A : Around} {E : Value → Shared → Prop} {s : Shared} {z TI TO i1 i2 l1 l2 : Addr} {xs ys : Array Value} {n : Nat} {Q : Value → Shared → Prop} (hh : A.handled = none) (ap : ZipApart z TI TO i1 i2 l1 l2) (ex : xs.size = n) (ey : ys.size = n) (hn : n ≤ 1000000)
    (hz0 : IsZip2 s.heap z .none (.bool false) TI TO) (st : ZSt s.heap z TI TO i1 i2 l1 l2 xs ys 0) (lz : z < s.heap.objs.size ∧ TI < s.heap.objs.size ∧ TO < s.heap.objs.size ∧ i1 < s.heap.objs.size ∧ i2 < s.heap.objs.size ∧ l1 < s.heap.objs.size ∧ l2 < s.heap.objs.size)
    (hQ : ∀ (h' : Heap) (acc : Array Value) (c : Nat), (∀ b o, b ≠ z → b ≠ TO → b ≠ i1 → b ≠ i2 → s.heap.get? b = some o → h'.get? b = some o) → h'.get? s.heap.objs.size = some { cls := .type "list", data := .seq acc c } → acc.size = n → AccOk h' (s.heap.objs.size + 1) xs ys acc → Q (.ref s.heap.objs.size) { s with heap := h' }) :
    wpAny (model prog w) A (call (.type "list") [.ref z]) Q E s := by
  refine callType_codes (Q₁ := fun obj s₁ => obj = .ref s.heap.objs.size ∧ s₁ = { s with heap := s.heap.push { cls := .type "list", data := .seq #[] } }) F.called_list (F.typeCall_list_1 _) F.entry_list_init (code_list_new _ ⟨rfl, rfl⟩) ?_
  rintro obj s₁ ⟨rfl, rfl⟩
  refine ⟨⟨_, Heap.get?_push_size _ rfl, rfl⟩, F.args_list_init_2 _ _, ?_⟩
  have hS : (s.heap.push { cls := .type "list", data := .seq #[] }).get? s.heap.objs.size = some { cls := .type "list", data := .seq #[] } := Heap.get?_push_size _ rfl
  have up : ∀ b o, s.heap.get? b = some o → (s.heap.push { cls := .type "list", data := .seq #[] }).get? b = some o := fun b o q => Heap.get?_push_of_some _ q
  have lsz : s.heap.objs.size < (s.heap.push { cls := .type "list", data := .seq #[] }).objs.size := Heap.lt_size hS
  generalize s.heap.push { cls := .type "list", data := .seq #[] } = h₁ at hS up lsz
  show wpAny _ _ (Builtin.List.listItems (.ref s.heap.objs.size) >>= fun v => _) _ _ _
  refine wpAny_bind (by
    unfold Builtin.List.listItems
    refine wpAny_bind (wpAny_seqItems hS rfl (wpAny_pure ?_))
    show wpAny _ _ (updateSeq s.heap.objs.size (fun _ => #[]) >>= fun _ => _) _ _ _
    refine wpAny_bind (wpAny_updateSeq hS rfl ?_ (by decide) (by decide))
    refine wpAny_bind (wpAny_letGo ?_)
    have hS₂ : ∃ c2, (h₁.update s.heap.objs.size (Obj.mapSeq fun _ => #[])).get? s.heap.objs.size = some { cls := .type "list", data := .seq #[] c2 } := ⟨_, Heap.get?_update_self _ hS rfl⟩
    obtain ⟨c2, hS₂⟩ := hS₂
    have up₂ : ∀ b o, b ≠ s.heap.objs.size → h₁.get? b = some o → (h₁.update s.heap.objs.size (Obj.mapSeq fun _ => #[])).get? b = some o := fun b o nb q => by rw [Heap.get?_update_other _ _ (Ne.symm nb)]; exact q
    show wpAny _ _ (Builtin.List.listExtendWith (.ref s.heap.objs.size) (.ref z) .none) _ _ _
    generalize h₁.update s.heap.objs.size (Obj.mapSeq fun _ => #[]) = h₂ at hS₂ up₂
    have nz : z ≠ s.heap.objs.size := Nat.ne_of_lt lz.1
    have ko : ∀ b o, s.heap.get? b = some o → h₂.get? b = some o := fun b o q => up₂ _ _ (Nat.ne_of_lt (Heap.lt_size q)) (up _ _ q)
    have hz₂ := ko _ _ hz0
    unfold Builtin.List.listExtendWith
    refine wpAny_bind (wpAny_typeOf (T := "zip") ⟨_, hz₂, rfl⟩ ?_)
    rw [if_neg (by
      show ¬ ((s.heap.objs.size == z) || (Value.type "zip" == Value.type "list") || (Value.type "zip" == Value.type "tuple")) = true
      simp [Ne.symm nz])]
    refine wpAny_bind (wpAny_pyIter_zip hz₂ ?_)
    refine wpAny_bind (wpAny_holding ?_)
    unfold Builtin.List.listLengthHint
    refine wpAny_bind (wpAny_specialOf (T := "zip") ⟨_, hz₂, rfl⟩ zip_no_len ?_)
    show wpAny _ _ (specialOf (.ref z) (Str.ofString "__length_hint__") >>= fun v => _) _ _ _
    refine wpAny_bind (wpAny_specialOf (T := "zip") ⟨_, hz₂, rfl⟩ zip_no_hint ?_)
    show wpAny _ _ (pure true) _ _ _
    refine wpAny_pure ?_
    show wpAny _ _ (rule _ >>= fun _ => _) _ _ _
    refine wpAny_bind (wpAny_rule (wpAny_bind ?_))
    unfold Builtin.List.listTouch
    show wpAny _ _ (updateSeq s.heap.objs.size (fun x => x.push Value.none) >>= fun _ => _) _ _ _
    refine wpAny_bind (wpAny_updateSeq hS₂ rfl ?_ (by decide) (by decide))
    obtain ⟨c3, hS₃⟩ : ∃ c3, (h₂.update s.heap.objs.size (Obj.mapSeq fun x => x.push Value.none)).get? s.heap.objs.size = some { cls := .type "list", data := .seq #[Value.none] c3 } := ⟨_, Heap.get?_update_self _ hS₂ rfl⟩
    have up₃ : ∀ b o, b ≠ s.heap.objs.size → h₂.get? b = some o → (h₂.update s.heap.objs.size (Obj.mapSeq fun x => x.push Value.none)).get? b = some o := fun b o nb q => by rw [Heap.get?_update_other _ _ (Ne.symm nb)]; exact q
    show wpAny _ _ (updateSeq s.heap.objs.size (fun x => x.pop)) _ _ ⟨h₂.update s.heap.objs.size (Obj.mapSeq fun x => x.push Value.none), s.gens, s.drawn, s.toks, s.os⟩
    generalize h₂.update s.heap.objs.size (Obj.mapSeq fun x => x.push Value.none) = h₃ at hS₃ up₃
    refine wpAny_updateSeq hS₃ rfl ?_ (by decide) (by decide)
    obtain ⟨c4, hS₄⟩ : ∃ c4, (h₃.update s.heap.objs.size (Obj.mapSeq fun x => x.pop)).get? s.heap.objs.size = some { cls := .type "list", data := .seq #[] c4 } := ⟨_, Heap.get?_update_self _ hS₃ rfl⟩
    have up₄ : ∀ b o, b ≠ s.heap.objs.size → h₃.get? b = some o → (h₃.update s.heap.objs.size (Obj.mapSeq fun x => x.pop)).get? b = some o := fun b o nb q => by rw [Heap.get?_update_other _ _ (Ne.symm nb)]; exact q
    show wpAny _ _ (again (Code.builtin "list.extend.loop" ⟨[.ref s.heap.objs.size, .ref z, .none], []⟩)) _ _ ⟨h₃.update s.heap.objs.size (Obj.mapSeq fun x => x.pop), s.gens, s.drawn, s.toks, s.os⟩
    generalize h₃.update s.heap.objs.size (Obj.mapSeq fun x => x.pop) = h₄ at hS₄ up₄
    have ko₄ : ∀ b o, s.heap.get? b = some o → h₄.get? b = some o := fun b o q => up₄ _ _ (Nat.ne_of_lt (Heap.lt_size q)) (up₃ _ _ (Nat.ne_of_lt (Heap.lt_size q)) (ko _ _ q))
    refine wpAny_pure ⟨plainId_quiet F.plain_extend_loop _, ?_⟩
    have lS := Heap.lt_size hS₄
    refine zip_loop (N := s.heap.objs.size + 1) (n := n) (show A.in1.handled = none from hh) ap ex ey hn ⟨Nat.lt_succ_of_lt lz.1, Nat.lt_succ_of_lt lz.2.1, Nat.lt_succ_of_lt lz.2.2.1, Nat.lt_succ_of_lt lz.2.2.2.1, Nat.lt_succ_of_lt lz.2.2.2.2.1, Nat.lt_succ_of_lt lz.2.2.2.2.2.1, Nat.lt_succ_of_lt lz.2.2.2.2.2.2, Nat.lt_succ_self _⟩
      ⟨Nat.ne_of_gt lz.1, Nat.ne_of_gt lz.2.1, Nat.ne_of_gt lz.2.2.1, Nat.ne_of_gt lz.2.2.2.1, Nat.ne_of_gt lz.2.2.2.2.1, Nat.ne_of_gt lz.2.2.2.2.2.1, Nat.ne_of_gt lz.2.2.2.2.2.2⟩ (n - 0) 0 ⟨h₄, s.gens, s.drawn, s.toks, s.os⟩ #[] c4 rfl (Nat.zero_le _) lS (st.keep ko₄) hS₄ rfl ⟨[], rfl, .nil, fun j T hj => by simp at hj⟩ fun h' acc' c' k' e' s' a' => ?_
    refine ⟨rfl, hQ h' acc' c' (fun b o n1 n2 n3 n4 q => k' b o (Nat.ne_of_lt (Heap.lt_size q)) n1 n2 n3 n4 (ko₄ _ _ q)) e' s' a'⟩)
end L2
namespace L2
open PySem PySem.Spec PyProof.Rows
theorem Inv.laidN {X : Cx} {pins : List (Addr × Obj)} {σ : St} {H H' : Hp} {s : Shared} {h' : Heap} {t' : Nat} (I : Inv X pins σ H s) (k : ∀ b u, s.heap.get? b = some u → h'.get? b = some u) (hold : ∀ b : Nat, b < s.heap.objs.size → H' b = H b)
    (new : ∀ (b : Nat) u, s.heap.objs.size ≤ b → H' b = some u → ObjOk X.prog X.w H' h' b u) : Inv X pins σ H' { s with heap := h', toks := t' } := by
  have lt : ∀ b u, H b = some u → b < s.heap.objs.size := fun b u e => Nat.lt_of_not_le fun z => by rw [I.hok.fresh z] at e; cases e
  refine I.un ⟨fun b o e _ _ _ => k b o e, fun b o e _ _ _ => ⟨o.slots, k b o e⟩, fun b o e n _ => ?_, fun b o e _ => ⟨o, k b o e⟩, fun b xs e => ?_, fun b o u e => ?_, fun b ps e => ⟨#[], ?_⟩⟩ fun b u e => ?_
  · rw [hold b (Heap.lt_size e)]; exact n
  · rw [hold b (lt b _ e)]; exact e
  · rw [hold b (lt b _ e)]; exact e
  · rw [hold b (lt b _ e), e]; simp
  · by_cases c : b < s.heap.objs.size
    · rw [hold b c] at e
      exact (I.hok b u e).stay (fun c v _ q => k c v q) (fun c q => by rw [hold c (lt c _ q)]; exact q) fun c xs q => by rw [hold c (lt c _ q)]; exact q
    · exact new b u (Nat.le_of_not_lt c) e
theorem zT_size (h : Heap) (l1 l2 : Addr) : (zT h l1 l2).objs.size = h.objs.size + 5 := by
  unfold zT
  simp only [Heap.size_push]
theorem zT_old {h : Heap} {l1 l2 b : Addr} {o : Obj} (q : h.get? b = some o) : (zT h l1 l2).get? b = some o := by
  unfold zT
  exact Heap.get?_push_of_some _ (Heap.get?_push_of_some _ (Heap.get?_push_of_some _ (Heap.get?_push_of_some _ (Heap.get?_push_of_some _ q))))
theorem push_at {h : Heap} {o : Obj} {n : Nat} (e : h.objs.size = n) (f : o.isFreed = false) : (h.push o).get? n = some o := by
  rw [← e]; exact Heap.get?_push_size _ f
theorem zT_zip (h : Heap) (l1 l2 : Addr) : IsZip2 (zT h l1 l2) (h.objs.size + 4) .none (.bool false) (h.objs.size + 2) (h.objs.size + 3) := by
  unfold zT
  exact push_at (by simp only [Heap.size_push]) rfl
theorem zT_st {h : Heap} {l1 l2 : Addr} {xs ys : Array Value} (t1 : h.IsTuple l1 xs) (t2 : h.IsTuple l2 ys) : ZSt (zT h l1 l2) (h.objs.size + 4) (h.objs.size + 2) (h.objs.size + 3) h.objs.size (h.objs.size + 1) l1 l2 xs ys 0 := by
  refine ⟨⟨_, _, zT_zip h l1 l2, .inl rfl⟩, ?_, ⟨.none, .none, ?_⟩, ⟨{ cls := .type "tuple_iterator", data := .fields #[.ref l1, .int 0 0] }, ?_, rfl, rfl⟩, ⟨{ cls := .type "tuple_iterator", data := .fields #[.ref l2, .int 0 0] }, ?_, rfl, rfl⟩, tuple_at t1 fun o q => zT_old q, tuple_at t2 fun o q => zT_old q⟩
  · exact Heap.get?_push_of_some _ (Heap.get?_push_of_some _ (push_at (by simp only [Heap.size_push]) rfl))
  · exact Heap.get?_push_of_some _ (push_at (by simp only [Heap.size_push]) rfl)
  · exact Heap.get?_push_of_some _ (Heap.get?_push_of_some _ (Heap.get?_push_of_some _ (Heap.get?_push_of_some _ (push_at rfl rfl))))
  · exact Heap.get?_push_of_some _ (Heap.get?_push_of_some _ (Heap.get?_push_of_some _ (push_at (by simp only [Heap.size_push]) rfl)))
theorem lookup_zip {α : Type} : ∀ {ts : List Nat} {ps : List α} {j T : Nat} {p : α}, ts.Pairwise (· < ·) → ts[j]? = some T → ps[j]? = some p → (ts.zip ps).lookup T = some p
  | t :: ts, q :: ps, 0, T, p, _, e1, e2 => by
    cases e1; cases e2
    simp
  | t :: ts, q :: ps, j + 1, T, p, h, e1, e2 => by
    have hp := List.pairwise_cons.mp h
    have hT : T ∈ ts := List.mem_of_getElem? (show ts[j]? = some T from e1)
    have ne : (T == t) = false := beq_eq_false_iff_ne.mpr (fun z => by have := hp.1 T hT; omega)
    rw [List.zip_cons_cons, List.lookup_cons, ne]
    exact lookup_zip hp.2 e1 e2
  | [], _, _, _, _, _, e1, _ => by simp at e1
  | _ :: _, [], _, _, _, _, _, e2 => by simp at e2
theorem lookup_some {α : Type} : ∀ {ts : List Nat} {ps : List α} {T : Nat} {p : α}, (ts.zip ps).lookup T = some p → ∃ j : Nat, ts[j]? = some T ∧ ps[j]? = some p
  | t :: ts, q :: ps, T, p, h => by
    rw [List.zip_cons_cons, List.lookup_cons] at h
    cases c : T == t with
    | true =>
      rw [c] at h
      cases h
      exact ⟨0, by rw [beq_iff_eq.mp c]; rfl, rfl⟩
    | false =>
      rw [c] at h
      obtain ⟨j, a, b⟩ := lookup_some h
      exact ⟨j + 1, a, b⟩
  | [], _, _, _, h => by simp at h
  | _ :: _, [], _, _, h => by simp at h
def tListZip (K : PySem.W.Frag) (t : TA) : TE := fun σ H Q => t σ H fun vs H1 => ∃ l1 l2 xs ys, vs = [.ref l1, .ref l2] ∧ SqT K H1 l1 xs ∧ SqT K H1 l2 ys ∧ xs.length = ys.length ∧ xs.length ≤ 1000000 ∧
  ∀ (L : Addr) (ts : List Addr) (H2 : Hp), H1 L = none → Same H1 H2 → H2 L = some (.lst (ts.map V.ref)) → Paired (fun T (p : V × V) => SqT K H2 T [p.1, p.2]) ts (xs.zip ys) → Q (.ref L) H2
theorem pe_listzip {X : Cx} {a b : Expr} {t : TA} {p1 p2 pos1 pos2 : Pos} (hc : X.calm = true) (hgL : Gl X "list") (hmL : X.mg "list" = none) (hgZ : Gl X "zip") (hmZ : X.mg "zip" = none) (ha : PA X [a, b] t)
    (he1 : starEach [.Call (.Name "zip" p2) [a, b] [] pos2] X.env = [(false, eval (.Call (.Name "zip" p2) [a, b] [] pos2) X.env)] := by rfl) (he : starEach [a, b] X.env = (false, eval a X.env) :: starEach [b] X.env := by rfl) (hpl : (backTo pos2 (starEach [b] X.env)).any (·.1) = false := by rfl) :
    PE X (.Call (.Name "list" p1) [.Call (.Name "zip" p2) [a, b] [] pos2] [] pos1) (tListZip X.K t) := by
  intro pins s σ H Q I h
  refine wpAny_Call_Name_kw (ld_blt I hgL hmL (by decide +kernel : bootBuiltins "list" = some (.type "list")) ?_ (by decide) (by decide))
  refine PyProof.Rows.callWith_type1 ?_ he1 rfl
  rw [he1]
  show wpAny _ _ (spliced ((false, _) :: [])) _ _ s
  refine Calls.spliced_cons ?_
  refine wpAny_Call_Name_kw (ld_blt I hgZ hmZ (by decide +kernel : bootBuiltins "zip" = some (.type "zip")) ?_ (by decide) (by decide))
  refine PyProof.Rows.callWith_type1 (thn (ha pos2 pins s σ H _ I h) fun us s1 ⟨vs, H1, I1, r1, q1⟩ => ?_) he hpl
  obtain ⟨l1, l2, xs, ys, rfl, hx, hy, hl, hn, q⟩ := q1
  obtain ⟨u1, u2, rfl, rx, ry⟩ := vals2 r1
  cases (show u1 = Value.ref l1 from rx)
  cases (show u2 = Value.ref l2 from ry)
  obtain ⟨i1, v1, t1, z1⟩ := I1.tuple hx
  obtain ⟨i2, v2, t2, z2⟩ := I1.tuple hy
  refine call_zipT t1 t2 ?_
  refine Calls.spliced_nil ?_
  obtain ⟨o1, g1, _, _⟩ := id t1
  obtain ⟨o2, g2, _, _⟩ := id t2
  have ll1 := Heap.lt_size g1
  have ll2 := Heap.lt_size g2
  have e1 := v1.length
  have e2 := v2.length
  have sz := zT_size s1.heap l1 l2
  refine call_listZ (n := i1.length) (show X.A.handled = none from I1.ok.hd hc) (zipApart_new ll1 ll2) (by simp) (by simp; omega) (by omega) (zT_zip s1.heap l1 l2) (zT_st t1 t2) ?_ fun h' acc c kk hL hsz hacc => ?_
  · show _ < (zT s1.heap l1 l2).objs.size ∧ _ < (zT s1.heap l1 l2).objs.size ∧ _ < (zT s1.heap l1 l2).objs.size ∧ _ < (zT s1.heap l1 l2).objs.size ∧ _ < (zT s1.heap l1 l2).objs.size ∧ _ < (zT s1.heap l1 l2).objs.size ∧ _ < (zT s1.heap l1 l2).objs.size
    rw [sz]
    refine ⟨by omega, by omega, by omega, by omega, by omega, ?_, ?_⟩
    · exact Nat.lt_add_right 5 ll1
    · exact Nat.lt_add_right 5 ll2
  replace kk : ∀ b o, b ≠ s1.heap.objs.size + 4 → b ≠ s1.heap.objs.size + 3 → b ≠ s1.heap.objs.size → b ≠ s1.heap.objs.size + 1 → (zT s1.heap l1 l2).get? b = some o → h'.get? b = some o := kk
  replace hL : h'.get? (zT s1.heap l1 l2).objs.size = some { cls := .type "list", data := .seq acc c } := hL
  replace hacc : AccOk h' ((zT s1.heap l1 l2).objs.size + 1) i1.toArray i2.toArray acc := hacc
  show EP X pins σ Q (.ref (zT s1.heap l1 l2).objs.size) { s1 with heap := h' }
  rw [sz] at hL hacc ⊢
  obtain ⟨Ts, eT, pT, cT⟩ := hacc
  have lT : Ts.length = i1.length := by
    have := congrArg List.length eT
    rw [List.length_map] at this
    rw [← this]
    simpa using hsz
  have k1 : ∀ b u, s1.heap.get? b = some u → h'.get? b = some u := fun b u q => by
    have lb : b < s1.heap.objs.size := Heap.lt_size q
    exact kk b u (Nat.ne_of_lt (Nat.lt_add_right 4 lb)) (Nat.ne_of_lt (Nat.lt_add_right 3 lb)) (Nat.ne_of_lt lb) (Nat.ne_of_lt (Nat.lt_add_right 1 lb)) (zT_old q)
  refine ⟨.ref (s1.heap.objs.size + 5), fun b : Nat => if b < s1.heap.objs.size then H1 b else if b = s1.heap.objs.size + 5 then some (.lst (Ts.map V.ref)) else ((Ts.zip (xs.zip ys)).lookup b).map fun p => .tup [p.1, p.2], I1.laidN (t' := s1.toks) k1 (fun b hb => if_pos hb) fun b u hb e => ?_, rfl, ?_⟩
  · have e' : (if b < s1.heap.objs.size then H1 b else if b = s1.heap.objs.size + 5 then some (.lst (Ts.map V.ref)) else ((Ts.zip (xs.zip ys)).lookup b).map fun p => .tup [p.1, p.2]) = some u := e
    rw [if_neg (by omega)] at e'
    by_cases cL : b = s1.heap.objs.size + 5
    · rw [if_pos cL] at e'
      cases e'
      subst cL
      refine ⟨fits (by rw [List.length_map]; omega), acc.toList, c, ?_, by simpa using hL⟩
      rw [eT]
      exact paired_of (by simp) fun j x y ex ey => by
        rw [List.getElem?_map] at ex ey
        obtain ⟨T, eT1, rfl⟩ := Option.map_eq_some_iff.mp ex
        rw [eT1] at ey
        cases ey
        rfl
    · rw [if_neg cL] at e'
      obtain ⟨p, ep, rfl⟩ := Option.map_eq_some_iff.mp e'
      obtain ⟨j, ej, epj⟩ := lookup_some ep
      obtain ⟨_, x, y, hp, hx1, hy1⟩ := cT j b ej
      obtain ⟨ex, ey⟩ := List.getElem?_zip_eq_some.mp epj
      obtain ⟨x', ex', rx'⟩ := v1.get ex
      obtain ⟨y', ey', ry'⟩ := v2.get ey
      have q1 : x' = x := by
        have : i1[j]? = some x := by simpa using hx1
        rw [ex'] at this; cases this; rfl
      have q2 : y' = y := by
        have : i2[j]? = some y := by simpa using hy1
        rw [ey'] at this; cases this; rfl
      subst q1; subst q2
      exact ⟨fits (by simp), [x', y'], .cons rx' (.cons ry' .nil), ⟨_, hp, rfl, _, rfl⟩⟩
  · refine q (s1.heap.objs.size + 5) Ts _ (I1.hok.fresh (Nat.le_add_right _ 5)) (fun b u hb => ?_) ?_ ?_
    · show (if b < s1.heap.objs.size then H1 b else _) = some u
      have lb : b < s1.heap.objs.size := Nat.lt_of_not_le fun z => by rw [I1.hok.fresh z] at hb; cases hb
      rw [if_pos lb]; exact hb
    · show (if s1.heap.objs.size + 5 < s1.heap.objs.size then _ else if s1.heap.objs.size + 5 = s1.heap.objs.size + 5 then _ else _) = _
      rw [if_neg (by omega), if_pos rfl]
    · refine paired_of (by rw [lT, List.length_zip]; omega) fun j T p eT1 ep => ?_
      obtain ⟨lN, _⟩ := cT j T eT1
      refine .inl (.inl ?_)
      show (if T < s1.heap.objs.size then _ else if T = s1.heap.objs.size + 5 then _ else _) = _
      rw [if_neg (Nat.not_lt.mpr (Nat.le_trans (by omega : s1.heap.objs.size ≤ s1.heap.objs.size + 5 + 1) lN)), if_neg (Nat.ne_of_gt (Nat.lt_of_succ_le lN)), lookup_zip pT eT1 ep]
      rfl
end L2
namespace HT
open PySem PyProof.Rows
section
variable {prog : Program} {w : World} {A : Around} {E : Value → Shared → Prop} {s : Shared}
end
end HT
namespace L2
open PySem PySem.Spec PyProof.Rows
theorem Paired.rev' {α β : Type} {F : α → β → Prop} : ∀ {a : List α} {c : List β}, Paired F a c → Paired F a.reverse c.reverse
  | _, _, .nil => .nil
  | _, _, .cons h t => by rw [List.reverse_cons, List.reverse_cons]; exact Paired.snoc (Paired.rev' t) h
def rExtendT (K : PySem.W.Frag) : V → List V → Hp → VK → Prop := fun x vs H Q => ∃ l b xs zs, x = .ref l ∧ vs = [.ref b] ∧ H l = some (.lst xs) ∧ SqT K H b zs ∧ xs.length + zs.length ≤ sizeLine ∧ Q .non (upd H l (.lst (xs ++ zs)))
theorem mt_extendT {X : Cx} : MtM X "list.extend" (rExtendT X.K) := by
  intro pins s σ H x vs v us Q I rx rv h
  obtain ⟨l, b, xs, zs, rfl, rfl, hH, hB, hz, q⟩ := h
  cases rx
  obtain ⟨u, rfl, ru⟩ := rv.one
  cases ru
  obtain ⟨z, its, n, r, hl, e⟩ := I.lstM hH
  obtain ⟨its2, r2, t2, z2⟩ := I.tuple hB
  have l2 := r2.length
  have hsz : its.toArray.size + its2.toArray.size ≤ sizeLine := by rw [List.size_toArray, List.size_toArray]; omega
  have hlong : ¬ (!its.toArray.isEmpty && Builtin.List.listTooLong (its.toArray.size + its2.toArray.size)) = true := by
    rw [notLongL hsz, Bool.and_false]
    exact Bool.false_ne_true
  refine wpAny_call_entry F.slot_list_extend ⟨_, e, rfl⟩ F.entry_list_extend ?_ (F.args_list_extend_2 _ _)
  show wpAny _ _ (Builtin.List.listExtendWith (.ref l) (.ref b) .none) _ _ _
  unfold Builtin.List.listExtendWith
  refine wpAny_bind (wpAny_typeOf t2.typeIs ?_)
  rw [if_pos (by simp)]
  obtain ⟨o2, g2, c2, n2, d2⟩ := id t2
  unfold Builtin.List.listItems
  refine wpAny_bind (wpAny_bind (wpAny_seqItems g2 d2 (wpAny_pure ?_)))
  refine wpAny_bind (wpAny_bind (wpAny_seqItems e rfl (wpAny_pure ?_)))
  show wpAny _ _ (if (!its.toArray.isEmpty && Builtin.List.listTooLong (its.toArray.size + its2.toArray.size)) = true then _ else _) _ _ _
  rw [if_neg hlong]
  show wpAny _ _ (updateSeq l (fun x => x ++ its2.toArray) >>= fun _ => _) _ _ _
  refine wpAny_bind (wpAny_updateSeq e rfl ?_ (by rw [List.size_toArray]; omega) (by rw [Array.size_append]; omega))
  refine wpAny_pure ⟨_, rfl, ?_⟩
  refine ⟨.non, _, I.lset (its' := its ++ its2) hH e (by simp) (r.append r2) ?_, rfl, q⟩
  rw [List.length_append]
  omega
end L2
namespace L2
open PySem
def rNeT (K : PySem.W.Frag) : R2 := fun x y H Q => ∃ y', y = .str y' ∧ ((∃ z, x = .str z ∧ Q (.bl (!decide (V.str z = V.str y'))) H) ∨ ∃ a xs, x = .ref a ∧ SqT K H a xs ∧ Q (.bl true) H)
theorem op_ne_ts {X : Cx} (hu : X.A.units < cLine) : OpR X (compareOp .NotEq) (rNeT X.K) := by
  intro pins s σ H x y v u Q I rx ry h
  obtain ⟨y', rfl, h⟩ := h
  rcases h with ⟨z, rfl, q⟩ | ⟨a, xs, rfl, ha, q⟩
  · exact op_ne pins s σ H _ _ v u Q I rx ry ⟨rfl, q⟩
  · cases rx
    obtain ⟨t, rfl⟩ := ry
    obtain ⟨its, r, pl, hz⟩ := I.tuple ha
    exact SeqAt.RcNeAt.tuple_str y' t pl hu X.prog X.w X.xe _ ⟨.bl true, H, I, rfl, q⟩
end L2
namespace L2
open PySem PySem.Spec PyProof.Rows
section
variable {prog : Program} {w : World} {A : Around} {E : Value → Shared → Prop} {s : Shared}
end
theorem Inv.turnedL {X : Cx} {pins : List (Addr × Obj)} {σ : St} {H : Hp} {s : Shared} {h' : Heap} {t' : Nat} {fp : List Addr} (I : Inv X pins σ H s) (hf : ∀ b ∈ fp, FpOk X pins H b) (k : ∀ b o, b ∉ fp → s.heap.get? b = some o → h'.get? b = some o) : Inv X pins σ H { s with heap := h', toks := t' } := by
  have tr : ∀ b v, H b = some v → b ∉ fp := fun b v q hb => by rw [(hf b hb).1] at q; cases q
  refine I.call (g' := s.gens) (t' := t') (d' := s.drawn) (ch := fp) ⟨fun b o q _ _ c => k b o c q, fun b o q _ _ c => ⟨o.slots, k b o c q⟩, fun b o q n _ => n, fun b o q c => ⟨o, k b o c q⟩, fun b ys q => q, fun b o v q => q, fun b ps q => ⟨#[], by rw [q]; simp⟩⟩ (fun b v q => ?_) I.bare (fun b hb => ?_)
  · refine (I.hok b v q).stay (fun c o hc' z => ?_) (fun c q' => q') fun c ys q' => q'
    rcases hc' with rfl | hc'
    · exact k c o (tr c _ q) z
    · exact k c o (tr c _ hc') z
  · have f := hf b hb
    exact ⟨f.2.2.2.1, f.2.1, f.2.2.2.2.1, f.2.2.2.2.2⟩
structure ZTn (h : Heap) (z TI TO i1 i2 l1 l2 : Addr) (i : Nat) : Prop where
  hz : ∃ f0 f1, IsZip2 h z f0 f1 TI TO ∧ (f0 = .none ∨ ∃ T : Nat, f0 = rawInt T)
  hI : IsPair h TI (.ref i1) (.ref i2)
  hO : ∃ a b, IsPair h TO a b
  h1 : h.IsTupleIter i1 l1 i
  h2 : h.IsTupleIter i2 l2 i
end L2
namespace HT
open PySem PySem.Spec PyProof.Rows
section
variable {prog : Program} {w : World} {A : Around} {E : Value → Shared → Prop} {s : Shared}
theorem getItem_tuple_all {t sl : Addr} {items : Array Value} {vl vu : Value} {lo hi : Option Int} {Q : Value → Shared → Prop} (ht : IsTup s.heap t items) (hs : s.heap.IsSliceOf sl vl vu .none) (pl : IsPart vl lo) (pu : IsPart vu hi)
    (hw : sIx items.size 0 lo = 0 ∧ sIx items.size items.size hi = items.size) (h : Q (.ref t) s) : wpAny (model prog w) A (getItem (.ref t) (.ref sl)) Q E s := by
  obtain ⟨os, hos, hcs, hds⟩ := id hs
  have hTs : s.TypeIs (.ref sl) "slice" := ⟨os, hos, hcs⟩
  unfold getItem
  try with_reducible refine wpAny_holding ?_
  first | refine wpAny_bind (wpAny_pure ?_) | skip
  refine wpAny_bind (wpAny_sequenceKey ht.typeIs (by decide) ?_)
  refine wpAny_bind (wpAny_callSpecial?_slot (name := Str.ofString "__getitem__") ht.typeIs PyProof.Rows.slot_tuple_getitem
    (wpAny_call_entry PyProof.Rows.slot_tuple_getitem ht.typeIs entry_tuple_getitem ?_ (args_tuple_getitem _ _)))
  show wpAny _ _ (Builtin.Tuple.tupleItemsOf (.ref t) >>= _) _ _ s
  refine wpAny_bind (tupleItemsOf_ ht ?_)
  refine wpAny_bind (wpAny_typeOf hTs ?_)
  rw [if_pos (by decide)]
  refine wpAny_bind (sliceApplied_gen hs pl pu ?_)
  have hyes : (((sIx items.size 0 lo : Nat) : Int) == 0 && (1 : Int) == 1 && (sIx items.size items.size hi - sIx items.size 0 lo) == items.size) = true := by
    rw [hw.1, hw.2]
    simp
  show wpAny _ _ (if (((sIx items.size 0 lo : Nat) : Int) == 0 && (1 : Int) == 1 && (sIx items.size items.size hi - sIx items.size 0 lo) == items.size) = true then _ else _) _ _ s
  rw [if_pos hyes]
  refine wpAny_bind ?_
  unfold Builtin.Tuple.tupleIsExact
  refine wpAny_bind (wpAny_typeOf ht.typeIs (wpAny_pure ?_))
  rw [if_pos (by decide)]
  refine wpAny_bind (wpAny_rule ?_)
  exact wpAny_pure ⟨_, rfl, wpAny_pure h⟩
end
end HT
namespace L2
open PySem PySem.Spec PyProof.Rows
def rSlG2 (K : PySem.W.Frag) : V → Option Int → Option Int → Hp → VK → Prop := fun x lo hi H Q => ∃ a xs, x = .ref a ∧ SqT K H a xs ∧ ∀ p H', Same H H' → SqT K H' p (cutV xs lo hi) → Q (.ref p) H'
theorem sl_tupG {X : Cx} : SlR X (rSlG2 X.K) := by
  intro pins s σ H x v vl vu lo hi sl Q I rx hs pl pu h
  obtain ⟨a, xs, rfl, hx, q⟩ := h
  by_cases hw : HT.sIx xs.length 0 lo = 0 ∧ HT.sIx xs.length xs.length hi = xs.length
  · have ec : cutV xs lo hi = xs := by
      unfold cutV
      rw [hw.1, hw.2, List.drop_zero, Nat.sub_zero, List.take_length]
    cases rx
    obtain ⟨its, r, ht, hz⟩ := I.tuple hx
    have hlen : its.toArray.size = xs.length := by rw [List.size_toArray]; exact r.length.symm
    refine ⟨"tuple", _, PyProof.Rows.slot_tuple_getitem.lookup, ht.typeIs, ?_⟩
    exact HT.getItem_tuple_all ht hs pl pu (by rw [hlen]; exact hw) ⟨.ref a, H, I, rfl, q a H (fun _ _ h => h) (by rw [ec]; exact hx)⟩
  · exact sl_tup pins s σ H _ v vl vu lo hi sl Q I rx hs pl pu ⟨a, xs, rfl, hx, hw, fun p hp => q p _ (same_laid hp _) (SqT.of upd_same)⟩
def rCatG (K : PySem.W.Frag) : R2 := fun x y H Q => ∃ a b xs ys, x = .ref a ∧ y = .ref b ∧ SqT K H a xs ∧ SqT K H b ys ∧ xs.length + ys.length ≤ sizeLine ∧ ∀ p H', Same H H' → SqT K H' p (xs ++ ys) → Q (.ref p) H'
theorem op_catG {X : Cx} : OpR X (binaryOp .Add) (rCatG X.K) := by
  intro pins s σ H x y v u Q I rx ry h
  obtain ⟨a, b, xs, ys, rfl, rfl, ha, hb, hz, q⟩ := h
  by_cases hx : xs = []
  · cases rx
    cases ry
    obtain ⟨its, r1, p1, _⟩ := I.tuple ha
    obtain ⟨its2, r2, p2, _⟩ := I.tuple hb
    have e1 : its = [] := r1.nil_iff.mpr hx
    obtain ⟨⟨cls, dd, data, sl⟩, ho, hc, n, hd⟩ := id p1
    obtain ⟨⟨cls2, dd2, data2, sl2⟩, ho2, hc2, n2, hd2⟩ := id p2
    simp only at hc hd hc2 hd2
    subst hc hd hc2 hd2
    exact concat_meets ⟨_, ho, rfl⟩ ⟨_, ho2, rfl⟩ noFill_tuple_add seq_tuple_add PySem.F.slot_tuple_add PySem.F.entry_tuple_add (PySem.F.args_tuple_add_2 _ _)
      (tuple_addW0 a b its.toArray its2.toArray n n2 dd dd2 sl sl2 (by simp [e1])) ⟨ho, ho2, .ref b, H, I, rfl, q b H (fun _ _ h => h) (by rw [hx]; exact hb)⟩
  · refine op_catT pins s σ H _ _ v u Q I rx ry ⟨a, b, xs, ys, rfl, rfl, ha, hb, hx, hz, fun e => q a H (fun _ _ h => h) (by rw [e, List.append_nil]; exact ha), fun _ p hp => q p _ (same_laid hp _) (SqT.of upd_same)⟩
end L2
namespace L2
open PySem PySem.Spec PyProof.Rows
def repS (x : Str) : Nat → Str
  | 0 => Str.empty
  | 1 => x
  | _ => x ++ x
theorem op_mulS {X : Cx} : OpR X (binaryOp .Mult) (fun a b H Q => ∃ x n, a = .str x ∧ b = .int ((n : Nat) : Int) ∧ n ≤ 2 ∧ x.length = 1 ∧ Q (.str (repS x n)) H) := by
  intro pins s σ H a b v u Q I ra rb h
  obtain ⟨x, n, rfl, rfl, hn, hx, q⟩ := h
  obtain ⟨t, rfl⟩ := ra
  obtain ⟨t2, rfl⟩ := rb
  match n, hn, q with
  | 0, _, q => exact PySem.P.mul_str_none (by decide) (by decide) ⟨.str Str.empty, H, I.tok _, ⟨_, rfl⟩, q⟩
  | 1, _, q =>
    refine PySem.P.mul_str (by decide) (fun _ h => by simp at h) (fun _ h => by simp at h) ?_
    rw [if_neg (by decide), if_pos (by rfl)]
    exact ⟨.str x, H, I, ⟨_, rfl⟩, q⟩
  | 2, _, q =>
    refine PySem.P.mul_str (by decide) (fun _ _ => by rw [hx]; decide) (fun _ _ => by rw [hx]; decide) ?_
    rw [if_neg (by decide), if_neg (by rw [hx]; decide)]
    have le : (Str.mk (#[] ++ x.cps ++ x.cps)).length ≤ sizeLine := by
      show (#[] ++ x.cps ++ x.cps).size ≤ sizeLine
      rw [Array.empty_append, Array.size_append]
      have : x.cps.size = 1 := hx
      rw [this]; decide
    refine ⟨le, ⟨.str (x ++ x), H, I.tok _, ⟨s.toks, ?_⟩, q⟩⟩
    show Value.str ⟨#[] ++ x.cps ++ x.cps⟩ _ = Value.str ⟨x.cps ++ x.cps⟩ _
    rw [Array.empty_append]
end L2
namespace L2
open PySem PySem.Spec PyProof.Rows
theorem plain_rn : plainId "reversed.__next__" = true := by decide +kernel
theorem entry_rn : entryFor table "reversed.__next__" = some Builtin.«reversed.__next__» := entryFor_of_tree (by kernel_rfl)
theorem lookup_rn : typeLookup (.type "reversed") (Str.ofString "__next__") = pure (some (.builtin "reversed.__next__")) := by rw [typeLookup_type, builtinLookup_eq_fast]; kernel_rfl
theorem lookup_ri : typeLookup (.type "reversed") (Str.ofString "__init__") = pure (some (.builtin "object.__init__")) := by rw [typeLookup_type, builtinLookup_eq_fast]; kernel_rfl
theorem lookup_rit : typeLookup (.type "reversed") (Str.ofString "__iter__") = pure (some (.builtin "reversed.__iter__")) := by rw [typeLookup_type, builtinLookup_eq_fast]; kernel_rfl
theorem lookup_tr : typeLookup (.type "tuple") (Str.ofString "__reversed__") = pure none := by rw [typeLookup_type, builtinLookup_eq_fast]; kernel_rfl
theorem sub_td : isSubtype (.type "tuple") (.type "dict") = pure false := by rw [isSubtype_type]; kernel_rfl
theorem sub_ro : isSubtype (.type "reversed") (.type "object") = pure true := by rw [isSubtype_type]; kernel_rfl
theorem slot_rn : Slot "reversed" (Str.ofString "__next__") "reversed.__next__" := ⟨lookup_rn, fun self => by kernel_rfl, fun M A E s self rest kw Q hT ha q => by
  unfold checkBuiltinCall
  have e1 : builtinKind "reversed.__next__" = some .slot := by kernel_rfl
  have e2 : splitId "reversed.__next__" = some ("reversed", "__next__") := by kernel_rfl
  simp only [e1, e2]
  refine wpAny_bind (wpAny_isInstance hT F.sub_reversed_self ?_)
  rw [if_neg (by simp)]
  exact wpAny_of_eq ha q, plain_rn⟩
theorem slot_rit : Slot "reversed" (Str.ofString "__iter__") "reversed.__iter__" := ⟨lookup_rit, fun self => by kernel_rfl, fun M A E s self rest kw Q hT ha q => by
  unfold checkBuiltinCall
  have e1 : builtinKind "reversed.__iter__" = some .slot := by kernel_rfl
  have e2 : splitId "reversed.__iter__" = some ("reversed", "__iter__") := by kernel_rfl
  simp only [e1, e2]
  refine wpAny_bind (wpAny_isInstance hT F.sub_reversed_self ?_)
  rw [if_neg (by simp)]
  exact wpAny_of_eq ha q, by decide +kernel⟩
theorem slot_ri : Slot "reversed" (Str.ofString "__init__") "object.__init__" := ⟨lookup_ri, fun self => by kernel_rfl, fun M A E s self rest kw Q hT ha q => by
  unfold checkBuiltinCall
  have e1 : builtinKind "object.__init__" = some .slot := by kernel_rfl
  have e2 : splitId "object.__init__" = some ("object", "__init__") := by kernel_rfl
  simp only [e1, e2]
  refine wpAny_bind (wpAny_isInstance hT sub_ro ?_)
  rw [if_neg (by simp)]
  exact wpAny_of_eq ha q, by decide +kernel⟩
theorem args_rn (a : Value) : argsOk "reversed.__next__" ⟨[a], []⟩ := by kernel_rfl
theorem args_rit (a : Value) : argsOk "reversed.__iter__" ⟨[a], []⟩ := by kernel_rfl
theorem called_rev : TypeCalled "reversed" "reversed.__new__" "object.__init__" := ⟨by decide, F.create_reversed, ⟨_, _, F.mro_reversed⟩, F.made_reversed, F.plain_reversed_new, F.sub_reversed_self, slot_ri⟩
theorem entry_rit : entryFor table "reversed.__iter__" = some Builtin.«dict_keyiterator.__iter__» := entryFor_alias (id' := "dict_keyiterator.__iter__") (by kernel_rfl) (by kernel_rfl) (by kernel_rfl) (by kernel_rfl)
abbrev IsRevT (h : Heap) (z t : Addr) (i : Int) : Prop := h.get? z = some { cls := .type "reversed", data := .fields #[.ref t, rawInt i] }
theorem meets_revT (t : Addr) (xs : Array Value) (hx : (xs.size : Int) < 2 ^ 63) : Meets (Builtin.«reversed.__new__» ⟨[.type "reversed", .ref t], []⟩) fun _ R s =>
    IsTup s.heap t xs ∧ R (.ok (.ret (.ref s.heap.objs.size))) { s with heap := s.heap.push { cls := .type "reversed", data := .fields #[.ref t, rawInt ((xs.size : Int) - 1)] }, toks := s.toks + 1 + 1 } := by
  refine Meets.of_wp fun prog w A R s h => ?_
  obtain ⟨t1, q⟩ := h
  obtain ⟨hp, g, d, tk, os⟩ := s
  unfold Builtin.«reversed.__new__»
  rw [newClass_reversed]
  refine wpAny_bind (wpAny_pure ?_)
  show wpAny _ _ (Builtin.SmallTypes.refuseKeywords "reversed" (.type "reversed") ⟨[.type "reversed", .ref t], []⟩ >>= fun _ => _) _ _ _
  refine wpAny_bind (wpAny_of_eq (a := ()) (by rfl) ?_)
  refine wpAny_bind (wpAny_of_eq (a := ()) (by rfl) ?_)
  refine wpAny_bind (wpAny_specialOf t1.typeIs lookup_tr ?_)
  refine wpAny_bind ?_
  show wpAny _ _ (isInstance (.ref t) (.type "dict") >>= fun b => if b = true then pure false else specialOf (.ref t) (Str.ofString "__getitem__") >>= fun r => _) _ _ _
  refine wpAny_bind (wpAny_isInstance t1.typeIs sub_td ?_)
  rw [if_neg (by simp)]
  refine wpAny_bind (wpAny_specialOf t1.typeIs PyProof.Rows.slot_tuple_getitem.lookup ?_)
  show wpAny _ _ (if _ then pure true else _) _ _ _
  rw [if_pos (by decide)]
  refine wpAny_pure ?_
  rw [if_neg (by simp)]
  refine wpAny_bind (PyProof.Rows.len_tuple t1 hx ?_)
  refine wpAny_bind (wpAny_of_eq (a := some (xs.size : Int)) (by rfl) ?_)
  show wpAny _ _ (newObj (.type "reversed") (.fields #[.ref t, rawInt ((xs.size : Int) - 1)]) >>= fun v => _) _ _ _
  refine wpAny_bind (wpAny_newObj_type ?_ (by size_fits))
  exact wpAny_pure ⟨_, rfl, q⟩
theorem call_revT {prog : Program} {w : World} {A : Around} {E : Value → Shared → Prop} {s : Shared} {t : Addr} {xs : Array Value} {Q : Value → Shared → Prop} (t1 : IsTup s.heap t xs) (hx : (xs.size : Int) < 2 ^ 63)
    (hQ : Q (.ref s.heap.objs.size) { s with heap := s.heap.push { cls := .type "reversed", data := .fields #[.ref t, rawInt ((xs.size : Int) - 1)] }, toks := s.toks + 1 + 1 }) : wpAny (model prog w) A (call (.type "reversed") [.ref t]) Q E s := by
  refine callType_new called_rev rfl (F.typeCall_reversed_1 _) (F.newCall_reversed_1 _) (fun obj => F.args_object_init_2 _ _) F.entry_reversed_new (meets_revT t xs hx) ⟨t1, ?_⟩
  exact ⟨⟨_, Heap.get?_push_size _ rfl, rfl⟩, hQ⟩
section
variable {prog : Program} {w : World} {A : Around} {E : Value → Shared → Prop} {s : Shared}
theorem revT_item {z t : Addr} {i : Nat} {xs : Array Value} {x : Value} {Q : Option Value → Shared → Prop} (hz : IsRevT s.heap z t (i : Int)) (t1 : IsTup s.heap t xs) (hx : xs[i]? = some x) (hl : (xs.size : Int) < 2 ^ 62) (hzt : z ≠ t)
    (hQ : ∀ h', IsRevT h' z t ((i : Int) - 1) → Heap.SameBut z s.heap h' → Q (some x) { s with heap := h', toks := s.toks + 1 }) : wpAny (model prog w) A (pyNext (.ref z)) Q E s := by
  have hT : s.TypeIs (.ref z) "reversed" := ⟨_, hz, rfl⟩
  obtain ⟨hp, g, d, tk, os⟩ := s
  have li : i < xs.size := (Array.getElem?_eq_some_iff.mp hx).1
  unfold pyNext
  refine wpAny_bind (wpAny_attempt (wpAny_callSpecial?_slot (name := Str.ofString "__next__") hT slot_rn (wpAny_call_entry slot_rn hT entry_rn ?_ (args_rn _))))
  show wpAny _ _ (field (.ref z) 0 >>= fun v => _) _ _ _
  refine wpAny_bind (wpAny_field hz rfl (x := .ref t) (by rfl) ?_)
  show wpAny _ _ (field (.ref z) 1 >>= fun v => _) _ _ _
  refine wpAny_bind (wpAny_field hz rfl (x := rawInt (i : Int)) (by rfl) ?_)
  show wpAny _ _ (if ((i : Int) < 0) then _ else _) _ _ _
  rw [if_neg (by omega)]
  show wpAny _ _ (specialOf (.ref t) (Str.ofString "__getitem__") >>= fun r => _) _ _ _
  refine wpAny_bind (wpAny_specialOf t1.typeIs PyProof.Rows.slot_tuple_getitem.lookup ?_)
  show wpAny _ _ (if (Option.isNone (some _)) = true then _ else _) _ _ _
  rw [if_neg (by simp)]
  refine wpAny_bind (wpAny_mkInt ?_)
  refine wpAny_bind (wpAny_attempt (PyProof.Rows.getItem_tuple (j := i) t1 (by omega) (by omega) (by unfold seqIndex?; simp; omega) hx ?_))
  show wpAny _ _ (field (.ref z) 1 >>= fun v => _) _ _ _
  refine wpAny_bind (wpAny_field hz rfl (x := rawInt (i : Int)) (by rfl) ?_)
  show wpAny _ _ (setField (.ref z) 1 (rawInt ((i : Int) - 1)) >>= fun _ => _) _ _ _
  refine wpAny_bind (wpAny_setField_rec hz (by simp) fun h' f' k' => ?_)
  exact wpAny_pure ⟨_, rfl, wpAny_pure (hQ h' f' k')⟩
theorem revT_end {z t : Addr} {Q : Option Value → Shared → Prop} (hh : A.handled = none) (hz : IsRevT s.heap z t (-1))
    (hQ : ∀ h', Heap.ExtBut z s.heap h' → Q none { s with heap := h' }) : wpAny (model prog w) A (pyNext (.ref z)) Q E s := by
  have hT : s.TypeIs (.ref z) "reversed" := ⟨_, hz, rfl⟩
  obtain ⟨hp, g, d, tk, os⟩ := s
  unfold pyNext
  refine wpAny_bind (wpAny_attempt (wpAny_callSpecial?_slot (name := Str.ofString "__next__") hT slot_rn (wpAny_call_entry slot_rn hT entry_rn ?_ (args_rn _))))
  show wpAny _ _ (field (.ref z) 0 >>= fun v => _) _ _ _
  refine wpAny_bind (wpAny_field hz rfl (x := .ref t) (by rfl) ?_)
  show wpAny _ _ (field (.ref z) 1 >>= fun v => _) _ _ _
  refine wpAny_bind (wpAny_field hz rfl (x := rawInt (-1)) (by rfl) ?_)
  show wpAny _ _ (if ((-1 : Int) < 0) then _ else _) _ _ _
  rw [if_pos (by decide)]
  refine wpAny_bind (wpAny_rule (wpAny_bind ?_))
  show wpAny _ _ (setField (.ref z) 1 (rawInt (-1)) >>= fun _ => setField (.ref z) 0 .none) _ _ _
  refine wpAny_bind (wpAny_setField_rec hz (by simp) fun h1 f1 k1 => ?_)
  refine wpAny_setField_rec f1 (by simp) fun h2 f2 k2 => ?_
  refine wpAny_bind ?_
  unfold Builtin.SmallTypes.stopIteration
  simp only [newExc, newTuple]
  have kk : Heap.ExtBut z hp h2 := fun b o n q => k2.extBut b o n (k1.extBut b o n q)
  refine wpAny_bind (wpAny_bind (wpAny_newObj_type ?_ (by size_fits)))
  refine wpAny_bind (m := firstArgMember _ _) (wpAny_of_eq (a := Value.none) (by first | rfl | (simp only [firstArgMember]; rfl)) ?_)
  refine wpAny_newObj_type ?_ (by size_fits); simp only [raiseNew]; refine wpAny_bind (wpAny_handled ?_)
  first | rw [show A.in1.handled = none from hh] | rw [hh]
  refine wpAny_bind (wpAny_pure (wpAny_throw ?_))
  exact wpAny_bind (wpAny_isInstance (T := "StopIteration") (b := true) ⟨_, Heap.get?_push_size _ rfl, rfl⟩ isSubtype_stop (wpAny_pure (hQ _ ((kk.push _).push _))))
end
def Itvt (K : PySem.W.Frag) (a : Addr) (n : Nat) : It :=
  ⟨fun i H => i < n ∧ ∃ xs, SqT K H a xs ∧ xs.length = n, fun i H x H' => H' = H ∧ ∀ xs, SqT K H a xs → xs[n - 1 - i]? = some x, fun i _ => n ≤ i⟩
theorem turn_revT {P : Program} {w : World} {K : PySem.W.Frag} {tg : Expr} (a it : Addr) (n : Nat) (hn : n ≤ sizeLine) (hne : it ≠ a) : Turn P w K tg (Itvt K a n) [it] it (fun i h => i ≤ n ∧ IsRevT h it a ((n : Int) - 1 - (i : Int))) where
  mem := by simp
  obj := fun i h st b hb => by
    have e : b = it := by simpa using hb
    subst e
    exact ⟨_, st.2, fun v z => by cases z⟩
  keep := fun i h h' st k => ⟨st.1, k it (by simp) _ st.2⟩
  item := by
    intro X hP hw hK hc i pins s σ H E I hf st hg
    subst hP hw hK
    obtain ⟨hi, xs, hq, hn2⟩ := hg
    obtain ⟨its, rv, p, hz⟩ := I.tuple hq
    have hlen := rv.length
    have hx : xs[n - 1 - i]? = some (xs[n - 1 - i]'(by omega)) := List.getElem?_eq_getElem (by omega)
    obtain ⟨u, hu, ru⟩ := rv.get hx
    obtain ⟨f0, f1, f2, f3, f4, f5⟩ := hf it (by simp)
    have e1 : (n : Int) - 1 - (i : Int) = ((n - 1 - i : Nat) : Int) := by omega
    have st' := st.2
    rw [e1] at st'
    have sl : sizeLine = 16777216 := by decide
    refine revT_item st' p (x := u) (by simpa using hu) (by rw [List.size_toArray]; omega) hne fun h' st2 sb => ?_
    have I1 : Inv X pins σ H { s with heap := h', toks := s.toks + 1 } := I.turned (t' := s.toks + 1) (fun b o hb e => (sb.2 b hb).trans e) f0 f1 f3 f4 f5
    have e2 : ((n - 1 - i : Nat) : Int) - 1 = (n : Int) - 1 - ((i + 1 : Nat) : Int) := by omega
    rw [e2] at st2
    exact ⟨u, rfl, go_of (s := { s with heap := h', toks := s.toks + 1 }) st2 rfl rfl (by decide) ⟨_, H, I1, ru, ⟨rfl, fun ys hy => by rw [I.tuple_inj hy hq]; exact hx⟩, ⟨hi, st2⟩, fun b hb => (hf b hb).1⟩⟩
  done := by
    intro X hP hw hK hc i pins s σ H E I hf st hg
    subst hP hw hK
    obtain ⟨f0, f1, f2, f3, f4, f5⟩ := hf it (by simp)
    have hg' : n ≤ i := hg
    have e1 : (n : Int) - 1 - (i : Int) = -1 := by have := st.1; omega
    have st' := st.2
    rw [e1] at st'
    exact revT_end (I.ok.hd hc) st' fun h' eb => ⟨rfl, I.turned (t' := s.toks) (fun b o hb e => eb b o hb e) f0 f1 f3 f4 f5⟩
  self := fun _ _ _ _ _ st h => by
    have hT : Shared.TypeIs _ (.ref it) "reversed" := ⟨_, st.2, rfl⟩
    refine wpAny_pyIter_slot hT slot_rit (wpAny_call_entry slot_rit hT entry_rit ?_ (args_rit _))
    show wpAny _ _ (ret (.ref it)) _ _ _
    exact wpAny_pure ⟨_, rfl, "reversed", _, hT, slot_rn.lookup, h⟩
def iRevT (K : PySem.W.Frag) (ta : TA) : TI := fun σ H R => ta σ H fun vs H1 => ∃ a xs, vs = [.ref a] ∧ SqT K H1 a xs ∧ R (Itvt K a xs.length) H1
theorem pi_revT {X : Cx} {tg l : Expr} {ta : TA} {p pos : Pos} (hg : Gl X "reversed") (hm : X.mg "reversed" = none) (ha : PA X [l] ta) (hs : starEach [l] X.env = [(false, eval l X.env)] := by rfl) : PI X tg (.Call (.Name "reversed" p) [l] [] pos) (iRevT X.K ta) := by
  intro pins s σ H R I h
  refine Call_ (ld_blt I hg hm boot_reversed (PyProof.Rows.callWith_type1 (thn (ha pos pins s σ H _ I h) fun us s1 ⟨vs, H1, I1, r1, q1⟩ => ?_) hs rfl))
  obtain ⟨a, xs, e, hq, q⟩ := q1
  subst e
  obtain ⟨u, rfl, rx⟩ := r1.one
  cases rx
  obtain ⟨its, rv, pl, hz⟩ := I1.tuple hq
  have hlen := rv.length
  have sl : sizeLine = 16777216 := by decide
  refine call_revT pl (by rw [List.size_toArray]; omega) ?_
  have hit : IsRevT (s1.heap.push { cls := .type "reversed", data := .fields #[.ref a, rawInt ((its.toArray.size : Int) - 1)] }) s1.heap.objs.size a ((xs.length : Int) - 1 - ((0 : Nat) : Int)) := by
    have e : (its.toArray.size : Int) - 1 = (xs.length : Int) - 1 - ((0 : Nat) : Int) := by rw [List.size_toArray, ← hlen]; simp
    rw [← e]
    exact Heap.get?_push_size _ rfl
  obtain ⟨o1, g1, _⟩ := id pl
  have tz := turn_revT (P := X.prog) (w := X.w) (K := X.K) (tg := tg) a s1.heap.objs.size xs.length (by omega) (Nat.ne_of_gt (Heap.lt_size g1))
  refine tz.self X.A 0 { s1 with heap := s1.heap.push { cls := .type "reversed", data := .fields #[.ref a, rawInt ((its.toArray.size : Int) - 1)] }, toks := s1.toks + 1 + 1 } _ _ ⟨Nat.zero_le _, hit⟩ ?_
  refine ⟨s1.heap.objs.size, [s1.heap.objs.size], _, _, H1, rfl, I1.kept (t' := s1.toks + 1 + 1) fun b o e => Heap.get?_push_of_some _ e, tz, ⟨Nat.zero_le _, hit⟩, fun b hb => ?_, q⟩
  have e : b = s1.heap.objs.size := by simpa using hb
  subst e
  exact I1.fpOk (Nat.le_refl _) (I1.hok.fresh (Nat.le_refl _))
theorem for_revT {K : PySem.W.Frag} {a : Addr} {xs : List V} {g : TG} {tb : TS} {D : Ends} {σ : St} {H : Hp} (Pv : Nat → St → Hp → Prop) (h0 : Pv 0 σ H) (hl : ∀ i σ H, i ≤ xs.length → Pv i σ H → SqT K H a xs)
    (hs : ∀ i x σ H, i < xs.length → xs[xs.length - 1 - i]? = some x → Pv i σ H → g x σ H fun σ2 H2 => tb { D with nx := Pv (i + 1), ct := Pv (i + 1), bk := D.nx } σ2 H2) (hd : ∀ σ H, Pv xs.length σ H → D.nx σ H) :
    ∃ W : Nat → Nat → St → Hp → Prop, (∃ m, W 0 m σ H) ∧ ∀ i m σ H, W i m σ H →
      ((Itvt K a xs.length).stop i H ∧ D.nx σ H) ∨ ((Itvt K a xs.length).go i H ∧ ∃ N : St → Hp → Prop, (∀ σ' H', N σ' H' → ∃ m', m' < m ∧ W (i + 1) m' σ' H') ∧ ∀ x H', (Itvt K a xs.length).yld i H x H' → g x σ H' fun σ2 H2 => tb { D with nx := N, ct := N, bk := D.nx } σ2 H2) := by
  refine ⟨fun i m σ H => m = xs.length - i ∧ i ≤ xs.length ∧ Pv i σ H, ⟨xs.length, by simp, Nat.zero_le _, h0⟩, ?_⟩
  rintro i m σ H ⟨rfl, hi, p⟩
  have q := hl i σ H hi p
  by_cases hlt : i < xs.length
  · refine .inr ⟨⟨hlt, xs, q, rfl⟩, Pv (i + 1), fun σ' H' p' => ⟨xs.length - (i + 1), by omega, rfl, hlt, p'⟩, fun x H' y => ?_⟩
    obtain ⟨e, y⟩ := y
    subst e
    exact hs i x σ _ hlt (y xs q) p
  · have e : i = xs.length := by omega
    subst e
    exact .inl ⟨Nat.le_refl _, hd σ H p⟩
end L2
namespace L2
open PySem PySem.Spec PyProof.Rows
def Its (z : Str) : It := ⟨fun i _ => i < z.cps.size, fun i H x H' => H' = H ∧ ∃ c, z.cps[i]? = some c ∧ x = .str ⟨#[c]⟩, fun i _ => z.cps.size ≤ i⟩
theorem turn_str {P : Program} {w : World} {K : PySem.W.Frag} {tg : Expr} (it : Addr) (z : Str) (t : Tok) : Turn P w K tg (Its z) [it] it (fun i h => h.IsStrIter it "str_ascii_iterator" z t i) where
  mem := by simp
  obj := fun i h st b hb => by
    have e : b = it := by simpa using hb
    subst e
    obtain ⟨o, e, c, d⟩ := st
    exact ⟨o, e, fun v z => by rw [d] at z; cases z⟩
  keep := fun i h h' st k => by
    obtain ⟨o, e, c, d⟩ := st
    exact ⟨o, k it (by simp) o e, c, d⟩
  item := by
    intro X hP hw hK hc i pins s σ H E I hf st hg
    subst hP hw hK
    have hg' : i < z.cps.size := hg
    obtain ⟨f0, f1, f2, f3, f4, f5⟩ := hf it (by simp)
    have hx : z.cps[i]? = some z.cps[i] := Array.getElem?_eq_getElem hg'
    refine wpAny_pyNext_ascii_item st hx fun h' st2 sb => ?_
    have I1 : Inv X pins σ H { s with heap := h', toks := s.toks + 1 } := I.turned (t' := s.toks + 1) (fun b o hb e => (sb.2 b hb).trans e) f0 f1 f3 f4 f5
    obtain ⟨o, e, c, d⟩ := id st2
    exact ⟨_, rfl, go_of (s := { s with heap := h', toks := s.toks + 1 }) e c d (by decide) ⟨.str ⟨#[z.cps[i]]⟩, H, I1, ⟨_, rfl⟩, ⟨rfl, _, hx, rfl⟩, st2, fun b hb => (hf b hb).1⟩⟩
  done := by
    intro X hP hw hK hc i pins s σ H E I hf st hg
    subst hP hw hK
    have hg' : z.cps.size ≤ i := hg
    obtain ⟨f0, f1, f2, f3, f4, f5⟩ := hf it (by simp)
    exact wpAny_pyNext_ascii_end (I.ok.hd hc) st (Array.getElem?_eq_none hg') fun h' eb => ⟨rfl, I.turned (t' := s.toks) (fun b o hb e => eb b o hb e) f0 f1 f3 f4 f5⟩
  self := fun _ _ _ _ _ st h => wpAny_pyIter_striter_ascii st h
def iStr (tl : TE) : TI := fun σ H R => tl σ H fun x H1 => ∃ z, x = .str z ∧ (z.cps.all fun c => decide (c < 128)) = true ∧ R (Its z) H1
theorem pi_str {X : Cx} {tg l : Expr} {tl : TE} (hl : PE X l tl) : PI X tg l (iStr tl) := by
  intro pins s σ H R I h
  refine thn (hl pins s σ H _ I h) fun v s1 ⟨x, H1, I1, r1, q1⟩ => ?_
  obtain ⟨z, e, ha, q⟩ := q1
  subst e
  obtain ⟨t, rfl⟩ := r1
  refine wpAny_pyIter_ascii ha ?_
  refine ⟨s1.heap.objs.size, [s1.heap.objs.size], _, _, H1, rfl, I1.kept (t' := s1.toks) fun b o e => Heap.get?_push_of_some _ e, turn_str _ z t, ⟨_, Heap.get?_push_size _ rfl, rfl, rfl⟩, fun b hb => ?_, q⟩
  have e : b = s1.heap.objs.size := by simpa using hb
  subst e
  exact I1.fpOk (Nat.le_refl _) (I1.hok.fresh (Nat.le_refl _))
theorem for_str {z : Str} {g : TG} {tb : TS} {D : Ends} {σ : St} {H : Hp} (Pv : Nat → St → Hp → Prop) (h0 : Pv 0 σ H)
    (hs : ∀ i c σ H, z.cps[i]? = some c → Pv i σ H → g (.str ⟨#[c]⟩) σ H fun σ2 H2 => tb { D with nx := Pv (i + 1), ct := Pv (i + 1), bk := D.nx } σ2 H2) (hd : ∀ σ H, Pv z.cps.size σ H → D.nx σ H) :
    ∃ W : Nat → Nat → St → Hp → Prop, (∃ m, W 0 m σ H) ∧ ∀ i m σ H, W i m σ H →
      ((Its z).stop i H ∧ D.nx σ H) ∨ ((Its z).go i H ∧ ∃ N : St → Hp → Prop, (∀ σ' H', N σ' H' → ∃ m', m' < m ∧ W (i + 1) m' σ' H') ∧ ∀ x H', (Its z).yld i H x H' → g x σ H' fun σ2 H2 => tb { D with nx := N, ct := N, bk := D.nx } σ2 H2) := by
  refine ⟨fun i m σ H => m = z.cps.size - i ∧ i ≤ z.cps.size ∧ Pv i σ H, ⟨z.cps.size, by simp, Nat.zero_le _, h0⟩, ?_⟩
  rintro i m σ H ⟨rfl, hi, p⟩
  by_cases hlt : i < z.cps.size
  · refine .inr ⟨hlt, Pv (i + 1), fun σ' H' p' => ⟨z.cps.size - (i + 1), by omega, rfl, hlt, p'⟩, fun x H' y => ?_⟩
    obtain ⟨e, c, hc, rfl⟩ := y
    subst e
    exact hs i c σ _ hc p
  · have e : i = z.cps.size := by omega
    subst e
    exact .inl ⟨Nat.le_refl _, hd σ H p⟩
def tRevL (K : PySem.W.Frag) (te : TE) : TE := fun σ H Q => te σ H fun x H1 => ∃ a xs, x = .ref a ∧ SqL K H1 a xs ∧ ∀ p, H1 p = none → Q (.ref p) (upd H1 p (.lst xs.reverse))
theorem pe_revL {X : Cx} {e : Expr} {te : TE} {p2 pos pu pc : Pos} (he : PE X e te) : PE X (.Subscript e (.Slice none none (some (.UnaryOp .USub (.Constant (.int 1) 0 pc) pu)) p2) pos) (tRevL X.K te) := by
  intro pins s σ H Q I h
  refine Subscript_ (thn (he pins s σ H _ I h) fun v s1 ⟨x, H1, I1, r1, q1⟩ => ?_)
  obtain ⟨a, xs, rfl, hx, q⟩ := q1
  cases (show v = Value.ref a from r1)
  refine wpAny_Slice ?_
  rw [evalPart_none]
  refine wpAny_pure (wpAny_pure ?_)
  have hs : PO X (some (.UnaryOp .USub (.Constant (.int 1) 0 pc) pu)) _ := po_some (pe_un un_neg pe_int)
  refine thn (hs pins s1 σ H1 (fun l H' => l = some (-1) ∧ H' = H1) I1 ⟨_, rfl, _, rfl, rfl, rfl⟩) fun vst s2 ⟨l, H2, I2, pl, q2⟩ => ?_
  obtain ⟨rfl, rfl⟩ := q2
  cases pl with
  | int i u =>
    have I3 : Inv X pins σ H2 { s2 with heap := s2.heap.push { cls := .type "slice", data := .fields #[.none, .none, .int (-1) u] } } := I2.kept (t' := s2.toks) fun b ob q => Heap.get?_push_of_some _ q
    obtain ⟨its, r, ht, hz⟩ := I3.list hx
    have hlen := r.length
    refine tail_any (T := "list") (ops := [.ref a, .ref s2.heap.objs.size]) ht.isList.typeIs slot_list_getitem.lookup ?_ (by with_unfolding_all rfl)
    refine wpAny_getItem_list_slice ht.isList (Heap.IsSliceOf.new ..) .none .none (.int (-1) u) (by simp) ?_ (by rw [List.size_toArray]; omega)
    rw [PySem.W.krv_pick]
    refine ⟨.ref _, _, I3.laid (t' := s2.toks) (o := .lst xs.reverse) (fun b ob q => Heap.get?_push_of_some _ q) (Nat.le_refl _) ?_, rfl, q _ (I3.hok.fresh (Nat.le_refl _))⟩
    exact ⟨by rw [List.length_reverse]; exact hz, its.reverse, 0, Paired.rev' r, Heap.get?_push_size _ rfl⟩
def tDUpdD (td ty : TE) : TE := fun σ H Q => td σ H fun x H1 => ∃ a, x = .ref a ∧ IsD H1 a ∧ ty σ H1 fun y H2 => ∃ l kvs more, y = .ref l ∧ l ≠ a ∧ H2 a = some (.dK kvs) ∧ H2 l = some (.dK more) ∧ kvs.length + more.length ≤ sizeLine ∧ Q .non (upd H2 a (.dK (mergeK kvs more)))
theorem pe_dupdD {X : Cx} {o e : Expr} {apos cpos : Pos} {td ty : TE} (hc : X.calm = true) (ho : PE X o td) (he : PE X e ty) (m : M1 X o "update" apos e cpos) : PE X (.Call (.Attribute o "update" apos) [e] [] cpos) (tDUpdD td ty) := by
  intro pins s σ H Q I h
  refine wpAny_Call_method m.base m.few m.line PySem.F.plainAttrs_dict PySem.F.slot_dict_update PySem.F.type_dict_update (thn (ho pins s σ H _ I h) fun u s1 ⟨x, H1, I1, rx, a, ex, d, q1⟩ => ?_)
  subst ex
  obtain rfl : u = Value.ref a := rx
  obtain ⟨t1, t2, _⟩ := isD_at I1 d
  refine ⟨t1, t2, ?_⟩
  rw [m.trees]
  refine Calls.callWith_builtin rfl (Calls.evalArgs_plain (Calls.spliced_cons (thn (he pins s1 σ H1 _ I1 q1) fun iv s2 ⟨y, H2, I2, ry, l, kvs, more, ey, hne, ea, el, hz, q2⟩ => Calls.spliced_nil ?_)))
  subst ey
  cases (show iv = Value.ref l from ry)
  obtain ⟨z, hsm, vs, rel, dd⟩ := dk_of I2.hok ea
  obtain ⟨z2, hsm2, vs2, rel2, dd2⟩ := dk_of I2.hok el
  refine call_meetsIn PySem.F.slot_dict_update dd.typeIs PySem.F.entry_dict_update (PySem.F.args_dict_update_2 _ _) (meets_dict_update (mixKind X.prog X.w) a l (Ne.symm hne) hsm2) ⟨vs, vs2, dd, dd2, by rw [← rel.length, ← rel2.length]; exact hz, fun h' hd _ sb => ?_⟩
  have hn : (mergeK kvs more).length ≤ sizeLine := Nat.le_trans (length_mergeK more kvs) hz
  have he : ∃ q, h'.get? a = some q := let ⟨q, _, _, hq, _⟩ := hd; ⟨q, hq⟩
  exact ⟨.non, _, I2.write (x := a) (e := a) (by rw [ea]; exact True.intro) (.inl rfl) (fun b q hb z => (sb.2 b hb).trans z) he (dk_new hn hsm (rel2.merge rel) hd), rfl, q2⟩
end L2
namespace L2
open PySem PySem.Spec PyProof.Rows
def eqL : List V → List V → Bool
  | [], [] => true
  | x :: xs, y :: ys => eqV x y && eqL xs ys
  | _, _ => false
theorem eqL_range : ∀ (xs ys : List V), ((List.range (min xs.length ys.length)).all (fun j => eqV (xs.getD j .non) (ys.getD j .non)) && (xs.length == ys.length)) = eqL xs ys
  | [], [] => rfl
  | [], y :: ys => by simp [eqL]
  | x :: xs, [] => by simp [eqL]
  | x :: xs, y :: ys => by
    have ih := eqL_range xs ys
    show _ = (eqV x y && eqL xs ys)
    rw [← ih, List.length_cons, List.length_cons, Nat.succ_min_succ, List.range_succ_eq_map, List.all_cons, List.all_map]
    simp only [Function.comp_def, List.getD_cons_zero, List.getD_cons_succ, Nat.succ_eq_add_one]
    rw [Bool.and_assoc]
    congr 2
    simp
theorem flat_items {A : Around} {s : Shared} {xs ys : List V} {its its2 : List Value} (r : Vals xs its) (r2 : Vals ys its2) (fx : xs.all flatV = true) (fy : ys.all flatV = true) (j : Nat) (h1 : j < its.toArray.size) (h2 : j < its2.toArray.size) :
    SeqAt.EqAt A s its.toArray[j] its2.toArray[j] (eqV (xs.getD j .non) (ys.getD j .non)) := by
  have l1 := r.length
  have l2 := r2.length
  have k1 : j < its.length := by simpa using h1
  have k2 : j < its2.length := by simpa using h2
  have g1 : xs[j]? = some (xs[j]'(by omega)) := List.getElem?_eq_getElem (by omega)
  have g2 : ys[j]? = some (ys[j]'(by omega)) := List.getElem?_eq_getElem (by omega)
  obtain ⟨u1, e1, q1⟩ := r.get g1
  obtain ⟨u2, e2, q2⟩ := r2.get g2
  have f1 : its.toArray[j] = u1 := by
    have := (List.getElem?_eq_some_iff.mp e1).2
    simpa using this
  have f2 : its2.toArray[j] = u2 := by
    have := (List.getElem?_eq_some_iff.mp e2).2
    simpa using this
  rw [f1, f2]
  have d1 : xs.getD j .non = xs[j]'(by omega) := by rw [List.getD_eq_getElem?_getD, g1]; rfl
  have d2 : ys.getD j .non = ys[j]'(by omega) := by rw [List.getD_eq_getElem?_getD, g2]; rfl
  rw [d1, d2]
  exact eqAt_V q1 q2 (List.all_eq_true.mp fx _ (List.getElem_mem _)) (List.all_eq_true.mp fy _ (List.getElem_mem _))
def rTT (K : PySem.W.Frag) (neg : Bool) : R2 := fun x y H Q => ∃ a b xs ys, x = .ref a ∧ y = .ref b ∧ SqT K H a xs ∧ SqT K H b ys ∧ xs.all flatV = true ∧ ys.all flatV = true ∧ Q (.bl (if neg then !eqL xs ys else eqL xs ys)) H
theorem op_eqTT {X : Cx} (hu : X.A.units < cLine) : OpR X (compareOp .Eq) (rTT X.K false) := by
  intro pins s σ H x y v u Q I rx ry h
  obtain ⟨a, b, xs, ys, rfl, rfl, ha, hb, fx, fy, q⟩ := h
  cases rx
  cases ry
  obtain ⟨its, r, pl, hz⟩ := I.tuple ha
  obtain ⟨its2, r2, pl2, hz2⟩ := I.tuple hb
  have l1 := r.length
  have l2 := r2.length
  refine SeqAt.RcAt.tuples (e := fun j => eqV (xs.getD j .non) (ys.getD j .non)) pl pl2 hu (fun j h1 h2 => flat_items r r2 fx fy j h1 h2) X.prog X.w X.xe _ ?_
  have e : ((List.range (min its.toArray.size its2.toArray.size)).all (fun j => eqV (xs.getD j .non) (ys.getD j .non)) && its.toArray.size == its2.toArray.size) = eqL xs ys := by
    rw [← eqL_range]
    simp only [List.size_toArray, ← l1, ← l2]
  rw [e]
  exact ⟨.bl _, H, I, rfl, q⟩
theorem op_neTT {X : Cx} (hu : X.A.units < cLine) : OpR X (compareOp .NotEq) (rTT X.K true) := by
  intro pins s σ H x y v u Q I rx ry h
  obtain ⟨a, b, xs, ys, rfl, rfl, ha, hb, fx, fy, q⟩ := h
  cases rx
  cases ry
  obtain ⟨its, r, pl, hz⟩ := I.tuple ha
  obtain ⟨its2, r2, pl2, hz2⟩ := I.tuple hb
  have l1 := r.length
  have l2 := r2.length
  refine SeqAt.RcNeAt.tuples (e := fun j => eqV (xs.getD j .non) (ys.getD j .non)) pl pl2 hu (fun j h1 h2 => flat_items r r2 fx fy j h1 h2) X.prog X.w X.xe _ ?_
  have e : ((List.range (min its.toArray.size its2.toArray.size)).all (fun j => eqV (xs.getD j .non) (ys.getD j .non)) && its.toArray.size == its2.toArray.size) = eqL xs ys := by
    rw [← eqL_range]
    simp only [List.size_toArray, ← l1, ← l2]
  rw [e]
  exact ⟨.bl _, H, I, rfl, q⟩
end L2
namespace L2
open PySem PySem.Spec PyProof.Rows
section
variable {prog : Program} {w : World} {A : Around} {E : Value → Shared → Prop} {s : Shared}
theorem zipL_next {z TI TO i1 i2 l1 l2 : Addr} {i : Nat} {xs ys : Array Value} {x y a b f0 f1 : Value} {Q : Value → Shared → Prop} (ap : ZipApart z TI TO i1 i2 l1 l2) (hz : IsZip2 s.heap z f0 f1 TI TO) (hI : IsPair s.heap TI (.ref i1) (.ref i2)) (hO : IsPair s.heap TO a b)
    (h1 : s.heap.IsListIter i1 l1 i) (h2 : s.heap.IsListIter i2 l2 i) (t1 : s.heap.IsList l1 xs) (t2 : s.heap.IsList l2 ys) (hx : xs[i]? = some x) (hy : ys[i]? = some y) (hf : f0 = .none ∨ ∃ T : Nat, f0 = rawInt T)
    (hQ : ∀ h' f0' f1' a' b', IsZip2 h' z f0' f1' TI TO → (f0' = .none ∨ ∃ T : Nat, f0' = rawInt T) → IsPair h' TO a' b' → h'.IsListIter i1 l1 (i + 1) → h'.IsListIter i2 l2 (i + 1) → IsPair h' s.heap.objs.size x y → h'.objs.size = s.heap.objs.size + 1 →
      (∀ c o, c ≠ z → c ≠ TO → c ≠ i1 → c ≠ i2 → s.heap.get? c = some o → h'.get? c = some o) → Q (.ref s.heap.objs.size) { s with heap := h' }) :
    wpAny (model prog w) A (Builtin.SmallTypes.nextOf (.ref z)) Q E s := by
  have hT : s.TypeIs (.ref z) "zip" := ⟨_, hz, rfl⟩
  unfold Builtin.SmallTypes.nextOf
  refine wpAny_bind (wpAny_callSpecial?_slot (name := Str.ofString "__next__") hT F.slot_zip_next (wpAny_call_entry F.slot_zip_next hT F.entry_zip_next ?_ (F.args_zip_next_1 _)))
  obtain ⟨hp, g, d, tk, os⟩ := s
  show wpAny _ _ (field (.ref z) 2 >>= fun v => _) _ _ _
  refine wpAny_bind (wpAny_field hz rfl (x := .bool false) (by rfl) ?_)
  show wpAny _ _ (field (.ref z) 3 >>= fun v => _) _ _ _
  refine wpAny_bind (wpAny_field hz rfl (x := .ref TI) (by rfl) (wpAny_bind (wpAny_seqItems hI rfl ?_)))
  show wpAny _ _ (Builtin.SmallTypes.ownedTupleIsFree (.ref z) >>= fun v => _) _ _ _
  have free : ∀ (Q' : Bool → Shared → Prop) E', Q' true ⟨hp, g, d, tk, os⟩ → (∀ h', IsZip2 h' z f0 (.bool true) TI TO → Heap.SameBut z hp h' → Q' false ⟨h', g, d, tk, os⟩) → wpAny (model prog w) A.in1 (Builtin.SmallTypes.ownedTupleIsFree (.ref z)) Q' E' ⟨hp, g, d, tk, os⟩ := by
    intro Q' E' q1 q2
    unfold Builtin.SmallTypes.ownedTupleIsFree
    refine wpAny_bind (wpAny_field hz rfl (x := f0) (by rfl) ?_)
    rcases hf with rfl | ⟨T, rfl⟩
    · exact wpAny_pure q1
    · show wpAny _ _ (loadIfAlive (T : Int).toNat >>= fun v => _) _ _ _
      refine wpAny_bind (wpAny_alive ?_)
      by_cases c : (hp.get? (T : Int).toNat).isNone = true
      · show wpAny _ _ (if (hp.get? (T : Int).toNat).isNone = true then _ else _) _ _ _
        rw [if_pos c]
        exact wpAny_pure q1
      · show wpAny _ _ (if (hp.get? (T : Int).toNat).isNone = true then _ else _) _ _ _
        rw [if_neg c]
        refine wpAny_bind (wpAny_field hz rfl (x := f1) (by rfl) ?_)
        by_cases c2 : f1 = .bool true
        · subst c2
          show wpAny _ _ (if (Value.bool true != Value.bool true) = true then _ else _) _ _ _
          rw [if_neg (by simp)]
          exact wpAny_pure (q2 hp hz ⟨rfl, fun _ _ => rfl⟩)
        · show wpAny _ _ (if (f1 != Value.bool true) = true then _ else _) _ _ _
          rw [if_pos (by simpa using c2)]
          exact wpAny_bind (wpAny_setField_rec hz (by simp) fun h' f' k' => wpAny_pure (q2 h' f' k'))
  refine wpAny_bind (free _ _ ?_ fun h' hz' sb => ?_)
  · show wpAny _ _ (rule _ >>= fun _ => _) _ _ _
    refine wpAny_bind (wpAny_rule (wpAny_bind (wpAny_field hz rfl (x := .ref TO) (by rfl) ?_)))
    show wpAny _ _ (setField (.ref z) 0 .ellipsis >>= fun _ => _) _ _ _
    refine wpAny_bind (wpAny_setField_rec hz (by simp) fun h₁ f₁ k₁ => ?_)
    replace k₁ : Heap.SameBut z hp h₁ := k₁
    have hz₁ : IsZip2 h₁ z .ellipsis f1 TI TO := f₁
    have hO₁ : IsPair h₁ TO a b := k₁.extBut _ _ ap.TOz hO
    have a₁ : h₁.IsListIter i1 l1 i := h1.at fun o q => k₁.extBut i1 o ap.i1z q
    have b₁ : h₁.IsListIter i2 l2 i := h2.at fun o q => k₁.extBut i2 o ap.i2z q
    have c₁ : h₁.IsList l1 xs := t1.extBut k₁.extBut ap.l1z
    have d₁ : h₁.IsList l2 ys := t2.extBut k₁.extBut ap.l2z
    refine wpAny_bind ?_
    show wpAny _ _ (forIn [(Value.ref i1, 0), (Value.ref i2, 1)] (none, ()) _) _ _ ⟨h₁, g, d, tk, os⟩
    rw [List.forIn_cons]
    refine wpAny_bind (wpAny_bind (wpAny_onRaise ?_))
    show wpAny _ _ (Builtin.SmallTypes.nextOf (.ref i1) >>= fun v => pure (some v)) _ _ _
    refine wpAny_bind (wpAny_nextOf_list_item a₁ c₁ hx fun h₂ a₂ k₂ => wpAny_pure ?_)
    replace k₂ : Heap.SameBut i1 h₁ h₂ := k₂
    have hz₂ : IsZip2 h₂ z .ellipsis f1 TI TO := k₂.extBut _ _ (Ne.symm ap.i1z) hz₁
    have hO₂ : IsPair h₂ TO a b := k₂.extBut _ _ ap.TOi1 hO₁
    have b₂ : h₂.IsListIter i2 l2 i := b₁.at fun o q => k₂.extBut i2 o (Ne.symm ap.i12) q
    have d₂ : h₂.IsList l2 ys := d₁.extBut k₂.extBut ap.l2i1
    show wpAny _ _ (seqItems? (.ref TO) >>= fun v => _) _ _ ⟨h₂, g, d, tk, os⟩
    refine wpAny_bind (wpAny_seqItems hO₂ rfl ?_)
    show wpAny _ _ (updateSeq TO (fun x_1 => x_1.setIfInBounds 0 x) >>= fun _ => _) _ _ _
    refine wpAny_bind (wpAny_updateSeq_pair hO₂ fun h₃ f₃ k₃ => wpAny_bind (wpAny_letGo (wpAny_pure ?_)))
    replace k₃ : Heap.SameBut TO h₂ h₃ := k₃
    have hO₃ : IsPair h₃ TO x b := f₃
    have hz₃ : IsZip2 h₃ z .ellipsis f1 TI TO := k₃.extBut _ _ (Ne.symm ap.TOz) hz₂
    have a₃ : h₃.IsListIter i1 l1 (i + 1) := a₂.at fun o q => k₃.extBut i1 o (Ne.symm ap.TOi1) q
    have b₃ : h₃.IsListIter i2 l2 i := b₂.at fun o q => k₃.extBut i2 o (Ne.symm ap.TOi2) q
    have d₃ : h₃.IsList l2 ys := d₂.extBut k₃.extBut ap.l2TO
    show wpAny _ _ (forIn [(Value.ref i2, 1)] (none, ()) _) _ _ ⟨h₃, g, d, tk, os⟩
    rw [List.forIn_cons]
    refine wpAny_bind (wpAny_bind (wpAny_onRaise ?_))
    show wpAny _ _ (Builtin.SmallTypes.nextOf (.ref i2) >>= fun v => pure (some v)) _ _ _
    refine wpAny_bind (wpAny_nextOf_list_item b₃ d₃ hy fun h₄ b₄ k₄ => wpAny_pure ?_)
    replace k₄ : Heap.SameBut i2 h₃ h₄ := k₄
    have hz₄ : IsZip2 h₄ z .ellipsis f1 TI TO := k₄.extBut _ _ (Ne.symm ap.i2z) hz₃
    have hO₄ : IsPair h₄ TO x b := k₄.extBut _ _ ap.TOi2 hO₃
    have a₄ : h₄.IsListIter i1 l1 (i + 1) := a₃.at fun o q => k₄.extBut i1 o ap.i12 q
    show wpAny _ _ (seqItems? (.ref TO) >>= fun v => _) _ _ ⟨h₄, g, d, tk, os⟩
    refine wpAny_bind (wpAny_seqItems hO₄ rfl ?_)
    show wpAny _ _ (updateSeq TO (fun x_1 => x_1.setIfInBounds 1 y) >>= fun _ => _) _ _ _
    refine wpAny_bind (wpAny_updateSeq_pair hO₄ fun h₅ f₅ k₅ => wpAny_bind (wpAny_letGo (wpAny_pure ?_)))
    replace k₅ : Heap.SameBut TO h₄ h₅ := k₅
    have hO₅ : IsPair h₅ TO x y := f₅
    have hz₅ : IsZip2 h₅ z .ellipsis f1 TI TO := k₅.extBut _ _ (Ne.symm ap.TOz) hz₄
    have a₅ : h₅.IsListIter i1 l1 (i + 1) := a₄.at fun o q => k₅.extBut i1 o (Ne.symm ap.TOi1) q
    have b₅ : h₅.IsListIter i2 l2 (i + 1) := b₄.at fun o q => k₅.extBut i2 o (Ne.symm ap.TOi2) q
    show wpAny _ _ (pure (none, ())) _ _ ⟨h₅, g, d, tk, os⟩
    refine wpAny_pure ?_
    show wpAny _ _ (seqItems? (.ref TO) >>= fun v => _) _ _ ⟨h₅, g, d, tk, os⟩
    refine wpAny_bind (wpAny_seqItems hO₅ rfl ?_)
    show wpAny _ _ (newTuple [x, y] >>= fun v => _) _ _ ⟨h₅, g, d, tk, os⟩
    have hsz : h₅.objs.size = hp.objs.size := by rw [k₅.1, k₄.1, k₃.1, k₂.1, k₁.1]
    refine wpAny_bind (wpAny_newTuple ?_)
    rw [hsz]
    have up : ∀ {c o}, h₅.get? c = some o → (h₅.push { cls := .type "tuple", data := .seq #[x, y] }).get? c = some o := fun q => Heap.get?_push_of_some _ q
    have hN : IsPair (h₅.push { cls := .type "tuple", data := .seq #[x, y] }) hp.objs.size x y := by
      show _ = _
      rw [← hsz]; exact Heap.get?_push_size _ rfl
    have hz₆ := up hz₅
    have hO₆ := up hO₅
    have a₆ := a₅.at fun o q => up q
    have b₆ := b₅.at fun o q => up q
    have kk : ∀ c o, c ≠ z → c ≠ TO → c ≠ i1 → c ≠ i2 → hp.get? c = some o → (h₅.push { cls := .type "tuple", data := .seq #[x, y] }).get? c = some o := fun c o n1 n2 n3 n4 q => up (k₅.extBut c o n2 (k₄.extBut c o n4 (k₃.extBut c o n2 (k₂.extBut c o n3 (k₁.extBut c o n1 q)))))
    have hzl : z < hp.objs.size := Heap.lt_size hz
    have hOl : TO < hp.objs.size := Heap.lt_size hO
    have hs6 : (h₅.push { cls := .type "tuple", data := .seq #[x, y] }).objs.size = hp.objs.size + 1 := by rw [Heap.size_push, hsz]
    generalize h₅.push { cls := .type "tuple", data := .seq #[x, y] } = h₆ at hN hz₆ hO₆ a₆ b₆ kk hs6
    refine wpAny_bind (by
      unfold Builtin.SmallTypes.ownedTupleHandOut
      refine wpAny_bind (wpAny_setField_rec hz₆ (by simp) fun h₇ f₇ k₇ => ?_)
      have hz₇ : IsZip2 h₇ z (rawInt (hp.objs.size : Int)) f1 TI TO := f₇
      replace k₇ : Heap.SameBut z h₆ h₇ := k₇
      refine wpAny_setField_rec hz₇ (by simp) fun h₈ f₈ k₈ => ?_
      have hz₈ : IsZip2 h₈ z (rawInt (hp.objs.size : Int)) (.bool false) TI TO := f₈
      replace k₈ : Heap.SameBut z h₇ h₈ := k₈
      have up2 : ∀ c o, c ≠ z → h₆.get? c = some o → h₈.get? c = some o := fun c o n q => k₈.extBut c o n (k₇.extBut c o n q)
      exact wpAny_pure ⟨_, rfl, wpAny_pure (hQ h₈ _ _ _ _ hz₈ (.inr ⟨hp.objs.size, rfl⟩) (up2 _ _ ap.TOz hO₆) (a₆.at fun o q => up2 _ _ ap.i1z q) (b₆.at fun o q => up2 _ _ ap.i2z q) (up2 _ _ (Nat.ne_of_gt hzl) hN) (by rw [k₈.1, k₇.1]; exact hs6) fun c o n1 n2 n3 n4 q => up2 c o n1 (kk c o n1 n2 n3 n4 q))⟩)
  · replace sb : Heap.SameBut z hp h' := sb
    have a₁ : h'.IsListIter i1 l1 i := h1.at fun o q => sb.extBut i1 o ap.i1z q
    have b₁ : h'.IsListIter i2 l2 i := h2.at fun o q => sb.extBut i2 o ap.i2z q
    have c₁ : h'.IsList l1 xs := t1.extBut sb.extBut ap.l1z
    have d₁ : h'.IsList l2 ys := t2.extBut sb.extBut ap.l2z
    have hO₁ : IsPair h' TO a b := sb.extBut _ _ ap.TOz hO
    show wpAny _ _ (forIn #[Value.ref i1, Value.ref i2] (none, #[]) _ >>= fun v => _) _ _ ⟨h', g, d, tk, os⟩
    refine wpAny_bind ?_
    rw [show (#[Value.ref i1, Value.ref i2] : Array Value) = [Value.ref i1, Value.ref i2].toArray from rfl, List.forIn_toArray, List.forIn_cons]
    refine wpAny_bind (wpAny_bind (wpAny_holding ?_))
    show wpAny _ _ (Builtin.SmallTypes.nextOf (.ref i1) >>= fun v => pure (some v)) _ _ _
    refine wpAny_bind (wpAny_nextOf_list_item a₁ c₁ hx fun h₂ a₂ k₂ => wpAny_pure (wpAny_pure ?_))
    replace k₂ : Heap.SameBut i1 h' h₂ := k₂
    have hz₂ : IsZip2 h₂ z f0 (.bool true) TI TO := k₂.extBut _ _ (Ne.symm ap.i1z) hz'
    have hO₂ : IsPair h₂ TO a b := k₂.extBut _ _ ap.TOi1 hO₁
    have b₂ : h₂.IsListIter i2 l2 i := b₁.at fun o q => k₂.extBut i2 o (Ne.symm ap.i12) q
    have d₂ : h₂.IsList l2 ys := d₁.extBut k₂.extBut ap.l2i1
    show wpAny _ _ (forIn [Value.ref i2] (none, #[x]) _) _ _ ⟨h₂, g, d, tk, os⟩
    rw [List.forIn_cons]
    refine wpAny_bind (wpAny_bind (wpAny_holding ?_))
    show wpAny _ _ (Builtin.SmallTypes.nextOf (.ref i2) >>= fun v => pure (some v)) _ _ _
    refine wpAny_bind (wpAny_nextOf_list_item b₂ d₂ hy fun h₄ b₄ k₄ => wpAny_pure (wpAny_pure ?_))
    replace k₄ : Heap.SameBut i2 h₂ h₄ := k₄
    have hz₄ : IsZip2 h₄ z f0 (.bool true) TI TO := k₄.extBut _ _ (Ne.symm ap.i2z) hz₂
    have hO₄ : IsPair h₄ TO a b := k₄.extBut _ _ ap.TOi2 hO₂
    have a₄ : h₄.IsListIter i1 l1 (i + 1) := a₂.at fun o q => k₄.extBut i1 o ap.i12 q
    show wpAny _ _ (pure (none, #[x, y])) _ _ ⟨h₄, g, d, tk, os⟩
    refine wpAny_pure ?_
    show wpAny _ _ (newTuple [x, y] >>= fun v => _) _ _ ⟨h₄, g, d, tk, os⟩
    have hsz : h₄.objs.size = hp.objs.size := by rw [k₄.1, k₂.1, sb.1]
    refine wpAny_bind (wpAny_newTuple ?_)
    rw [hsz]
    have up : ∀ {c o}, h₄.get? c = some o → (h₄.push { cls := .type "tuple", data := .seq #[x, y] }).get? c = some o := fun q => Heap.get?_push_of_some _ q
    have hN : IsPair (h₄.push { cls := .type "tuple", data := .seq #[x, y] }) hp.objs.size x y := by
      show _ = _
      rw [← hsz]; exact Heap.get?_push_size _ rfl
    exact wpAny_pure ⟨_, rfl, wpAny_pure (hQ _ _ _ _ _ (up hz₄) hf (up hO₄) (a₄.at fun o q => up q) (b₄.at fun o q => up q) hN (by rw [Heap.size_push, hsz]) fun c o n1 n2 n3 n4 q => up (k₄.extBut c o n4 (k₂.extBut c o n3 (sb.extBut c o n1 q))))⟩
theorem zipL_end {z TI TO i1 i2 l1 l2 : Addr} {i : Nat} {xs : Array Value} {f0 f1 : Value} {Q : Value → Shared → Prop} (hh : A.handled = none) (ap : ZipApart z TI TO i1 i2 l1 l2) (hz : IsZip2 s.heap z f0 f1 TI TO) (hI : IsPair s.heap TI (.ref i1) (.ref i2))
    (h1 : s.heap.IsListIter i1 l1 i) (t1 : s.heap.IsList l1 xs) (hx : xs[i]? = none) (hf : f0 = .none ∨ ∃ T : Nat, f0 = rawInt T)
    (hE : ∀ h' e, (∀ c o, c ≠ z → c ≠ TO → c ≠ i1 → c ≠ i2 → s.heap.get? c = some o → h'.get? c = some o) → (∃ o, h'.get? e = some o ∧ o.cls = .type "StopIteration") → E (.ref e) { s with heap := h' }) : wpAny (model prog w) A (Builtin.SmallTypes.nextOf (.ref z)) Q E s := by
  have hT : s.TypeIs (.ref z) "zip" := ⟨_, hz, rfl⟩
  unfold Builtin.SmallTypes.nextOf
  refine wpAny_bind (wpAny_callSpecial?_slot (name := Str.ofString "__next__") hT F.slot_zip_next (wpAny_call_entry F.slot_zip_next hT F.entry_zip_next ?_ (F.args_zip_next_1 _)))
  obtain ⟨hp, g, d, tk, os⟩ := s
  show wpAny _ _ (field (.ref z) 2 >>= fun v => _) _ _ _
  refine wpAny_bind (wpAny_field hz rfl (x := .bool false) (by rfl) ?_)
  show wpAny _ _ (field (.ref z) 3 >>= fun v => _) _ _ _
  refine wpAny_bind (wpAny_field hz rfl (x := .ref TI) (by rfl) (wpAny_bind (wpAny_seqItems hI rfl ?_)))
  show wpAny _ _ (Builtin.SmallTypes.ownedTupleIsFree (.ref z) >>= fun v => _) _ _ _
  have free : ∀ (Q' : Bool → Shared → Prop) E', Q' true ⟨hp, g, d, tk, os⟩ → (∀ h', IsZip2 h' z f0 (.bool true) TI TO → Heap.SameBut z hp h' → Q' false ⟨h', g, d, tk, os⟩) → wpAny (model prog w) A.in1 (Builtin.SmallTypes.ownedTupleIsFree (.ref z)) Q' E' ⟨hp, g, d, tk, os⟩ := by
    intro Q' E' q1 q2
    unfold Builtin.SmallTypes.ownedTupleIsFree
    refine wpAny_bind (wpAny_field hz rfl (x := f0) (by rfl) ?_)
    rcases hf with rfl | ⟨T, rfl⟩
    · exact wpAny_pure q1
    · show wpAny _ _ (loadIfAlive (T : Int).toNat >>= fun v => _) _ _ _
      refine wpAny_bind (wpAny_alive ?_)
      by_cases c : (hp.get? (T : Int).toNat).isNone = true
      · show wpAny _ _ (if (hp.get? (T : Int).toNat).isNone = true then _ else _) _ _ _
        rw [if_pos c]
        exact wpAny_pure q1
      · show wpAny _ _ (if (hp.get? (T : Int).toNat).isNone = true then _ else _) _ _ _
        rw [if_neg c]
        refine wpAny_bind (wpAny_field hz rfl (x := f1) (by rfl) ?_)
        by_cases c2 : f1 = .bool true
        · subst c2
          show wpAny _ _ (if (Value.bool true != Value.bool true) = true then _ else _) _ _ _
          rw [if_neg (by simp)]
          exact wpAny_pure (q2 hp hz ⟨rfl, fun _ _ => rfl⟩)
        · show wpAny _ _ (if (f1 != Value.bool true) = true then _ else _) _ _ _
          rw [if_pos (by simpa using c2)]
          exact wpAny_bind (wpAny_setField_rec hz (by simp) fun h' f' k' => wpAny_pure (q2 h' f' k'))
  have stop : ∀ (h' : Heap) (e : Addr), (∀ c o, c ≠ z → c ≠ i1 → hp.get? c = some o → h'.get? c = some o) → (∃ o, h'.get? e = some o ∧ o.cls = .type "StopIteration") → E (.ref e) ⟨h', g, d, tk, os⟩ := fun h' e kk hs => hE h' e (fun c o n1 _ n3 _ q => kk c o n1 n3 q) hs
  refine wpAny_bind (free _ _ ?_ fun h' hz' sb => ?_)
  · show wpAny _ _ (rule _ >>= fun _ => _) _ _ _
    refine wpAny_bind (wpAny_rule (wpAny_bind (wpAny_field hz rfl (x := .ref TO) (by rfl) ?_)))
    show wpAny _ _ (setField (.ref z) 0 .ellipsis >>= fun _ => _) _ _ _
    refine wpAny_bind (wpAny_setField_rec hz (by simp) fun h₁ f₁ k₁ => ?_)
    replace k₁ : Heap.SameBut z hp h₁ := k₁
    have hz₁ : IsZip2 h₁ z .ellipsis f1 TI TO := f₁
    have a₁ : h₁.IsListIter i1 l1 i := h1.at fun o q => k₁.extBut i1 o ap.i1z q
    have c₁ : h₁.IsList l1 xs := t1.extBut k₁.extBut ap.l1z
    refine wpAny_bind ?_
    show wpAny _ _ (forIn [(Value.ref i1, 0), (Value.ref i2, 1)] (none, ()) _) _ _ ⟨h₁, g, d, tk, os⟩
    rw [List.forIn_cons]
    refine wpAny_bind (wpAny_bind (wpAny_onRaise ?_))
    show wpAny _ _ (Builtin.SmallTypes.nextOf (.ref i1) >>= fun v => pure (some v)) _ _ _
    refine wpAny_bind (wpAny_nextOf_list_end (show A.in1.handled = none from hh) a₁ c₁ hx fun h₂ e k₂ hs => ?_)
    replace k₂ : Heap.ExtBut i1 h₁ h₂ := k₂
    have hz₂ : IsZip2 h₂ z .ellipsis f1 TI TO := k₂ _ _ (Ne.symm ap.i1z) hz₁
    refine wpAny_setField_rec hz₂ (by simp) fun h₃ f₃ k₃ => ?_
    replace k₃ : Heap.SameBut z h₂ h₃ := k₃
    refine stop h₃ e (fun c o n1 n2 q => k₃.extBut c o n1 (k₂ c o n2 (k₁.extBut c o n1 q))) ?_
    obtain ⟨o, ho, hc⟩ := hs
    have ne : e ≠ z := fun y => by
      rw [y] at ho
      have := Option.some.inj (ho.symm.trans hz₂)
      rw [this] at hc
      exact absurd (show Value.type "zip" = Value.type "StopIteration" from hc) (by decide)
    exact ⟨o, k₃.extBut e o ne ho, hc⟩
  · replace sb : Heap.SameBut z hp h' := sb
    have a₁ : h'.IsListIter i1 l1 i := h1.at fun o q => sb.extBut i1 o ap.i1z q
    have c₁ : h'.IsList l1 xs := t1.extBut sb.extBut ap.l1z
    show wpAny _ _ (forIn #[Value.ref i1, Value.ref i2] (none, #[]) _ >>= fun v => _) _ _ ⟨h', g, d, tk, os⟩
    refine wpAny_bind ?_
    rw [show (#[Value.ref i1, Value.ref i2] : Array Value) = [Value.ref i1, Value.ref i2].toArray from rfl, List.forIn_toArray, List.forIn_cons]
    refine wpAny_bind (wpAny_bind (wpAny_holding ?_))
    show wpAny _ _ (Builtin.SmallTypes.nextOf (.ref i1) >>= fun v => pure (some v)) _ _ _
    refine wpAny_bind (wpAny_nextOf_list_end (show A.in1.handled = none from hh) a₁ c₁ hx fun h₂ e k₂ hs => ?_)
    replace k₂ : Heap.ExtBut i1 h' h₂ := k₂
    exact stop h₂ e (fun c o n1 n2 q => k₂ c o n2 (sb.extBut c o n1 q)) hs
theorem zipL_end2 {z TI TO i1 i2 l1 l2 : Addr} {i : Nat} {xs ys : Array Value} {x a b f0 f1 : Value} {Q : Value → Shared → Prop} (hh : A.handled = none) (ap : ZipApart z TI TO i1 i2 l1 l2) (hz : IsZip2 s.heap z f0 f1 TI TO) (hI : IsPair s.heap TI (.ref i1) (.ref i2)) (hO : IsPair s.heap TO a b)
    (h1 : s.heap.IsListIter i1 l1 i) (h2 : s.heap.IsListIter i2 l2 i) (t1 : s.heap.IsList l1 xs) (t2 : s.heap.IsList l2 ys) (hx : xs[i]? = some x) (hy : ys[i]? = none) (hf : f0 = .none ∨ ∃ T : Nat, f0 = rawInt T)
    (hE : ∀ h' e, (∀ c o, c ≠ z → c ≠ TO → c ≠ i1 → c ≠ i2 → s.heap.get? c = some o → h'.get? c = some o) → (∃ o, h'.get? e = some o ∧ o.cls = .type "StopIteration") → E (.ref e) { s with heap := h' }) : wpAny (model prog w) A (Builtin.SmallTypes.nextOf (.ref z)) Q E s := by
  have hT : s.TypeIs (.ref z) "zip" := ⟨_, hz, rfl⟩
  unfold Builtin.SmallTypes.nextOf
  refine wpAny_bind (wpAny_callSpecial?_slot (name := Str.ofString "__next__") hT F.slot_zip_next (wpAny_call_entry F.slot_zip_next hT F.entry_zip_next ?_ (F.args_zip_next_1 _)))
  obtain ⟨hp, g, d, tk, os⟩ := s
  show wpAny _ _ (field (.ref z) 2 >>= fun v => _) _ _ _
  refine wpAny_bind (wpAny_field hz rfl (x := .bool false) (by rfl) ?_)
  show wpAny _ _ (field (.ref z) 3 >>= fun v => _) _ _ _
  refine wpAny_bind (wpAny_field hz rfl (x := .ref TI) (by rfl) (wpAny_bind (wpAny_seqItems hI rfl ?_)))
  show wpAny _ _ (Builtin.SmallTypes.ownedTupleIsFree (.ref z) >>= fun v => _) _ _ _
  have free : ∀ (Q' : Bool → Shared → Prop) E', Q' true ⟨hp, g, d, tk, os⟩ → (∀ h', IsZip2 h' z f0 (.bool true) TI TO → Heap.SameBut z hp h' → Q' false ⟨h', g, d, tk, os⟩) → wpAny (model prog w) A.in1 (Builtin.SmallTypes.ownedTupleIsFree (.ref z)) Q' E' ⟨hp, g, d, tk, os⟩ := by
    intro Q' E' q1 q2
    unfold Builtin.SmallTypes.ownedTupleIsFree
    refine wpAny_bind (wpAny_field hz rfl (x := f0) (by rfl) ?_)
    rcases hf with rfl | ⟨T, rfl⟩
    · exact wpAny_pure q1
    · show wpAny _ _ (loadIfAlive (T : Int).toNat >>= fun v => _) _ _ _
      refine wpAny_bind (wpAny_alive ?_)
      by_cases c : (hp.get? (T : Int).toNat).isNone = true
      · show wpAny _ _ (if (hp.get? (T : Int).toNat).isNone = true then _ else _) _ _ _
        rw [if_pos c]
        exact wpAny_pure q1
      · show wpAny _ _ (if (hp.get? (T : Int).toNat).isNone = true then _ else _) _ _ _
        rw [if_neg c]
        refine wpAny_bind (wpAny_field hz rfl (x := f1) (by rfl) ?_)
        by_cases c2 : f1 = .bool true
        · subst c2
          show wpAny _ _ (if (Value.bool true != Value.bool true) = true then _ else _) _ _ _
          rw [if_neg (by simp)]
          exact wpAny_pure (q2 hp hz ⟨rfl, fun _ _ => rfl⟩)
        · show wpAny _ _ (if (f1 != Value.bool true) = true then _ else _) _ _ _
          rw [if_pos (by simpa using c2)]
          exact wpAny_bind (wpAny_setField_rec hz (by simp) fun h' f' k' => wpAny_pure (q2 h' f' k'))
  refine wpAny_bind (free _ _ ?_ fun h' hz' sb => ?_)
  · show wpAny _ _ (rule _ >>= fun _ => _) _ _ _
    refine wpAny_bind (wpAny_rule (wpAny_bind (wpAny_field hz rfl (x := .ref TO) (by rfl) ?_)))
    show wpAny _ _ (setField (.ref z) 0 .ellipsis >>= fun _ => _) _ _ _
    refine wpAny_bind (wpAny_setField_rec hz (by simp) fun h₁ f₁ k₁ => ?_)
    replace k₁ : Heap.SameBut z hp h₁ := k₁
    have hz₁ : IsZip2 h₁ z .ellipsis f1 TI TO := f₁
    have hO₁ : IsPair h₁ TO a b := k₁.extBut _ _ ap.TOz hO
    have a₁ : h₁.IsListIter i1 l1 i := h1.at fun o q => k₁.extBut i1 o ap.i1z q
    have b₁ : h₁.IsListIter i2 l2 i := h2.at fun o q => k₁.extBut i2 o ap.i2z q
    have c₁ : h₁.IsList l1 xs := t1.extBut k₁.extBut ap.l1z
    have d₁ : h₁.IsList l2 ys := t2.extBut k₁.extBut ap.l2z
    refine wpAny_bind ?_
    show wpAny _ _ (forIn [(Value.ref i1, 0), (Value.ref i2, 1)] (none, ()) _) _ _ ⟨h₁, g, d, tk, os⟩
    rw [List.forIn_cons]
    refine wpAny_bind (wpAny_bind (wpAny_onRaise ?_))
    show wpAny _ _ (Builtin.SmallTypes.nextOf (.ref i1) >>= fun v => pure (some v)) _ _ _
    refine wpAny_bind (wpAny_nextOf_list_item a₁ c₁ hx fun h₂ a₂ k₂ => wpAny_pure ?_)
    replace k₂ : Heap.SameBut i1 h₁ h₂ := k₂
    have hz₂ : IsZip2 h₂ z .ellipsis f1 TI TO := k₂.extBut _ _ (Ne.symm ap.i1z) hz₁
    have hO₂ : IsPair h₂ TO a b := k₂.extBut _ _ ap.TOi1 hO₁
    have b₂ : h₂.IsListIter i2 l2 i := b₁.at fun o q => k₂.extBut i2 o (Ne.symm ap.i12) q
    have d₂ : h₂.IsList l2 ys := d₁.extBut k₂.extBut ap.l2i1
    show wpAny _ _ (seqItems? (.ref TO) >>= fun v => _) _ _ ⟨h₂, g, d, tk, os⟩
    refine wpAny_bind (wpAny_seqItems hO₂ rfl ?_)
    show wpAny _ _ (updateSeq TO (fun x_1 => x_1.setIfInBounds 0 x) >>= fun _ => _) _ _ _
    refine wpAny_bind (wpAny_updateSeq_pair hO₂ fun h₃ f₃ k₃ => wpAny_bind (wpAny_letGo (wpAny_pure ?_)))
    replace k₃ : Heap.SameBut TO h₂ h₃ := k₃
    have hO₃ : IsPair h₃ TO x b := f₃
    have hz₃ : IsZip2 h₃ z .ellipsis f1 TI TO := k₃.extBut _ _ (Ne.symm ap.TOz) hz₂
    have a₃ : h₃.IsListIter i1 l1 (i + 1) := a₂.at fun o q => k₃.extBut i1 o (Ne.symm ap.TOi1) q
    have b₃ : h₃.IsListIter i2 l2 i := b₂.at fun o q => k₃.extBut i2 o (Ne.symm ap.TOi2) q
    have d₃ : h₃.IsList l2 ys := d₂.extBut k₃.extBut ap.l2TO
    show wpAny _ _ (forIn [(Value.ref i2, 1)] (none, ()) _) _ _ ⟨h₃, g, d, tk, os⟩
    rw [List.forIn_cons]
    refine wpAny_bind (wpAny_bind (wpAny_onRaise ?_))
    show wpAny _ _ (Builtin.SmallTypes.nextOf (.ref i2) >>= fun v => pure (some v)) _ _ _
    refine wpAny_bind (wpAny_nextOf_list_end (show A.in1.handled = none from hh) b₃ d₃ hy fun h₄ e k₄ hs => ?_)
    replace k₄ : Heap.ExtBut i2 h₃ h₄ := k₄
    have hz₄ : IsZip2 h₄ z .ellipsis f1 TI TO := k₄ _ _ (Ne.symm ap.i2z) hz₃
    refine wpAny_setField_rec hz₄ (by simp) fun h₅ f₅ k₅ => ?_
    replace k₅ : Heap.SameBut z h₄ h₅ := k₅
    refine hE h₅ e (fun c o n1 n2 n3 n4 q => k₅.extBut c o n1 (k₄ c o n4 (k₃.extBut c o n2 (k₂.extBut c o n3 (k₁.extBut c o n1 q))))) ?_
    obtain ⟨o, ho, hc⟩ := hs
    have ne : e ≠ z := fun y => by
      rw [y] at ho
      have := Option.some.inj (ho.symm.trans hz₄)
      rw [this] at hc
      exact absurd (show Value.type "zip" = Value.type "StopIteration" from hc) (by decide)
    exact ⟨o, k₅.extBut e o ne ho, hc⟩
  · replace sb : Heap.SameBut z hp h' := sb
    have a₁ : h'.IsListIter i1 l1 i := h1.at fun o q => sb.extBut i1 o ap.i1z q
    have b₁ : h'.IsListIter i2 l2 i := h2.at fun o q => sb.extBut i2 o ap.i2z q
    have c₁ : h'.IsList l1 xs := t1.extBut sb.extBut ap.l1z
    have d₁ : h'.IsList l2 ys := t2.extBut sb.extBut ap.l2z
    have hO₁ : IsPair h' TO a b := sb.extBut _ _ ap.TOz hO
    show wpAny _ _ (forIn #[Value.ref i1, Value.ref i2] (none, #[]) _ >>= fun v => _) _ _ ⟨h', g, d, tk, os⟩
    refine wpAny_bind ?_
    rw [show (#[Value.ref i1, Value.ref i2] : Array Value) = [Value.ref i1, Value.ref i2].toArray from rfl, List.forIn_toArray, List.forIn_cons]
    refine wpAny_bind (wpAny_bind (wpAny_holding ?_))
    show wpAny _ _ (Builtin.SmallTypes.nextOf (.ref i1) >>= fun v => pure (some v)) _ _ _
    refine wpAny_bind (wpAny_nextOf_list_item a₁ c₁ hx fun h₂ a₂ k₂ => wpAny_pure (wpAny_pure ?_))
    replace k₂ : Heap.SameBut i1 h' h₂ := k₂
    have hz₂ : IsZip2 h₂ z f0 (.bool true) TI TO := k₂.extBut _ _ (Ne.symm ap.i1z) hz'
    have hO₂ : IsPair h₂ TO a b := k₂.extBut _ _ ap.TOi1 hO₁
    have b₂ : h₂.IsListIter i2 l2 i := b₁.at fun o q => k₂.extBut i2 o (Ne.symm ap.i12) q
    have d₂ : h₂.IsList l2 ys := d₁.extBut k₂.extBut ap.l2i1
    show wpAny _ _ (forIn [Value.ref i2] (none, #[x]) _) _ _ ⟨h₂, g, d, tk, os⟩
    rw [List.forIn_cons]
    refine wpAny_bind (wpAny_bind (wpAny_holding ?_))
    show wpAny _ _ (Builtin.SmallTypes.nextOf (.ref i2) >>= fun v => pure (some v)) _ _ _
    refine wpAny_bind (wpAny_nextOf_list_end (show A.in1.handled = none from hh) b₂ d₂ hy fun h₄ e k₄ hs => ?_)
    replace k₄ : Heap.ExtBut i2 h₂ h₄ := k₄
    exact hE h₄ e (fun c o n1 n2 n3 n4 q => k₄ c o n4 (k₂.extBut c o n3 (sb.extBut c o n1 q))) hs
end
end L2
namespace L2
open PySem PySem.Spec PyProof.Rows
open AutoSeq1 (wpAny_loadPart')
section
variable {prog : Program} {w : World} {A : Around} {E : Value → Shared → Prop} {s : Shared}
theorem enumZ_item {e z TI TO i1 i2 l1 l2 : Addr} {i : Nat} {xs ys : Array Value} {x y a b f0 f1 old : Value} {Q : Option Value → Shared → Prop} (ap : ZipApart z TI TO i1 i2 l1 l2) (he : IsEnum s.heap e z i old) (hz : IsZip2 s.heap z f0 f1 TI TO) (hI : IsPair s.heap TI (.ref i1) (.ref i2)) (hO : IsPair s.heap TO a b)
    (h1 : s.heap.IsListIter i1 l1 i) (h2 : s.heap.IsListIter i2 l2 i) (t1 : s.heap.IsList l1 xs) (t2 : s.heap.IsList l2 ys) (hx : xs[i]? = some x) (hy : ys[i]? = some y) (hf : f0 = .none ∨ ∃ T : Nat, f0 = rawInt T) (nz : e ≠ z) (nTO : e ≠ TO) (n1 : e ≠ i1) (n2 : e ≠ i2)
    (hQ : ∀ h' f0' f1' a' b', IsEnumOut h' e z ((i : Int) + 1) (.ref s.heap.objs.size) (s.heap.objs.size + 1) → IsZip2 h' z f0' f1' TI TO → (f0' = .none ∨ ∃ T : Nat, f0' = rawInt T) → IsPair h' TO a' b' → h'.IsListIter i1 l1 (i + 1) → h'.IsListIter i2 l2 (i + 1) → IsPair h' s.heap.objs.size x y →
      h'.get? (s.heap.objs.size + 1) = some { cls := .type "tuple", data := .seq #[.int i s.toks, .ref s.heap.objs.size] } →
      (∀ c o, c ≠ e → c ≠ z → c ≠ TO → c ≠ i1 → c ≠ i2 → s.heap.get? c = some o → h'.get? c = some o) → Q (some (.ref (s.heap.objs.size + 1))) { s with heap := h', toks := s.toks + 1 }) :
    wpAny (model prog w) A (pyNext (.ref e)) Q E s := by
  have hT : s.TypeIs (.ref e) "enumerate" := ⟨_, he, rfl⟩
  unfold pyNext
  refine wpAny_bind (wpAny_attempt (wpAny_callSpecial?_slot (name := Str.ofString "__next__") hT F.slot_enumerate_next (wpAny_call_entry F.slot_enumerate_next hT F.entry_enumerate_next ?_ (F.args_enumerate_next_1 _))))
  obtain ⟨hp, g, d, tk, os⟩ := s
  show wpAny _ _ (field (.ref e) 2 >>= fun v => _) _ _ _
  refine wpAny_bind (wpAny_field he rfl (x := .ref z) (by rfl) (wpAny_bind (zipL_next ap hz hI hO h1 h2 t1 t2 hx hy hf fun h₁ f0' f1' a' b' hz₁ hf₁ hO₁ a₁ b₁ hN₁ hs₁ k₁ => ?_)))
  replace hs₁ : h₁.objs.size = hp.objs.size + 1 := hs₁
  replace hN₁ : IsPair h₁ hp.objs.size x y := hN₁
  replace k₁ : ∀ c o, c ≠ z → c ≠ TO → c ≠ i1 → c ≠ i2 → hp.get? c = some o → h₁.get? c = some o := k₁
  have he₁ : IsEnum h₁ e z i old := k₁ e _ nz nTO n1 n2 he
  show wpAny _ _ (field (.ref e) 3 >>= fun v => _) _ _ ⟨h₁, g, d, tk, os⟩
  refine wpAny_bind (wpAny_field he₁ rfl (x := rawInt i) (by rfl) ?_)
  show wpAny _ _ (field (.ref e) 4 >>= fun v => _) _ _ ⟨h₁, g, d, tk, os⟩
  refine wpAny_bind (wpAny_field he₁ rfl (x := .none) (by rfl) ?_)
  show wpAny _ _ (mkInt i >>= fun v => _) _ _ ⟨h₁, g, d, tk, os⟩
  refine wpAny_bind (wpAny_mkInt ?_)
  show wpAny _ _ (setField (.ref e) 3 (rawInt ((i : Int) + 1)) >>= fun v => _) _ _ ⟨h₁, g, d, tk + 1, os⟩
  refine wpAny_bind (wpAny_setField_rec he₁ (by simp) fun h₂ f₂ hs₂ => ?_)
  have he₂ : IsEnum h₂ e z ((i : Int) + 1) old := f₂
  have k₂ : Heap.SameBut e h₁ h₂ := hs₂
  show wpAny _ _ (setField (.ref e) 4 .none >>= fun v => _) _ _ ⟨h₂, g, d, tk + 1, os⟩
  refine wpAny_bind (wpAny_setField_rec he₂ (by simp) fun h₃ f₃ hs₃ => ?_)
  have he₃ : IsEnum h₃ e z ((i : Int) + 1) old := f₃
  have k₃ : Heap.SameBut e h₂ h₃ := hs₃
  show wpAny _ _ (newTuple [.int i tk, .ref hp.objs.size] >>= fun v => _) _ _ ⟨h₃, g, d, tk + 1, os⟩
  refine wpAny_bind (wpAny_newTuple ?_)
  have hel : e < hp.objs.size := Heap.lt_size he
  have he₄ : IsEnum (h₃.push { cls := .type "tuple", data := .seq #[.int i tk, .ref hp.objs.size] }) e z ((i : Int) + 1) old := Heap.get?_push_of_some _ he₃
  have hsz : h₃.objs.size = hp.objs.size + 1 := by rw [k₃.1, k₂.1, hs₁]
  have ht₄ : (h₃.push { cls := .type "tuple", data := .seq #[.int i tk, .ref hp.objs.size] }).get? (hp.objs.size + 1) = some { cls := .type "tuple", data := .seq #[.int i tk, .ref hp.objs.size] } := by rw [← hsz]; exact Heap.get?_push_size _ rfl
  have hk₄ : ∀ b o, b ≠ e → h₁.get? b = some o → (h₃.push { cls := .type "tuple", data := .seq #[.int i tk, .ref hp.objs.size] }).get? b = some o := fun b o n1 hb => Heap.get?_push_of_some _ (k₃.extBut b o n1 (k₂.extBut b o n1 hb))
  generalize h₃.push { cls := .type "tuple", data := .seq #[.int i tk, .ref hp.objs.size] } = h₄ at he₄ ht₄ hk₄ ⊢
  rw [hsz]
  show wpAny _ _ (Builtin.SmallTypes.ownedTupleIsFree (.ref e) >>= fun v => _) _ _ ⟨h₄, g, d, tk + 1, os⟩
  refine wpAny_bind (by
    unfold Builtin.SmallTypes.ownedTupleIsFree
    refine wpAny_bind (wpAny_field he₄ rfl (x := .none) (by rfl) (wpAny_pure (by
      simp only [if_true]
      refine wpAny_bind (wpAny_rule (wpAny_bind (wpAny_field he₄ rfl (x := old) (by rfl) (wpAny_bind (wpAny_setField_rec he₄ (by simp) fun h₅ f₅ hs₅ => ?_)))))
      have he₅ : IsEnum h₅ e z ((i : Int) + 1) (.ref hp.objs.size) := f₅
      have k₅ : Heap.SameBut e h₄ h₅ := hs₅
      show wpAny _ _ (Builtin.SmallTypes.ownedTupleHandOut (.ref e) (.ref (hp.objs.size + 1)) >>= fun v => _) _ _ ⟨h₅, g, d, tk + 1, os⟩
      refine wpAny_bind (by
        unfold Builtin.SmallTypes.ownedTupleHandOut
        refine wpAny_bind (wpAny_setField_rec he₅ (by simp) fun h₆ f₆ hs₆ => ?_)
        have he₆ : IsEnumOut h₆ e z ((i : Int) + 1) (.ref hp.objs.size) (hp.objs.size + 1) := f₆
        have k₆ : Heap.SameBut e h₅ h₆ := hs₆
        refine wpAny_setField_rec he₆ (by simp) fun h₇ f₇ hs₇ => ?_
        have he₇ : IsEnumOut h₇ e z ((i : Int) + 1) (.ref hp.objs.size) (hp.objs.size + 1) := f₇
        have k₇ : Heap.SameBut e h₆ h₇ := hs₇
        have up : ∀ b o, b ≠ e → h₄.get? b = some o → h₇.get? b = some o := fun b o n q => k₇.extBut b o n (k₆.extBut b o n (k₅.extBut b o n q))
        have up1 : ∀ b o, b ≠ e → h₁.get? b = some o → h₇.get? b = some o := fun b o n q => up b o n (hk₄ b o n q)
        exact wpAny_bind (wpAny_letGo (wpAny_pure ⟨_, rfl, wpAny_pure (hQ h₇ _ _ _ _ he₇ (up1 _ _ (Ne.symm nz) hz₁) hf₁ (up1 _ _ (Ne.symm nTO) hO₁) (a₁.at fun o q => up1 _ o (Ne.symm n1) q) (b₁.at fun o q => up1 _ o (Ne.symm n2) q) (up1 _ _ (Nat.ne_of_gt hel) hN₁) (up _ _ (Nat.ne_of_gt (Nat.lt_succ_of_lt hel)) ht₄) fun c o m1 m2 m3 m4 m5 q => up1 c o m1 (k₁ c o m2 m3 m4 m5 q))⟩)))))))
theorem enumZ_end {e z TI TO i1 i2 l1 l2 : Addr} {i : Nat} {xs ys : Array Value} {a b f0 f1 old : Value} {Q : Option Value → Shared → Prop} (hh : A.handled = none) (ap : ZipApart z TI TO i1 i2 l1 l2) (he : IsEnum s.heap e z i old) (hz : IsZip2 s.heap z f0 f1 TI TO) (hI : IsPair s.heap TI (.ref i1) (.ref i2)) (hO : IsPair s.heap TO a b)
    (h1 : s.heap.IsListIter i1 l1 i) (h2 : s.heap.IsListIter i2 l2 i) (t1 : s.heap.IsList l1 xs) (t2 : s.heap.IsList l2 ys) (hend : xs[i]? = none ∨ ys[i]? = none) (hf : f0 = .none ∨ ∃ T : Nat, f0 = rawInt T)
    (hQ : ∀ h', (∀ c o, c ≠ z → c ≠ TO → c ≠ i1 → c ≠ i2 → s.heap.get? c = some o → h'.get? c = some o) → Q none { s with heap := h' }) : wpAny (model prog w) A (pyNext (.ref e)) Q E s := by
  have hT : s.TypeIs (.ref e) "enumerate" := ⟨_, he, rfl⟩
  unfold pyNext
  refine wpAny_bind (wpAny_attempt (wpAny_callSpecial?_slot (name := Str.ofString "__next__") hT F.slot_enumerate_next (wpAny_call_entry F.slot_enumerate_next hT F.entry_enumerate_next ?_ (F.args_enumerate_next_1 _))))
  show wpAny _ _ (field (.ref e) 2 >>= fun v => _) _ _ _
  refine wpAny_bind (wpAny_field he rfl (x := .ref z) (by rfl) (wpAny_bind ?_))
  cases hx : xs[i]? with
  | none =>
    refine zipL_end (show A.in1.handled = none from hh) ap hz hI h1 t1 hx hf fun h' x he' hx' => ?_
    obtain ⟨o, ho, hc⟩ := hx'
    exact wpAny_bind (wpAny_isInstance (T := "StopIteration") (b := true) ⟨o, ho, hc⟩ isSubtype_stop (wpAny_pure (hQ _ he')))
  | some x =>
    have hy : ys[i]? = none := by
      rcases hend with h | h
      · rw [hx] at h; cases h
      · exact h
    refine zipL_end2 (show A.in1.handled = none from hh) ap hz hI hO h1 h2 t1 t2 hx hy hf fun h' x he' hx' => ?_
    obtain ⟨o, ho, hc⟩ := hx'
    exact wpAny_bind (wpAny_isInstance (T := "StopIteration") (b := true) ⟨o, ho, hc⟩ isSubtype_stop (wpAny_pure (hQ _ he')))
end
theorem meets_enumZ (z TI TO : Addr) :
    Meets (Builtin.«enumerate.__new__» ⟨[.type "enumerate", .ref z], []⟩) (fun _ R s => IsZip s.heap z TI TO .none ∧
      R (.ok (.ret (.ref s.heap.objs.size)))
        { s with heap := s.heap.push { cls := .type "enumerate", data := .fields #[.none, .bool false, .ref z, rawInt 0, .none, .none] } }) :=
  .of_wp fun prog w A R s h => by
    obtain ⟨hp, g, d, tk, os⟩ := s; obtain ⟨hl, h⟩ := h
    have hsub := sub_enumerate
    have hZ : IsZip (Shared.heap ⟨hp, g, d, tk, os⟩) z TI TO .none := hl
    wp_walk using wpAny_loadPart' hl
    refine wpAny_stack_any fun st => wpAny_pure ?_; split
    · rename_i c _ _ _ _ _
      cases (c == Value.type "enumerate")
      · wp_walk using wpAny_loadPart' hl, wpAny_pyIter_zip hZ; exact ⟨_, rfl, h⟩
      · wp_walk using wpAny_loadPart' hl, wpAny_pyIter_zip hZ; exact ⟨_, rfl, h⟩
    · wp_walk using wpAny_loadPart' hl, wpAny_pyIter_zip hZ; exact ⟨_, rfl, h⟩
section
variable {prog : Program} {w : World} {A : Around} {E : Value → Shared → Prop} {s : Shared}
theorem call_enumZ {z TI TO : Addr} {Q : Value → Shared → Prop} (hL : IsZip s.heap z TI TO .none)
    (h : ∀ h', IsEnum h' s.heap.objs.size z 0 .none → (∀ b o, s.heap.get? b = some o → h'.get? b = some o) → Q (.ref s.heap.objs.size) { s with heap := h' }) :
    wpAny (model prog w) A (call (.type "enumerate") [.ref z]) Q E s := by
  refine callType_new F.called_enumerate (by decide) (F.typeCall_enumerate_1 _) (F.newCall_enumerate_1 _) (fun obj => F.args_object_init_2 obj _) F.entry_enumerate_new (meets_enumZ z TI TO) ⟨hL, ?_⟩
  have he : IsEnum (s.heap.push { cls := .type "enumerate", data := .fields #[.none, .bool false, .ref z, rawInt 0, .none, .none] }) s.heap.objs.size z 0 .none := Heap.get?_push_size _ rfl
  exact ⟨⟨_, he, rfl⟩, h _ he fun b o x => Heap.get?_push_of_some _ x⟩
end
end L2
namespace L2
open PySem PySem.Spec PyProof.Rows
theorem Inv.turnedTT {X : Cx} {pins : List (Addr × Obj)} {σ : St} {H : Hp} {s : Shared} {h' : Heap} {t' tk : Nat} {i : Int} {fp : List Addr} {x y : V} {u v : Value} (I : Inv X pins σ H s) (hf : ∀ b ∈ fp, FpOk X pins H b) (k : ∀ b o, b ∉ fp → s.heap.get? b = some o → h'.get? b = some o)
    (T1 : IsPair h' s.heap.objs.size u v) (T2 : h'.get? (s.heap.objs.size + 1) = some { cls := .type "tuple", data := .seq #[.int i tk, .ref s.heap.objs.size] }) (ru : RelV x u) (rv : RelV y v) :
    Inv X pins σ (upd (upd H s.heap.objs.size (.tup [x, y])) (s.heap.objs.size + 1) (.tup [.int i, .ref s.heap.objs.size])) { s with heap := h', toks := t' } := by
  have fT : H s.heap.objs.size = none := I.hok.fresh (Nat.le_refl _)
  have fU : H (s.heap.objs.size + 1) = none := I.hok.fresh (Nat.le_succ _)
  have tr : ∀ b v, H b = some v → b ∉ fp := fun b v q hb => by rw [(hf b hb).1] at q; cases q
  have lt : ∀ b o, s.heap.get? b = some o → b ≠ s.heap.objs.size := fun b o q => Nat.ne_of_lt (Heap.lt_size q)
  have lt2 : ∀ b o, s.heap.get? b = some o → b ≠ s.heap.objs.size + 1 := fun b o q => Nat.ne_of_lt (Nat.lt_succ_of_lt (Heap.lt_size q))
  refine I.call (g' := s.gens) (t' := t') (d' := s.drawn) (ch := fp) ⟨fun b o q _ _ c => k b o c q, fun b o q _ _ c => ⟨o.slots, k b o c q⟩,
    fun b o q n _ => by rw [upd_ne (lt2 b o q), upd_ne (lt b o q)]; exact n, fun b o q c => ⟨o, k b o c q⟩, fun b ys q => by rw [upd_ne (ne_of_none q fU), upd_ne (ne_of_none q fT)]; exact q, fun b o v q => by rw [upd_ne (ne_of_none q fU), upd_ne (ne_of_none q fT)]; exact q,
    fun b ps q => ⟨#[], by rw [upd_ne (ne_of_none q fU), upd_ne (ne_of_none q fT), q]; simp⟩⟩ (fun b w q => ?_) I.bare (fun b hb => ?_)
  · by_cases hb2 : b = s.heap.objs.size + 1
    · subst hb2
      rw [upd_same] at q
      cases q
      exact ⟨by show 2 ≤ sizeLine; decide, [.int i tk, .ref s.heap.objs.size], .cons ⟨_, rfl⟩ (.cons rfl .nil), _, T2, rfl, _, rfl⟩
    rw [upd_ne hb2] at q
    by_cases hb : b = s.heap.objs.size
    · subst hb
      rw [upd_same] at q
      cases q
      exact ⟨by show 2 ≤ sizeLine; decide, [u, v], .cons ru (.cons rv .nil), _, T1, rfl, _, rfl⟩
    · rw [upd_ne hb] at q
      refine (I.hok b w q).stay (fun c o hc' z => ?_) (fun c q' => by rw [upd_ne (ne_of_none q' fU), upd_ne (ne_of_none q' fT)]; exact q') fun c ys q' => by rw [upd_ne (ne_of_none q' fU), upd_ne (ne_of_none q' fT)]; exact q'
      rcases hc' with rfl | hc'
      · exact k c o (tr c _ q) z
      · exact k c o (tr c _ hc') z
  · have f := hf b hb
    exact ⟨f.2.2.2.1, f.2.1, f.2.2.2.2.1, f.2.2.2.2.2⟩
def Itez (K : PySem.W.Frag) (a b : Addr) : It :=
  ⟨fun i H => ∃ xs ys x y, SqL K H a xs ∧ SqL K H b ys ∧ xs[i]? = some x ∧ ys[i]? = some y,
   fun i H x H' => ∃ t u y1 y2, x = .ref u ∧ H t = none ∧ H u = none ∧ u ≠ t ∧ H' = upd (upd H t (.tup [y1, y2])) u (.tup [.int (i : Int), .ref t]) ∧ (∀ xs, SqL K H a xs → xs[i]? = some y1) ∧ ∀ ys, SqL K H b ys → ys[i]? = some y2,
   fun i H => ∃ xs ys, SqL K H a xs ∧ SqL K H b ys ∧ (xs.length ≤ i ∨ ys.length ≤ i)⟩
structure EZn (h : Heap) (e z TI TO i1 i2 l1 l2 : Addr) (i : Nat) : Prop where
  he : ∃ old, IsEnum h e z i old
  hz : ∃ f0 f1, IsZip2 h z f0 f1 TI TO ∧ (f0 = .none ∨ ∃ T : Nat, f0 = rawInt T)
  hI : IsPair h TI (.ref i1) (.ref i2)
  hO : ∃ a b, IsPair h TO a b
  h1 : h.IsListIter i1 l1 i
  h2 : h.IsListIter i2 l2 i
theorem turn_enumZ {P : Program} {w : World} {K : PySem.W.Frag} {elts : List Expr} {k : Nat} {tpos : Pos} (l1 l2 e z TI TO i1 i2 : Addr) (ap : ZipApart z TI TO i1 i2 l1 l2) (nz : e ≠ z) (nTI : e ≠ TI) (nTO : e ≠ TO) (n1 : e ≠ i1) (n2 : e ≠ i2) :
    Turn P w K (.Tuple elts k tpos) (Itez K l1 l2) [e, z, TI, TO, i1, i2] e (fun i h => EZn h e z TI TO i1 i2 l1 l2 i) where
  mem := by simp
  obj := fun i h st b hb => by
    obtain ⟨⟨old, he⟩, ⟨f0, f1, hz, _⟩, hI, ⟨a, c, hO⟩, ⟨o1, e1, c1, d1⟩, ⟨o2, e2, c2, d2⟩⟩ := st
    simp only [List.mem_cons, List.not_mem_nil, or_false] at hb
    rcases hb with rfl | rfl | rfl | rfl | rfl | rfl
    · exact ⟨_, he, fun v z => by cases z⟩
    · exact ⟨_, hz, fun v z => by cases z⟩
    · exact ⟨_, hI, fun v z => by cases z⟩
    · exact ⟨_, hO, fun v z => by cases z⟩
    · exact ⟨o1, e1, fun v z => by rw [d1] at z; cases z⟩
    · exact ⟨o2, e2, fun v z => by rw [d2] at z; cases z⟩
  keep := fun i h h' st k => by
    obtain ⟨⟨old, he⟩, ⟨f0, f1, hz, hf⟩, hI, ⟨a, c, hO⟩, h1, h2⟩ := st
    exact ⟨⟨old, k e (by simp) _ he⟩, ⟨f0, f1, k z (by simp) _ hz, hf⟩, k TI (by simp) _ hI, ⟨a, c, k TO (by simp) _ hO⟩, h1.at fun o q => k i1 (by simp) o q, h2.at fun o q => k i2 (by simp) o q⟩
  item := by
    intro X hP hw hK hc i pins s σ H E I hf st hg
    subst hP hw hK
    obtain ⟨xs, ys, x, y, hx, hy, ex, ey⟩ := hg
    obtain ⟨is1, rv1, p1, _⟩ := I.list hx
    obtain ⟨is2, rv2, p2, _⟩ := I.list hy
    obtain ⟨u, hu, ru⟩ := rv1.get ex
    obtain ⟨v, hv, rv⟩ := rv2.get ey
    obtain ⟨⟨old, he⟩, ⟨f0, f1, hz, hff⟩, hI, ⟨a, c, hO⟩, h1, h2⟩ := st
    refine enumZ_item ap he hz hI hO h1 h2 p1.isList p2.isList (x := u) (y := v) (by simpa using hu) (by simpa using hv) hff nz nTO n1 n2 fun h' f0' f1' a' b' ho hz' hff' hO' h1' h2' hT1 hT2 kk => ?_
    refine ⟨_, rfl, wpAny_letOwnedTupleGo_enum ho fun h3 he3 sb => ?_⟩
    have lte : e < s.heap.objs.size := Heap.lt_size he
    have ltz : ∀ b o, s.heap.get? b = some o → b ≠ s.heap.objs.size := fun b o q => Nat.ne_of_lt (Heap.lt_size q)
    have ltz2 : ∀ b o, s.heap.get? b = some o → b ≠ s.heap.objs.size + 1 := fun b o q => Nat.ne_of_lt (Nat.lt_succ_of_lt (Heap.lt_size q))
    have T1 : IsPair h3 s.heap.objs.size u v := (sb.2 _ (Nat.ne_of_gt lte)).trans hT1
    have T2 : h3.get? (s.heap.objs.size + 1) = some { cls := .type "tuple", data := .seq #[.int i s.toks, .ref s.heap.objs.size] } := (sb.2 _ (Nat.ne_of_gt (Nat.lt_succ_of_lt lte))).trans hT2
    have k3 : ∀ b o, b ∉ [e, z, TI, TO, i1, i2] → s.heap.get? b = some o → h3.get? b = some o := fun b o nb q => by
      simp only [List.mem_cons, List.not_mem_nil, or_false, not_or] at nb
      exact (sb.2 b nb.1).trans (kk b o nb.1 nb.2.1 nb.2.2.2.1 nb.2.2.2.2.1 nb.2.2.2.2.2 q)
    have kTI : h3.get? TI = s.heap.get? TI := (sb.2 TI (Ne.symm nTI)).trans ((kk TI _ (Ne.symm nTI) ap.TIz ap.TITO ap.TIi1 ap.TIi2 hI).trans hI.symm)
    have I2 := Inv.turnedTT (t' := s.toks + 1) (i := (i : Int)) I hf k3 T1 T2 ru rv
    refine ⟨.ref (s.heap.objs.size + 1), _, I2, rfl, ⟨_, _, x, y, rfl, I.hok.fresh (Nat.le_refl _), I.hok.fresh (Nat.le_succ _), Nat.succ_ne_self _, rfl, fun zs hz => by rw [I.list_inj hz hx]; exact ex, fun zs hz => by rw [I.list_inj hz hy]; exact ey⟩,
      ⟨⟨_, he3⟩, ⟨_, _, (sb.2 z (Ne.symm nz)).trans hz', hff'⟩, kTI.trans hI, ⟨a', b', (sb.2 TO (Ne.symm nTO)).trans hO'⟩, h1'.at fun o q => (sb.2 i1 (Ne.symm n1)).trans q, h2'.at fun o q => (sb.2 i2 (Ne.symm n2)).trans q⟩, fun b hb => ?_⟩
    have hb' : ∃ o, s.heap.get? b = some o := by
      obtain ⟨o1, e1, _⟩ := h1
      obtain ⟨o2, e2, _⟩ := h2
      simp only [List.mem_cons, List.not_mem_nil, or_false] at hb
      rcases hb with rfl | rfl | rfl | rfl | rfl | rfl
      · exact ⟨_, he⟩
      · exact ⟨_, hz⟩
      · exact ⟨_, hI⟩
      · exact ⟨_, hO⟩
      · exact ⟨_, e1⟩
      · exact ⟨_, e2⟩
    obtain ⟨o, q⟩ := hb'
    rw [upd_ne (ltz2 b o q), upd_ne (ltz b o q)]
    exact (hf b hb).1
  done := by
    intro X hP hw hK hc i pins s σ H E I hf st hg
    subst hP hw hK
    obtain ⟨xs, ys, hx, hy, hl⟩ := hg
    obtain ⟨is1, rv1, p1, _⟩ := I.list hx
    obtain ⟨is2, rv2, p2, _⟩ := I.list hy
    have ll := rv1.length
    have ll2 := rv2.length
    obtain ⟨⟨old, he⟩, ⟨f0, f1, hz, hff⟩, hI, ⟨a, c, hO⟩, h1, h2⟩ := st
    have hend : is1.toArray[i]? = none ∨ is2.toArray[i]? = none := by
      rcases hl with h | h
      · exact .inl (by simp; omega)
      · exact .inr (by simp; omega)
    refine enumZ_end (I.ok.hd hc) ap he hz hI hO h1 h2 p1.isList p2.isList hend hff fun h' kk => ⟨rfl, Inv.turnedL (t' := s.toks) I hf fun b o nb q => ?_⟩
    simp only [List.mem_cons, List.not_mem_nil, or_false, not_or] at nb
    exact kk b o nb.2.1 nb.2.2.2.1 nb.2.2.2.2.1 nb.2.2.2.2.2 q
  self := fun _ _ _ _ _ st h => wpAny_pyIter_enum st.he.choose_spec h
def iEnumZ (K : PySem.W.Frag) (ta : TA) : TI := fun σ H R => ta σ H fun vs H1 => ∃ a b xs ys, vs = [.ref a, .ref b] ∧ SqL K H1 a xs ∧ SqL K H1 b ys ∧ R (Itez K a b) H1
theorem pi_enumZ {X : Cx} {elts : List Expr} {k : Nat} {tpos : Pos} {a b : Expr} {ta : TA} {p1 p2 pos1 pos2 : Pos} (hgE : Gl X "enumerate") (hmE : X.mg "enumerate" = none) (hgZ : Gl X "zip") (hmZ : X.mg "zip" = none) (ha : PA X [a, b] ta)
    (he1 : starEach [.Call (.Name "zip" p2) [a, b] [] pos2] X.env = [(false, eval (.Call (.Name "zip" p2) [a, b] [] pos2) X.env)] := by rfl) (he : starEach [a, b] X.env = (false, eval a X.env) :: starEach [b] X.env := by rfl) (hpl : (backTo pos2 (starEach [b] X.env)).any (·.1) = false := by rfl) :
    PI X (.Tuple elts k tpos) (.Call (.Name "enumerate" p1) [.Call (.Name "zip" p2) [a, b] [] pos2] [] pos1) (iEnumZ X.K ta) := by
  intro pins s σ H R I h
  refine wpAny_Call_Name_kw (ld_blt I hgE hmE boot_enum ?_ (by decide) (by decide))
  refine PyProof.Rows.callWith_type1 ?_ he1 rfl
  rw [he1]
  show wpAny _ _ (spliced ((false, _) :: [])) _ _ s
  refine Calls.spliced_cons ?_
  refine wpAny_Call_Name_kw (ld_blt I hgZ hmZ (by decide +kernel : bootBuiltins "zip" = some (.type "zip")) ?_ (by decide) (by decide))
  refine PyProof.Rows.callWith_type1 (thn (ha pos2 pins s σ H _ I h) fun us s1 ⟨vs, H1, I1, r1, q1⟩ => ?_) he hpl
  obtain ⟨l1, l2, xs, ys, rfl, hx, hy, q⟩ := q1
  obtain ⟨u1, u2, rfl, rx, ry⟩ := vals2 r1
  cases (show u1 = Value.ref l1 from rx)
  cases (show u2 = Value.ref l2 from ry)
  obtain ⟨i1, v1, t1, z1⟩ := I1.list hx
  obtain ⟨i2, v2, t2, z2⟩ := I1.list hy
  have t1 := t1.isList
  have t2 := t2.isList
  refine call_zip_2 t1 t2 fun h' hz hI hO hi1 hi2 hsz hk => ?_
  refine Calls.spliced_nil ?_
  obtain ⟨o1, g1, _, _⟩ := id t1
  obtain ⟨o2, g2, _, _⟩ := id t2
  have ll1 := Heap.lt_size g1
  have ll2 := Heap.lt_size g2
  have ap := zipApart_new ll1 ll2
  refine call_enumZ (s := { s1 with heap := h' }) hz fun h2 he2 hk2 => wpAny_pyIter_enum he2 ?_
  replace he2 : IsEnum h2 h'.objs.size (s1.heap.objs.size + 4) 0 .none := he2
  replace hk2 : ∀ b o, h'.get? b = some o → h2.get? b = some o := hk2
  have m4 : (h'.objs.size : Nat) ≠ s1.heap.objs.size + 4 := by omega
  have m2 : (h'.objs.size : Nat) ≠ s1.heap.objs.size + 2 := by omega
  have m3 : (h'.objs.size : Nat) ≠ s1.heap.objs.size + 3 := by omega
  have m0 : (h'.objs.size : Nat) ≠ s1.heap.objs.size := by omega
  have m1 : (h'.objs.size : Nat) ≠ s1.heap.objs.size + 1 := by omega
  have m5 : (s1.heap.objs.size : Nat) ≤ h'.objs.size := by omega
  have I2 := I1.kept (h' := h2) (t' := s1.toks) fun b o e => hk2 b o (hk b o e)
  refine ⟨h'.objs.size, [h'.objs.size, s1.heap.objs.size + 4, s1.heap.objs.size + 2, s1.heap.objs.size + 3, s1.heap.objs.size, s1.heap.objs.size + 1], _, _, H1, rfl, I2, turn_enumZ l1 l2 _ _ _ _ _ _ ap m4 m2 m3 m0 m1,
    ⟨⟨_, he2⟩, ⟨_, _, hk2 _ _ hz, .inl rfl⟩, hk2 _ _ hI, ⟨_, _, hk2 _ _ hO⟩, hi1.at fun o q => hk2 _ o q, hi2.at fun o q => hk2 _ o q⟩, fun b hb => ?_, q⟩
  simp only [List.mem_cons, List.not_mem_nil, or_false] at hb
  rcases hb with rfl | rfl | rfl | rfl | rfl | rfl
  · exact I1.fpOk m5 (I1.hok.fresh m5)
  · exact I1.fpOk (Nat.le_add_right _ _) (I1.hok.fresh (Nat.le_add_right _ _))
  · exact I1.fpOk (Nat.le_add_right _ _) (I1.hok.fresh (Nat.le_add_right _ _))
  · exact I1.fpOk (Nat.le_add_right _ _) (I1.hok.fresh (Nat.le_add_right _ _))
  · exact I1.fpOk (Nat.le_refl _) (I1.hok.fresh (Nat.le_refl _))
  · exact I1.fpOk (Nat.le_add_right _ _) (I1.hok.fresh (Nat.le_add_right _ _))
theorem compG_enumZ {K : PySem.W.Frag} {a b D : Addr} {xs ys : List V} {g : TG} {tif : TT} {te : TE} {σ : St} {H : Hp} {R : Hp → Prop} {ts : List Str} {js : List (Nat × Str)} (Pv : Nat → List V → St → Hp → Prop) (h0 : Pv 0 [] (capS ts js σ) (upd H D (.lst []))) (hl : ∀ i zs σ H, i ≤ min xs.length ys.length → Pv i zs σ H → SqL K H a xs ∧ SqL K H b ys)
    (hs : ∀ i x y zs σ H t u, xs[i]? = some x → ys[i]? = some y → Pv i zs σ H → H t = none → H u = none → u ≠ t → g (.ref u) σ (upd (upd H t (.tup [x, y])) u (.tup [.int (i : Int), .ref t])) fun σ2 H2 => tif σ2 H2 fun b H3 => if b = true then te σ2 H3 fun y H4 => H4 D = some (.lst zs) ∧ zs.length < sizeLine ∧ Pv (i + 1) (zs ++ [y]) σ2 (upd H4 D (.lst (zs ++ [y]))) else Pv (i + 1) zs σ2 H3)
    (hd : ∀ zs σ H, Pv (min xs.length ys.length) zs σ H → R H) :
    ∃ W : Nat → Nat → List V → St → Hp → Prop, (∃ m, W 0 m [] (capS ts js σ) (upd H D (.lst []))) ∧
  ∀ i m ys σ' H, W i m ys σ' H → ((Itez K a b).stop i H ∧ R H) ∨ ((Itez K a b).go i H ∧ ∃ m', m' < m ∧ ∀ x H', (Itez K a b).yld i H x H' → g x σ' H' fun σ2 H2 => tif σ2 H2 fun b H3 =>
    if b = true then te σ2 H3 fun y H4 => H4 D = some (.lst ys) ∧ ys.length < sizeLine ∧ W (i + 1) m' (ys ++ [y]) σ2 (upd H4 D (.lst (ys ++ [y]))) else W (i + 1) m' ys σ2 H3) := by
  refine ⟨fun i m zs σ H => m = min xs.length ys.length - i ∧ i ≤ min xs.length ys.length ∧ Pv i zs σ H, ⟨min xs.length ys.length, by simp, Nat.zero_le _, h0⟩, ?_⟩
  rintro i m zs σ' H ⟨rfl, hi, p⟩
  have q := hl i zs σ' H hi p
  by_cases hlt : i < min xs.length ys.length
  · refine .inr ⟨⟨xs, ys, xs[i]'(by omega), ys[i]'(by omega), q.1, q.2, by simp, by simp⟩, min xs.length ys.length - (i + 1), by omega, fun x H' y => ?_⟩
    obtain ⟨t, u, y1, y2, rfl, ht, hu, nut, rfl, e1, e2⟩ := y
    have z := hs i y1 y2 zs σ' _ t u (e1 xs q.1) (e2 ys q.2) p ht hu nut
    have h1 : (i + 1 ≤ min xs.length ys.length) = True := eq_true hlt
    simp only [h1, true_and]
    exact z
  · have e : i = min xs.length ys.length := by omega
    subst e
    exact .inl ⟨⟨xs, ys, q.1, q.2, by omega⟩, hd zs σ' H p⟩
end L2
namespace L2
open PySem
theorem caps_of {X : Cx} {scope : Scope} {js : List (Nat × Str)} (h : (js.all fun p => X.N[p.1]? == some p.2 && X.env.scope.names.lookup p.2 == some .cell && scope.names.lookup p.2 == some .free) = true)
    (h2 : (scope.names.all fun y => y.2 != .free || X.env.scope.names.lookup y.1 == some .cell) = true) : Caps X scope js := by
  refine ⟨fun p hp => ?_, fun y hy => ?_⟩
  · have := List.all_eq_true.mp h p hp
    simp only [Bool.and_eq_true, beq_iff_eq] at this
    exact ⟨this.1.1, this.1.2, this.2⟩
  · have := List.all_eq_true.mp h2 _ hy
    simpa using this
theorem goT {σ : St} {H : Hp} {A B : Hp → Prop} (h : A H) : tTrue σ H fun b H3 => if b = true then A H3 else B H3 := by
  show if true = true then A H else B H
  exact iteT h
theorem goN {i : Nat} {v : V} {σ : St} {H : Hp} {Q : St → Hp → Prop} (h : Q (σ.set i (some v)) H) : gName i v σ H Q := h
end L2
namespace L2
open PySem
theorem ix_listK {X : Cx} (K : PySem.W.Frag) (hK : X.K = K := by rfl) : IxR X (rIxL K) := by
  subst hK
  exact ix_list
theorem ix_tupK {X : Cx} (K : PySem.W.Frag) (hK : X.K = K := by rfl) : IxR X (rIxT K) := by
  subst hK
  exact ix_tup
theorem pg_tupK {X : Cx} {es : List Expr} {k : Nat} {t : TGs} {n : Nat} {pos : Pos} (K : PySem.W.Frag) (hc : X.calm = true) (h : PGs X es t) (hK : X.K = K := by rfl)
    (hn : (assignEach es X.env).length = n := by rfl) (hst : (assignEach es X.env).findIdx? (·.1) = none := by rfl) : PG X (.Tuple es k pos) (gTup K n t) := by
  subst hK
  exact pg_tup hc h hn hst
end L2
namespace K11
open PySem L2
def top (i : Nat) : Stmt := PySem.Challenge.pw_wright_k49_papers_checked.main.body.getD i (.Pass ⟨0, 0, 0, 0⟩)
abbrev sHeads : Stmt := top 1
abbrev sRuleOf : Stmt := top 2
abbrev sBelow : Stmt := top 3
abbrev sStand : Stmt := top 5
abbrev sTop : Stmt := top 6
abbrev sDeeds : Stmt := top 8
abbrev sPaper : Stmt := top 9
abbrev sTold : Stmt := top 10
abbrev sNextW : Stmt := top 11
abbrev sCell : Stmt := top 13
abbrev sPart : Stmt := top 14
abbrev sDigits : Stmt := top 15
abbrev sPool : Stmt := top 16
abbrev sWordsIn : Stmt := top 17
abbrev sFree : Stmt := top 18
abbrev sMade : Stmt := top 19
abbrev sEnded : Stmt := top 20
abbrev sGood : Stmt := top 21
abbrev sRules : Stmt := top 22
abbrev sRanks : Stmt := top 23
abbrev sTree : Stmt := top 24
abbrev sLDeeds : Stmt := top 25
abbrev sLNext : Stmt := top 26
abbrev sIsTree : Stmt := top 27
abbrev sIsPaper : Stmt := top 28
abbrev sParting : Stmt := top 29
abbrev sBent : Stmt := top 30
abbrev sCase : Stmt := top 31
abbrev sLaw : Stmt := top 32
structure Txt (mg : Str → Option Value) : Prop where
  len : mg "len" = none
  rng : mg "range" = none
  isi : mg "isinstance" = none
  tup : mg "tuple" = none
  lst : mg "list" = none
  dct : mg "dict" = none
  all : mg "all" = none
  any : mg "any" = none
  str : mg "str" = none
  int : mg "int" = none
  boo : mg "bool" = none
  enu : mg "enumerate" = none
  sum : mg "sum" = none
  max : mg "max" = none
  min : mg "min" = none
  rev : mg "reversed" = none
  zip : mg "zip" = none
section
variable {P : Program} {w : World} {K : PySem.W.Frag} {mg : Str → Option Value} {base : Heap} {f : Addr} {fd : FuncData}
theorem boot_all : bootBuiltins "all" = some (.builtin "all") := by decide +kernel
theorem boot_lst : bootBuiltins "list" = some (.type "list") := by decide +kernel
theorem boot_txt : bootBuiltins "str" = some (.type "str") := by decide +kernel
theorem boot_dct : bootBuiltins "dict" = some (.type "dict") := by decide +kernel
theorem kit_st : PySem.W.kitOne K (.type "tuple") (.type "str") = some false := by kernel_rfl
theorem kit_ib : PySem.W.kitOne K (.type "int") (.type "bool") = some false := by kernel_rfl
end
end K11
namespace L2
open PySem
theorem sqt_upd {K : PySem.W.Frag} {H : Hp} {D a : Addr} {xs ys : List V} {o : HO} (hD : H D = some (.lst ys)) (h : SqT K H a xs) : SqT K (upd H D o) a xs := by
  rcases h with (h | ⟨u, h⟩) | h
  · exact .inl (.inl (by rw [upd_ne (fun z => by rw [z, hD] at h; cases h)]; exact h))
  · exact .inl (.inr ⟨u, by rw [upd_ne (fun z => by rw [z, hD] at h; cases h)]; exact h⟩)
  · exact .inr h
theorem any_key (kvs : List (Key × V)) (k : Key) : (kvs.any fun kv => decide (kv.1 = k)) = true ↔ k ∈ kvs.map (·.1) := by
  rw [List.any_eq_true, List.mem_map]
  constructor
  · rintro ⟨x, h1, h2⟩; exact ⟨x, h1, of_decide_eq_true h2⟩
  · rintro ⟨x, h1, h2⟩; exact ⟨x, h1, decide_eq_true h2⟩
theorem put_in {kvs : List (Key × V)} {k : Key} {v : V} (h : k ∈ kvs.map (·.1)) : (putK kvs k v).map (·.1) = kvs.map (·.1) := by
  unfold putK
  rw [if_pos ((any_key kvs k).mpr h), List.map_map]
  refine List.map_congr_left fun x hx => ?_
  show (if x.1 = k then (x.1, v) else x).1 = x.1
  split <;> rfl
theorem put_out {kvs : List (Key × V)} {k : Key} {v : V} (h : ¬ k ∈ kvs.map (·.1)) : (putK kvs k v).map (·.1) = kvs.map (·.1) ++ [k] := by
  unfold putK
  rw [if_neg (fun z => h ((any_key kvs k).mp z)), List.map_append]
  rfl
theorem val_mem (kvs : List (Key × V)) (k : Key) : (valV kvs k).isSome = true ↔ k ∈ kvs.map (·.1) := by
  rw [← valV_any]
  exact any_key kvs k
theorem paired_mapR {α β γ : Type} {F : α → β → Prop} {G : α → γ → Prop} {φ : β → γ} : ∀ {xs : List α} {ys : List β}, Paired F xs ys → (∀ a b, F a b → G a (φ b)) → Paired G xs (ys.map φ)
  | _, _, .nil, _ => .nil
  | _, _, .cons h t, k => .cons (k _ _ h) (paired_mapR t k)
theorem inr_mem {z : Str} {l : List Str} : (Sum.inr z : Key) ∈ l.map Sum.inr ↔ z ∈ l := by
  rw [List.mem_map]
  constructor
  · rintro ⟨x, h1, h2⟩; rw [← Sum.inr.inj h2]; exact h1
  · intro h; exact ⟨z, h, rfl⟩
end L2
namespace M11
abbrev Rule := PySem.Str × List PySem.Str
def add1 (a : List PySem.Str) (h : PySem.Str) : List PySem.Str := if h ∈ a then a else a ++ [h]
def ded (acc hs : List PySem.Str) : List PySem.Str := hs.foldl add1 acc
def addW (heads a : List PySem.Str) (p : PySem.Str) : List PySem.Str := if p ∈ heads then a else add1 a p
def wds (heads acc ps : List PySem.Str) : List PySem.Str := ps.foldl (addW heads) acc
theorem add1_len (a : List PySem.Str) (h : PySem.Str) : (add1 a h).length ≤ a.length + 1 := by
  unfold add1; split <;> simp
theorem ded_len : ∀ (hs acc : List PySem.Str), (ded acc hs).length ≤ acc.length + hs.length
  | [], acc => by simp [ded]
  | h :: r, acc => by
    have := ded_len r (add1 acc h)
    have := add1_len acc h
    show (ded (add1 acc h) r).length ≤ _
    rw [List.length_cons]; omega
end M11
namespace K11
open PySem L2 M11
theorem keys_add {acc : List (Key × V)} {as : List Str} (e : acc.map (·.1) = as.map Sum.inr) (h : Str) {v : V} : (putK acc (Sum.inr h) v).map (·.1) = (add1 as h).map Sum.inr := by
  unfold add1
  by_cases q : h ∈ as
  · rw [if_pos q, put_in (by rw [e]; exact inr_mem.mpr q), e]
  · rw [if_neg q, put_out (by rw [e]; exact fun z => q (inr_mem.mp z)), e, List.map_append]; rfl
theorem keys_ded : ∀ (hs : List Str) (acc : List (Key × V)) (as : List Str), acc.map (·.1) = as.map Sum.inr → (fillK (hs.map fun h => ((Sum.inr h : Key), V.bl true)) acc).map (·.1) = (ded as hs).map Sum.inr
  | [], acc, as, e => e
  | h :: r, acc, as, e => by
    refine keys_ded r (putK acc (Sum.inr h) (.bl true)) (add1 as h) ?_
    exact keys_add e h
theorem keys_str {kvs : List (Key × V)} {zs : List Str} (e : kvs.map (·.1) = zs.map Sum.inr) : (kvs.map fun p => kV p.1) = zs.map V.str := by
  have e2 : (kvs.map fun p => kV p.1) = (kvs.map (·.1)).map kV := by rw [List.map_map]; rfl
  rw [e2, e, List.map_map]
  rfl
section
variable {P : Program} {w : World} {K : PySem.W.Frag} {mg : Str → Option Value} {base : Heap} {f : Addr} {fd : FuncData}
def RuleV (K : PySem.W.Frag) (H : Hp) (r : Addr) (ru : Rule) : Prop := ∃ p, SqT K H r [.str ru.1, .ref p] ∧ SqT K H p (ru.2.map V.str)
def Rules (K : PySem.W.Frag) (H : Hp) (rs : List Addr) (rules : List Rule) : Prop := Paired (fun r ru => RuleV K H r ru) rs rules
theorem Rules.keep {H H' : Hp} {rs : List Addr} {rules : List Rule} (h : Rules K H rs rules) (k : ∀ a xs, SqT K H a xs → SqT K H' a xs) : Rules K H' rs rules := Paired.mapP h fun r ru ⟨p, a, b⟩ => ⟨p, k _ _ a, k _ _ b⟩
theorem Rules.same {H H' : Hp} {rs : List Addr} {rules : List Rule} (h : Rules K H rs rules) (s : Same H H') : Rules K H' rs rules := h.keep fun _ _ z => s.tup z
theorem Rules.get {H : Hp} {rs : List Addr} {rules : List Rule} (h : Rules K H rs rules) {i : Nat} {r : Addr} (e : rs[i]? = some r) : ∃ ru, rules[i]? = some ru ∧ RuleV K H r ru := by
  have l := Paired.length h
  have li := (List.getElem?_eq_some_iff.mp e).1
  have e2 : rules[i]? = some (rules[i]'(by omega)) := List.getElem?_eq_getElem (by omega)
  obtain ⟨x, e3, e4⟩ := Paired.at_ h i _ e2
  rw [e] at e3
  cases e3
  exact ⟨_, e2, e4⟩
end
def hd (rules : List Rule) : List Str := rules.map (·.1)
end K11
namespace K11
open PySem L2 M11
mutual
inductive Tr
  | w (z : Str)
  | n (k : Nat) (cs : Trs)
inductive Trs
  | nil
  | cons (t : Tr) (r : Trs)
end
def Trs.toL : Trs → List Tr
  | .nil => []
  | .cons t r => t :: r.toL
mutual
def TrV (K : PySem.W.Frag) (H : Hp) : Tr → V → Prop
  | .w z, v => v = .str z
  | .n k cs, v => ∃ a p vs, v = .ref a ∧ SqT K H a [.int (k : Int), .ref p] ∧ SqT K H p vs ∧ TrsV K H cs vs
def TrsV (K : PySem.W.Frag) (H : Hp) : Trs → List V → Prop
  | .nil, vs => vs = []
  | .cons t r, vs => ∃ v vs', vs = v :: vs' ∧ TrV K H t v ∧ TrsV K H r vs'
end
mutual
def row : Tr → List Str
  | .w z => [z]
  | .n _ cs => rows cs
def rows : Trs → List Str
  | .nil => []
  | .cons t r => row t ++ rows r
end
mutual
def sz : Tr → Nat
  | .w _ => 1
  | .n _ cs => 1 + szs cs
def szs : Trs → Nat
  | .nil => 0
  | .cons t r => sz t + szs r
end
mutual
def dp : Tr → Nat
  | .w _ => 0
  | .n _ cs => 1 + dps cs
def dps : Trs → Nat
  | .nil => 0
  | .cons t r => max (dp t) (dps r)
end
mutual
def Is (rules : List Rule) : Tr → Str → Prop
  | .w z, x => x = z ∧ z ∉ hd rules
  | .n k cs, x => ∃ parts, rules[k]? = some (x, parts) ∧ Iss rules cs parts
def Iss (rules : List Rule) : Trs → List Str → Prop
  | .nil, ps => ps = []
  | .cons t r, ps => ∃ p ps', ps = p :: ps' ∧ Is rules t p ∧ Iss rules r ps'
end
section
variable {K : PySem.W.Frag}
mutual
theorem TrV.keep {H H' : Hp} (k : ∀ a xs, SqT K H a xs → SqT K H' a xs) : ∀ (t : Tr) {v : V}, TrV K H t v → TrV K H' t v
  | .w z, v, h => by unfold TrV at *; exact h
  | .n m cs, v, h => by
    unfold TrV at *
    obtain ⟨a, p, vs, e, h1, h2, h3⟩ := h
    exact ⟨a, p, vs, e, k _ _ h1, k _ _ h2, TrsV.keep k cs h3⟩
theorem TrsV.keep {H H' : Hp} (k : ∀ a xs, SqT K H a xs → SqT K H' a xs) : ∀ (ts : Trs) {vs : List V}, TrsV K H ts vs → TrsV K H' ts vs
  | .nil, vs, h => by unfold TrsV at *; exact h
  | .cons t r, vs, h => by
    unfold TrsV at *
    obtain ⟨v, vs', e, h1, h2⟩ := h
    exact ⟨v, vs', e, TrV.keep k t h1, TrsV.keep k r h2⟩
end
theorem TrsV.paired {H : Hp} : ∀ (ts : Trs) {vs : List V}, TrsV K H ts vs → Paired (fun v t => TrV K H t v) vs ts.toL
  | .nil, vs, h => by unfold TrsV at h; subst h; exact .nil
  | .cons t r, vs, h => by
    unfold TrsV at h
    obtain ⟨v, vs', rfl, h1, h2⟩ := h
    exact .cons h1 (TrsV.paired r h2)
theorem rows_toL : ∀ ts : Trs, rows ts = ts.toL.flatMap row
  | .nil => by unfold rows; rfl
  | .cons t r => by unfold rows; rw [rows_toL r]; rfl
theorem szs_toL : ∀ ts : Trs, szs ts = (ts.toL.map sz).sum
  | .nil => by unfold szs; rfl
  | .cons t r => by unfold szs; rw [szs_toL r]; rfl
theorem sz_pos : ∀ t : Tr, 1 ≤ sz t
  | .w _ => by unfold sz; exact Nat.le_refl _
  | .n _ cs => by unfold sz; omega
theorem Iss.paired {rules : List Rule} : ∀ (ts : Trs) {ps : List Str}, Iss rules ts ps → ts.toL.length = ps.length ∧ ∀ (j : Nat) t p, ts.toL[j]? = some t → ps[j]? = some p → Is rules t p
  | .nil, ps, h => by
    unfold Iss at h; subst h
    exact ⟨rfl, fun j t p e => by simp [Trs.toL] at e⟩
  | .cons t r, ps, h => by
    unfold Iss at h
    obtain ⟨p, ps', rfl, h1, h2⟩ := h
    obtain ⟨a, b⟩ := Iss.paired r h2
    refine ⟨by show r.toL.length + 1 = ps'.length + 1; omega, fun j u q e1 e2 => ?_⟩
    cases j with
    | zero => cases e1; cases e2; exact h1
    | succ j => exact b j u q e1 e2
theorem dps_le : ∀ (ts : Trs) (t : Tr), t ∈ ts.toL → dp t ≤ dps ts
  | .nil, t, h => by cases h
  | .cons u r, t, h => by
    unfold dps
    rcases List.mem_cons.mp h with e | e
    · rw [e]; omega
    · have := dps_le r t e
      omega
end
section
variable {P : Program} {w : World} {K : PySem.W.Frag} {mg : Str → Option Value} {base : Heap} {f : Addr} {fd : FuncData}
theorem paired_last {α β : Type} {F : α → β → Prop} {us : List α} {ts : List β} (p : Paired F us ts) (h : us ≠ []) : ∃ us' u ts' t, us = us' ++ [u] ∧ ts = ts' ++ [t] ∧ Paired F us' ts' ∧ F u t := by
  have p2 := Paired.rev' p
  have hr : us.reverse ≠ [] := fun z => h (List.reverse_eq_nil_iff.mp z)
  generalize e1 : us.reverse = us2 at p2 hr
  generalize e2 : ts.reverse = ts2 at p2
  cases p2 with
  | nil => exact absurd rfl hr
  | @cons u t us3 ts3 a b =>
    refine ⟨us3.reverse, u, ts3.reverse, t, ?_, ?_, Paired.rev' b, a⟩
    · rw [← List.reverse_reverse us, e1, List.reverse_cons]
    · rw [← List.reverse_reverse ts, e2, List.reverse_cons]
theorem Paired.app' {α β : Type} {F : α → β → Prop} : ∀ {xs : List α} {ys : List β} {xs2 : List α} {ys2 : List β}, Paired F xs ys → Paired F xs2 ys2 → Paired F (xs ++ xs2) (ys ++ ys2)
  | _, _, _, _, .nil, h => h
  | _, _, _, _, .cons a b, h => .cons a (Paired.app' b h)
theorem pop_last {us : List V} {u : V} : (us ++ [u])[(us ++ [u]).length - 1]? = some u := by
  rw [List.length_append]
  simp
end
end K11
namespace K11
open PySem L2 M11
theorem atM {zs : List Str} {m : Int} (h : (zs.length : Int) = m) (hm : 0 < m) (n : Int) : ∃ z ∈ zs, atI (zs.map V.str) (n % m) = some (.str z) := by
  subst h
  have h1 := Int.emod_lt_of_pos n hm
  have h2 := Int.emod_nonneg n (show (zs.length : Int) ≠ 0 by omega)
  have l : (n % (zs.length : Int)).toNat < zs.length := by omega
  have e : n % (zs.length : Int) = (((n % (zs.length : Int)).toNat : Nat) : Int) := by omega
  refine ⟨zs[(n % (zs.length : Int)).toNat], List.getElem_mem l, ?_⟩
  have t : atI (zs.map V.str) (((n % (zs.length : Int)).toNat : Nat) : Int) = some (.str zs[(n % (zs.length : Int)).toNat]) := atI_nat (by rw [List.getElem?_map, List.getElem?_eq_getElem l]; rfl)
  rw [← e] at t
  exact t
structure Small (rules : List Rule) : Prop where
  one : 1 ≤ rules.length
  most : rules.length ≤ 8
  few : ∀ ru ∈ rules, ru.2.length ≤ 4
  heads : ∃ U : List Str, U.length ≤ 5 ∧ ∀ ru ∈ rules, ru.1 ∈ U
section
variable {P : Program} {w : World} {K : PySem.W.Frag} {mg : Str → Option Value} {base : Heap} {f : Addr} {fd : FuncData}
def spCell (K : PySem.W.Frag) : Sp := fun vs H Q _ => ∃ (a : Addr) (ns : List Int) (k : Nat), vs = [.ref a, .int (k : Int)] ∧ SqL K H a (ns.map V.int) ∧ ns.length ≤ 1000 ∧ ∀ n : Int, Q (.int n) H
theorem scCell : FnScope ["_law_script", "_law_k"] ["_law_script", "_law_k"] (defScope sCell) := ⟨rfl, rfl, rfl, by decide +kernel, rfl, by decide +kernel, by decide +kernel⟩
theorem ok_cell (F : Fun K "_law_cell_at" "_law_cell_at" sCell f fd) (T : Txt mg) : FnOk P w K mg base CX0 1 f fd ["_law_script", "_law_k"] (spCell K) := by
  refine F.ok scCell (fun vs H Q E h => ?_) (fun cdv A outer s H vs Q E hr h => ?_)
  · obtain ⟨a, ns, k, rfl, _⟩ := h; rfl
  · obtain ⟨a, ns, k, rfl, hS, hn, q⟩ := h
    refine ⟨_, pss_cons (ps_if (pt_cmpR op_lt (pv 1) (pe_callB call_len_seq rfl T.len PySem.boot_len (pa_cons (pv 0) pa_nil)) (nomark _)) (pss_one (ps_ret (pe_ix ix_list (pv 0) (pv 1) (fun _ _ => rfl)))) pss_nil) (pss_one (ps_ret pe_int)), ?_⟩
    refine ⟨_, rfl, _, rfl, a, _, rfl, .inl hS, _, _, rfl, rfl, _, rfl, ?_⟩
    refine ite2 (fun cc => ?_) (fun _ => q 0)
    have lt := of_decide_eq_true cc
    rw [List.length_map] at lt
    have lt' : k < ns.length := by omega
    refine ⟨_, rfl, _, rfl, a, _, _, .int ns[k], rfl, rfl, hS, atI_nat (by rw [List.getElem?_map, List.getElem?_eq_getElem lt']; rfl), q _⟩
def spPart : Sp := fun vs H Q _ => ∃ (c : Int) (k m : Nat), vs = [.int c, .int (k : Int), .int (m : Int)] ∧ 0 < m ∧ k ≤ 10 ∧ ∀ r : Nat, r < m → Q (.int (r : Int)) H
theorem scPart : FnScope ["_law_cell", "_law_k", "_law_many"] ["_law_cell", "_law_k", "_law_many"] (defScope sPart) := ⟨rfl, rfl, rfl, by decide +kernel, rfl, by decide +kernel, by decide +kernel⟩
theorem ok_part (F : Fun K "_law_part" "_law_part" sPart f fd) (T : Txt mg) : FnOk P w K mg base CX0 1 f fd ["_law_cell", "_law_k", "_law_many"] spPart := by
  refine F.ok scPart (fun vs H Q E h => ?_) (fun cdv A outer s H vs Q E hr h => ?_)
  · obtain ⟨c, k, m, rfl, _⟩ := h; rfl
  · obtain ⟨c, k, m, rfl, hm, hk, q⟩ := h
    refine ⟨_, pss_one (ps_ret (pe_op op_mod (pe_op op_mod (pe_op op_mul (pe_op op_mod (pe_op op_mul (pe_op op_add (pe_op op_mod (pv 0) pe_int) pe_int) (pe_op op_add pe_int (pe_op op_mul pe_int (pv 1)))) pe_int) (pe_op op_add (pv 1) pe_int)) pe_int) (pv 2))), ?_⟩
    have h1 := Int.emod_lt_of_pos c (show (0 : Int) < 99991 by decide)
    have h2 := Int.emod_nonneg c (show (99991 : Int) ≠ 0 by decide)
    refine ⟨_, rfl, _, _, rfl, rfl, (by show (0 : Int) < 99991; decide), _, _, rfl, rfl, _, rfl, _, _, rfl, rfl, .inl ⟨by decide, by decide⟩, _, _, rfl, rfl, _, _, rfl, rfl, .inl ⟨by show -(2 ^ 64) < c % 99991 + 17; omega, by show c % 99991 + 17 < 2 ^ 64; omega⟩, _, _, rfl, rfl, (by show (0 : Int) < 65537; decide), ?_⟩
    generalize (c % 99991 + 17) * (48271 + 7919 * (k : Int)) = y
    have h3 := Int.emod_lt_of_pos y (show (0 : Int) < 65537 by decide)
    have h4 := Int.emod_nonneg y (show (65537 : Int) ≠ 0 by decide)
    refine ⟨_, rfl, _, _, rfl, rfl, _, _, rfl, rfl, .inl ⟨by show -(2 ^ 64) < y % 65537; omega, by show y % 65537 < 2 ^ 64; omega⟩, _, _, rfl, rfl, (by show (0 : Int) < 8191; decide), _, rfl, _, _, rfl, rfl, (by show (0 : Int) < (m : Int); omega), ?_⟩
    generalize y % 65537 * ((k : Int) + 3) % 8191 = x
    have h5 := Int.emod_lt_of_pos x (show (0 : Int) < (m : Int) by omega)
    have h6 := Int.emod_nonneg x (show (m : Int) ≠ 0 by omega)
    have e : x % (m : Int) = (((x % (m : Int)).toNat : Nat) : Int) := by omega
    show Q (.int (x % (m : Int))) H
    rw [e]
    exact q _ (by omega)
def spDigits : Sp := fun vs H Q _ => ∃ (c : Int) (m : Nat) (S : Addr) (zs : List Str), vs = [.int c, .int (m : Int), .ref S] ∧ m ≤ 100 ∧ H S = some (.lst (zs.map V.str)) ∧ 0 < zs.length ∧ zs.length ≤ 1000 ∧ ∀ (p : Addr) (ps : List Str) (H' : Hp), Same H H' → H' p = some (.tup (ps.map V.str)) → ps.length = m → Q (.ref p) H'
theorem scDigits : FnScope ["_law_cell", "_law_many", "_law_some", "_law_parts", "_law_seed", "_law_k"] ["_law_cell", "_law_many", "_law_some"] (defScope sDigits) := ⟨rfl, rfl, rfl, by decide +kernel, rfl, by decide +kernel, by decide +kernel⟩
theorem ok_digits (F : Fun K "_law_digits" "_law_digits" sDigits f fd) (T : Txt mg) : FnOk P w K mg base CX0 1 f fd ["_law_cell", "_law_many", "_law_some"] spDigits := by
  refine F.ok scDigits (fun vs H Q E h => ?_) (fun cdv A outer s H vs Q E hr h => ?_)
  · obtain ⟨c, m, S, zs, rfl, _⟩ := h; rfl
  · obtain ⟨c, m, S, zs, rfl, hm, hS, hz0, hz1, q⟩ := h
    refine ⟨_, pss_cons (ps_set (i := 3) scDigits.nd rfl (Or.inl rfl) (pe_lst pa_nil))
      (pss_cons (ps_set (i := 4) scDigits.nd rfl (Or.inl rfl) (pe_op op_add (pe_op op_mod (pv 0) pe_int) pe_int))
      (pss_cons (ps_for PassesOwn.never rfl (pi_range1 rfl T.rng (pa_cons (pv 1) pa_nil)) (pg_name (i := 5) scDigits.nd rfl (Or.inl rfl))
        (pss_one (ps_if (pt_cmpR op_gt (pv 0) pe_int (nomark _))
          (pss_cons (ps_expr (pe_bm PySem.F.plainAttrs_list PySem.F.slot_list_append PySem.F.type_list_append mt_append (pv 3) (pa_cons (pe_ix ix_list (pv 2) (pe_op op_mod (pe_op op_sub (pv 0) pe_int) (pe_callB call_len_seq rfl T.len PySem.boot_len (pa_cons (pv 2) pa_nil))) (fun _ _ => rfl)) pa_nil)))
          (pss_one (ps_set (i := 0) scDigits.nd rfl (Or.inl rfl) (pe_op op_fdiv (pe_op op_sub (pv 0) pe_int) (pe_callB call_len_seq rfl T.len PySem.boot_len (pa_cons (pv 2) pa_nil))))))
          (pss_cons (ps_set (i := 4) scDigits.nd rfl (Or.inl rfl) (pe_op op_mod (pe_op op_mul (pv 4) pe_int) pe_int))
          (pss_one (ps_expr (pe_bm PySem.F.plainAttrs_list PySem.F.slot_list_append PySem.F.type_list_append mt_append (pv 3) (pa_cons (pe_ix ix_list (pv 2) (pe_op op_mod (pe_op op_fdiv (pv 4) pe_int) (pe_callB call_len_seq rfl T.len PySem.boot_len (pa_cons (pv 2) pa_nil))) (fun _ _ => rfl)) pa_nil))))))))
      (pss_one (ps_ret (pe_callTy call_tuple_of rfl T.tup PyProof.Rows.boot_tuple (pa_cons (pv 3) pa_nil)))))), ?_⟩
    have hzi : (0 : Int) < (zs.length : Int) := by omega
    refine ⟨(by show 0 ≤ sizeLine; decide), fun L hL => ?_⟩
    have hS1 := same_laid hL (.lst []) _ _ hS
    have nS : S ≠ L := fun z => by rw [z, hL] at hS; cases hS
    refine ⟨_, rfl, _, _, rfl, rfl, (by show (0 : Int) < 2147483647; decide), _, _, rfl, rfl, ?_⟩
    refine ⟨_, rfl, (m : Int), rfl, by omega, by omega, ?_⟩
    rw [Int.toNat_natCast m]
    refine for_range (n := m) (fun i σ H2 => ∃ (c2 c4 : Int) (k2 : Option V) (ps : List Str), σ = [some (.int c2), some (.int (m : Int)), some (.ref S), some (.ref L), some (.int c4), k2] ∧ H2 = upd H L (.lst (ps.map V.str)) ∧ ps.length = i) ⟨c, _, none, [], rfl, rfl, rfl⟩ ?_ ?_
    · rintro i σ H2 hi ⟨c2, c4, k2, ps, rfl, rfl, hp⟩
      have eS : upd H L (.lst (ps.map V.str)) S = some (.lst (zs.map V.str)) := by rw [upd_ne nS]; exact hS
      refine goN ?_
      refine ⟨_, rfl, _, _, rfl, rfl, _, rfl, ?_⟩
      refine ite2 (fun _ => ?_) (fun _ => ?_)
      · obtain ⟨z, _, ez⟩ := atM (zs := zs) rfl hzi (c2 - 1)
        refine ⟨_, rfl, .inl ⟨rfl, _, SqL.of upd_same⟩, _, rfl, _, rfl, _, _, rfl, rfl, _, rfl, S, _, rfl, .inl (SqL.of eS), _, _, rfl, rfl, ?_⟩
        rw [List.length_map]
        refine ⟨hzi, S, _, _, _, rfl, rfl, SqL.of eS, ez, L, _, _, rfl, rfl, upd_same, fits' (by rw [List.length_map]; omega), ?_⟩
        rw [upd_upd]
        have eS2 : upd H L (.lst (ps.map V.str ++ [.str z])) S = some (.lst (zs.map V.str)) := by rw [upd_ne nS]; exact hS
        refine ⟨_, rfl, _, _, rfl, rfl, _, rfl, S, _, rfl, .inl (SqL.of eS2), _, _, rfl, rfl, ?_⟩
        rw [List.length_map]
        refine ⟨⟨hzi, by show (zs.length : Int) < 1073741824; omega⟩, ?_⟩
        exact ⟨_, _, _, ps ++ [z], rfl, by rw [List.map_append]; rfl, by rw [List.length_append, hp]; rfl⟩
      · refine ⟨_, rfl, _, _, rfl, rfl, .inr ⟨by decide, by decide⟩, _, _, rfl, rfl, (by show (0 : Int) < 2147483647; decide), ?_⟩
        obtain ⟨z, _, ez⟩ := atM (zs := zs) rfl hzi (c4 * 48271 % 2147483647 / 3)
        refine ⟨_, rfl, .inl ⟨rfl, _, SqL.of upd_same⟩, _, rfl, _, rfl, _, _, rfl, rfl, ⟨by decide, by decide⟩, _, rfl, S, _, rfl, .inl (SqL.of eS), _, _, rfl, rfl, ?_⟩
        rw [List.length_map]
        refine ⟨hzi, S, _, _, _, rfl, rfl, SqL.of eS, ez, L, _, _, rfl, rfl, upd_same, fits' (by rw [List.length_map]; omega), ?_⟩
        rw [upd_upd]
        exact ⟨_, _, _, ps ++ [z], rfl, by rw [List.map_append]; rfl, by rw [List.length_append, hp]; rfl⟩
    · rintro σ H2 ⟨c2, c4, k2, ps, rfl, rfl, hp⟩
      refine ⟨_, rfl, L, _, rfl, .inl ⟨SqL.of upd_same, fun p hp2 => ?_⟩⟩
      exact q p ps _ ((same_laid hL _).trans (same_laid hp2 _)) upd_same hp
end
end K11
namespace K11
open PySem L2 M11
def pick3 {α : Type} (i : Nat) (x y z : α) : α := match i with | 0 => x | 1 => y | _ => z
theorem mod3 (c : Int) : ∃ i : Nat, i < 3 ∧ c % 3 = (i : Int) := ⟨(c % 3).toNat, by omega, by omega⟩
theorem lit3 {H : Hp} {L1 L2 L3 LL : Addr} {xs ys zs : List V} (h1 : H L1 = none) (h2 : upd H L1 (.lst xs) L2 = none) (h3 : upd (upd H L1 (.lst xs)) L2 (.lst ys) L3 = none)
    (h4 : upd (upd (upd H L1 (.lst xs)) L2 (.lst ys)) L3 (.lst zs) LL = none) : Same H (upd (upd (upd (upd H L1 (.lst xs)) L2 (.lst ys)) L3 (.lst zs)) LL (.lst [.ref L1, .ref L2, .ref L3])) ∧ ∀ i : Nat, i < 3 → ∃ Li, atI [V.ref L1, V.ref L2, V.ref L3] (i : Int) = some (.ref Li) ∧ H Li = none ∧
      upd (upd (upd (upd H L1 (.lst xs)) L2 (.lst ys)) L3 (.lst zs)) LL (.lst [.ref L1, .ref L2, .ref L3]) Li = some (.lst (pick3 i xs ys zs)) := by
  have s1 := same_laid h1 (.lst xs)
  have s2 := same_laid h2 (.lst ys)
  have s3 := same_laid h3 (.lst zs)
  have s4 := same_laid h4 (.lst [.ref L1, .ref L2, .ref L3])
  refine ⟨s1.trans (s2.trans (s3.trans s4)), fun i hi => ?_⟩
  match i, hi with
  | 0, _ => exact ⟨L1, rfl, h1, s4 _ _ (s3 _ _ (s2 _ _ upd_same))⟩
  | 1, _ => exact ⟨L2, rfl, s1.free h2, s4 _ _ (s3 _ _ upd_same)⟩
  | 2, _ => exact ⟨L3, rfl, s1.free (s2.free h3), s4 _ _ upd_same⟩
def nmL (i : Nat) : List Str := pick3 i ["s", "t", "u"] ["b", "aa", "k"] ["a", "ab", "n"]
def wdL (i : Nat) : List Str := pick3 i ["a", "b", "c"] ["ab", "a", "c"] ["b", "+", "ba"]
def nmJ (i j : Nat) : List Str := (nmL i).map fun z => z ++ repS "y" j
theorem nm_pick (i : Nat) : pick3 i [V.str "s", V.str "t", V.str "u"] [V.str "b", V.str "aa", V.str "k"] [V.str "a", V.str "ab", V.str "n"] = (nmL i).map V.str := by
  match i with
  | 0 => rfl
  | 1 => rfl
  | _ + 2 => rfl
theorem wd_pick (i : Nat) : pick3 i [V.str "a", V.str "b", V.str "c"] [V.str "ab", V.str "a", V.str "c"] [V.str "b", V.str "+", V.str "ba"] = (wdL i).map V.str := by
  match i with
  | 0 => rfl
  | 1 => rfl
  | _ + 2 => rfl
theorem nm_len (i : Nat) : (nmL i).length = 3 := by
  match i with
  | 0 => rfl
  | 1 => rfl
  | _ + 2 => rfl
theorem wd_len (i : Nat) : (wdL i).length = 3 := by
  match i with
  | 0 => rfl
  | 1 => rfl
  | _ + 2 => rfl
theorem nm_short (i : Nat) : ∀ z ∈ nmL i, z.length ≤ 2 := by
  match i with
  | 0 => decide +kernel
  | 1 => decide +kernel
  | n + 2 => exact (by decide +kernel : ∀ z ∈ nmL 2, z.length ≤ 2)
theorem rep_short {j : Nat} (h : j < 3) : (repS "y" j).length ≤ 2 := by
  match j, h with
  | 0, _ => decide +kernel
  | 1, _ => decide +kernel
  | 2, _ => decide +kernel
section
variable {P : Program} {w : World} {K : PySem.W.Frag} {mg : Str → Option Value} {base : Heap} {f : Addr} {fd : FuncData}
def spPool (K : PySem.W.Frag) : Sp := fun vs H Q _ => ∃ (c : Int), vs = [.int c] ∧ ∀ (t N W : Addr) (i j : Nat) (H' : Hp), i < 3 → j < 3 → Same H H' → SqT K H' t [.ref N, .ref W] → H' N = some (.lst ((nmJ i j).map V.str)) → H' W = some (.lst ((wdL i).map V.str)) → Q (.ref t) H'
theorem scPool : FnScope ["_law_cell", "_law_names", "_law_words"] ["_law_cell"] (defScope sPool) := ⟨rfl, rfl, rfl, by decide +kernel, rfl, by decide +kernel, by decide +kernel⟩
theorem ok_pool (F : Fun K "_law_pool" "_law_pool" sPool f fd) (T : Txt mg) : FnOk P w K mg base CX0 1 f fd ["_law_cell"] (spPool K) := by
  refine F.ok scPool (fun vs H Q E h => ?_) (fun cdv A outer s H vs Q E hr h => ?_)
  · obtain ⟨c, rfl, _⟩ := h; rfl
  · obtain ⟨c, rfl, q⟩ := h
    refine ⟨_, @pss_cons _ _ _ _ _ (@ps_set _ _ 1 _ _ _ _ scPool.nd rfl (Or.inl rfl) (@pe_ix _ _ _ _ _ _ _ ix_list (@pe_lst _ _ _ _ (@pa_cons _ _ _ _ _ (@pe_lst _ _ _ _ (@pa_cons _ _ _ _ _ (@pe_str _ _ _ _) (@pa_cons _ _ _ _ _ (@pe_str _ _ _ _) (@pa_cons _ _ _ _ _ (@pe_str _ _ _ _) (@pa_nil _) rfl) rfl) rfl)) (@pa_cons _ _ _ _ _ (@pe_lst _ _ _ _ (@pa_cons _ _ _ _ _ (@pe_str _ _ _ _) (@pa_cons _ _ _ _ _ (@pe_str _ _ _ _) (@pa_cons _ _ _ _ _ (@pe_str _ _ _ _) (@pa_nil _) rfl) rfl) rfl)) (@pa_cons _ _ _ _ _ (@pe_lst _ _ _ _ (@pa_cons _ _ _ _ _ (@pe_str _ _ _ _) (@pa_cons _ _ _ _ _ (@pe_str _ _ _ _) (@pa_cons _ _ _ _ _ (@pe_str _ _ _ _) (@pa_nil _) rfl) rfl) rfl)) (@pa_nil _) rfl) rfl) rfl)) (pe_op op_mod (pe_op op_fdiv (pv 0) pe_int) pe_int) (fun _ _ => rfl)) rfl (.inr rfl))
      (@pss_cons _ _ _ _ _ (@ps_set _ _ 2 _ _ _ _ scPool.nd rfl (Or.inl rfl) (@pe_ix _ _ _ _ _ _ _ ix_list (@pe_lst _ _ _ _ (@pa_cons _ _ _ _ _ (@pe_lst _ _ _ _ (@pa_cons _ _ _ _ _ (@pe_str _ _ _ _) (@pa_cons _ _ _ _ _ (@pe_str _ _ _ _) (@pa_cons _ _ _ _ _ (@pe_str _ _ _ _) (@pa_nil _) rfl) rfl) rfl)) (@pa_cons _ _ _ _ _ (@pe_lst _ _ _ _ (@pa_cons _ _ _ _ _ (@pe_str _ _ _ _) (@pa_cons _ _ _ _ _ (@pe_str _ _ _ _) (@pa_cons _ _ _ _ _ (@pe_str _ _ _ _) (@pa_nil _) rfl) rfl) rfl)) (@pa_cons _ _ _ _ _ (@pe_lst _ _ _ _ (@pa_cons _ _ _ _ _ (@pe_str _ _ _ _) (@pa_cons _ _ _ _ _ (@pe_str _ _ _ _) (@pa_cons _ _ _ _ _ (@pe_str _ _ _ _) (@pa_nil _) rfl) rfl) rfl)) (@pa_nil _) rfl) rfl) rfl)) (pe_op op_mod (pe_op op_fdiv (pv 0) pe_int) pe_int) (fun _ _ => rfl)) rfl (.inr rfl))
      (pss_one (ps_ret (pe_tup (pa_cons (pe_compG ["_law_name"] [(0, "_law_cell")] rfl (pi_list (pv 1)) (caps_of rfl rfl) (by decide +kernel) rfl (by decide +kernel)
        (fun _ _ _ _ _ => pg_name (i := 0) (show (["_law_name", "_law_cell"] : List Str).Nodup by decide +kernel) rfl (Or.inl rfl)) (fun _ _ _ _ _ => pif_nil)
        (fun _ _ _ _ _ => pe_op op_add_str (pv 0) (pe_op op_mulS pe_str (pe_op op_mod (pe_op op_fdiv (pv 1) pe_int) pe_int)))) (pa_cons (pv 2) pa_nil)))))), ?_⟩
    obtain ⟨i, hi, ei⟩ := mod3 (c / 135)
    obtain ⟨j, hj, ej⟩ := mod3 (c / 45)
    refine ⟨(by show 3 ≤ sizeLine; decide), fun L1 h1 => ⟨(by show 3 ≤ sizeLine; decide), fun L2 h2 => ⟨(by show 3 ≤ sizeLine; decide), fun L3 h3 => ⟨(by show 3 ≤ sizeLine; decide), fun LL hLL => ?_⟩⟩⟩⟩
    obtain ⟨s1, p1⟩ := lit3 h1 h2 h3 hLL
    obtain ⟨Li, a1, f1, e1⟩ := p1 i hi
    rw [nm_pick] at e1
    refine ⟨_, rfl, _, _, rfl, rfl, ⟨by decide, by decide⟩, _, _, rfl, rfl, (by show (0 : Int) < 3; decide), ?_⟩
    refine ⟨LL, _, (i : Int), .ref Li, rfl, congrArg V.int ei, SqL.of upd_same, a1, ?_⟩
    generalize upd (upd (upd (upd H L1 _) L2 _) L3 _) LL _ = H1 at s1 e1
    refine ⟨(by show 3 ≤ sizeLine; decide), fun M1 h1 => ⟨(by show 3 ≤ sizeLine; decide), fun M2 h2 => ⟨(by show 3 ≤ sizeLine; decide), fun M3 h3 => ⟨(by show 3 ≤ sizeLine; decide), fun MM hMM => ?_⟩⟩⟩⟩
    obtain ⟨s2, p2⟩ := lit3 h1 h2 h3 hMM
    obtain ⟨Wi, a2, f2, e2⟩ := p2 i hi
    rw [wd_pick] at e2
    refine ⟨_, rfl, _, _, rfl, rfl, ⟨by decide, by decide⟩, _, _, rfl, rfl, (by show (0 : Int) < 3; decide), ?_⟩
    refine ⟨MM, _, (i : Int), .ref Wi, rfl, congrArg V.int ei, SqL.of upd_same, a2, ?_⟩
    generalize upd (upd (upd (upd H1 M1 _) M2 _) M3 _) MM _ = H2 at s2 e2
    have s02 := s1.trans s2
    have e12 := s2 _ _ e1
    have nmn := nm_len i
    refine ⟨_, rfl, Li, rfl, ⟨_, SqL.of e12⟩, fun D hD => compG_list (xs := (nmL i).map V.str) (fun k ys σ2 H3 => ys = ((nmJ i j).take k).map V.str ∧ (∃ y0, σ2 = [y0, some (.int c)]) ∧ Same H2 H3 ∧ H3 D = some (.lst ys))
          ⟨rfl, ⟨none, rfl⟩, same_laid hD _, upd_same⟩ (fun k ys σ2 H3 _ h => ?_) (fun k x ys σ2 H3 ex h => ?_) (fun ys σ2 H3 h => ?_)⟩
    · obtain ⟨_, _, sm, _⟩ := h
      exact SqL.of (sm _ _ e12)
    · obtain ⟨rfl, ⟨y0, rfl⟩, sm, eD⟩ := h
      have lk := (List.getElem?_eq_some_iff.mp ex).1
      rw [List.length_map] at lk
      rw [List.getElem?_map] at ex
      obtain ⟨z, ez, rfl⟩ := Option.map_eq_some_iff.mp ex
      have hz := nm_short i z (List.mem_of_getElem? ez)
      have hy := rep_short hj
      refine goN (goT ?_)
      refine ⟨_, rfl, _, rfl, _, _, rfl, rfl, ⟨by decide, by decide⟩, _, _, rfl, rfl, (by show (0 : Int) < 3; decide), ?_⟩
      have ly : ("y" : Str).length = 1 := by decide +kernel
      refine ⟨"y", j, rfl, congrArg V.int ej, by omega, ly, _, _, rfl, rfl, fits (by omega), ?_⟩
      refine ⟨eD, fits' (by rw [List.length_map, List.length_take]; omega), ?_, ⟨_, rfl⟩, fun b o hb => ?_, upd_same⟩
      · have : (nmJ i j)[k]? = some (z ++ repS "y" j) := by unfold nmJ; rw [List.getElem?_map, ez]; rfl
        rw [List.take_add_one, this, List.map_append]
        rfl
      · rw [upd_ne (fun z => by rw [z, hD] at hb; cases hb)]
        exact sm b o hb
    · obtain ⟨rfl, _, sm, eD⟩ := h
      rw [List.length_map, List.take_of_length_le (by unfold nmJ; rw [List.length_map]; exact Nat.le_refl _)] at eD
      refine ⟨_, rfl, (by show 2 ≤ sizeLine; decide), fun t ht => ?_⟩
      have k4 := same_laid ht (.tup [.ref D, .ref Wi])
      exact q t D Wi i j _ hi hj (s02.trans (sm.trans k4)) (SqT.of upd_same) (k4 _ _ eD) (k4 _ _ (sm _ _ e2))
def spFree (K : PySem.W.Frag) : Sp := fun vs H Q _ => ∃ (S N W : Addr) (ns : List Int) (at_ : Nat) (nms ws : List Str), vs = [.ref S, .int (at_ : Int), .ref N, .ref W] ∧ SqL K H S (ns.map V.int) ∧ ns.length ≤ 1000 ∧ H N = some (.lst (nms.map V.str)) ∧ H W = some (.lst (ws.map V.str)) ∧ 0 < nms.length ∧ nms.length ≤ 5 ∧ ws.length ≤ 10 ∧
  ∀ (R : Addr) (rs : List Addr) (rules : List Rule) (H' : Hp), H R = none → Same H H' → H' R = some (.lst (rs.map V.ref)) → Rules K H' rs rules → Small rules → Q (.ref R) H'
theorem scFree : FnScope ["_law_script", "_law_at", "_law_names", "_law_words", "_law_rules_here", "_law_some", "_law_k", "_law_cell"] ["_law_script", "_law_at", "_law_names", "_law_words"] (defScope sFree) := ⟨rfl, rfl, rfl, by decide +kernel, rfl, by decide +kernel, by decide +kernel⟩
theorem ok_free (F : Fun K "_law_free_rules" "_law_free_rules" sFree f fd) (T : Txt mg) (GC : CalleeD P w K mg base 1 "_law_cell_at" ["_law_script", "_law_k"] (spCell K)) (GD : CalleeD P w K mg base 1 "_law_digits" ["_law_cell", "_law_many", "_law_some"] spDigits) : FnOk P w K mg base CX0 2 f fd ["_law_script", "_law_at", "_law_names", "_law_words"] (spFree K) := by
  refine F.ok scFree (fun vs H Q E h => ?_) (fun cdv A outer s H vs Q E hr h => ?_)
  · obtain ⟨S, N, W, ns, at_, nms, ws, rfl, _⟩ := h; rfl
  · obtain ⟨S, N, W, ns, at_, nms, ws, rfl, hS, hn, hN, hW, hn0, hn1, hw1, q⟩ := h
    refine ⟨_, pss_cons (ps_set (i := 4) scFree.nd rfl (Or.inl rfl) (pe_lst pa_nil))
      (pss_cons (ps_set (i := 5) scFree.nd rfl (Or.inl rfl) (pe_op op_cat (pv 2) (pv 3)))
      (pss_cons (ps_for PassesOwn.never rfl (pi_range1 rfl T.rng (pa_cons (pe_op op_add pe_int (pe_op op_mod (pe_op op_fdiv (pe_fn GC hr rfl (pa_cons (pv 0) (pa_cons (pv 1) pa_nil))) pe_int) pe_int)) pa_nil)) (pg_name (i := 6) scFree.nd rfl (Or.inl rfl))
        (pss_cons (ps_set (i := 7) scFree.nd rfl (Or.inl rfl) (pe_fn GC hr rfl (pa_cons (pv 0) (pa_cons (pe_op op_add (pe_op op_add (pv 1) pe_int) (pv 6)) pa_nil))))
        (pss_one (ps_expr (pe_bm PySem.F.plainAttrs_list PySem.F.slot_list_append PySem.F.type_list_append mt_append (pv 4) (pa_cons (pe_tup (pa_cons (pe_ix ix_list (pv 2) (pe_op op_mod (pv 7) (pe_callB call_len_seq rfl T.len PySem.boot_len (pa_cons (pv 2) pa_nil))) (fun _ _ => rfl))
          (pa_cons (pe_fn GD hr rfl (pa_cons (pe_op op_fdiv (pv 7) pe_int) (pa_cons (pe_op op_mod (pe_op op_fdiv (pv 7) pe_int) pe_int) (pa_cons (pv 5) pa_nil)))) pa_nil))) pa_nil))))))
      (pss_one (ps_ret (pv 4))))), ?_⟩
    refine ⟨(by show 0 ≤ sizeLine; decide), fun L hL => ?_⟩
    have s1 := same_laid hL (.lst [])
    have e1 : upd H L (.lst []) L = some (.lst []) := upd_same
    generalize upd H L (.lst []) = H1 at s1 e1
    refine ⟨_, rfl, _, rfl, N, W, _, _, rfl, rfl, s1 _ _ hN, s1 _ _ hW, fits (by rw [List.length_map, List.length_map]; omega), fun M hM => ?_⟩
    rw [← List.map_append]
    have k2 := same_laid hM (.lst ((nms ++ ws).map V.str))
    have s2 := s1.trans k2
    have e2 := k2 _ _ e1
    have m2 : upd H1 M (.lst ((nms ++ ws).map V.str)) M = some (.lst ((nms ++ ws).map V.str)) := upd_same
    have nM : M ≠ L := fun z => by rw [z, e1] at hM; cases hM
    generalize upd H1 M (.lst ((nms ++ ws).map V.str)) = H2 at k2 s2 e2 m2
    refine ⟨_, rfl, _, rfl, S, ns, at_, rfl, s2.seq hS, hn, fun c0 => ?_⟩
    obtain ⟨m, hm⟩ : ∃ m : Nat, 2 + c0 / 3 % 5 = (m : Int) := ⟨(2 + c0 / 3 % 5).toNat, by omega⟩
    have hm2 : 2 ≤ m ∧ m ≤ 6 := by omega
    refine ⟨_, _, rfl, rfl, ⟨by decide, by decide⟩, _, _, rfl, rfl, (by show (0 : Int) < 5; decide), _, _, rfl, rfl, ?_⟩
    refine ⟨(m : Int), (by show [V.int (2 + c0 / 3 % 5)] = _; rw [hm]), by omega, by omega, ?_⟩
    rw [Int.toNat_natCast m]
    refine for_range (n := m) (fun i σ H3 => ∃ (rs : List Addr) (rules : List Rule) (y6 y7 : Option V), σ = [some (.ref S), some (.int (at_ : Int)), some (.ref N), some (.ref W), some (.ref L), some (.ref M), y6, y7] ∧ Same H H3 ∧ H3 L = some (.lst (rs.map V.ref)) ∧ H3 M = some (.lst ((nms ++ ws).map V.str)) ∧ Rules K H3 rs rules ∧ rules.length = i ∧ ∀ ru ∈ rules, ru.2.length ≤ 4 ∧ ru.1 ∈ nms) ⟨[], [], none, none, rfl, s2, e2, m2, .nil, rfl, fun _ h => by cases h⟩ ?_ ?_
    · rintro i σ H3 hi ⟨rs, rules, y6, y7, rfl, s3, eL, eM, rl, hl, hf⟩
      have lr := Paired.length rl
      refine goN ?_
      refine ⟨_, rfl, _, rfl, _, _, rfl, rfl, _, rfl, _, _, rfl, rfl, ?_⟩
      refine ⟨S, ns, at_ + 1 + i, (by show [V.ref S, V.int ((at_ : Int) + 1 + (0 + (i : Int)))] = _; congr 3; push_cast; omega), s3.seq hS, hn, fun c => ?_⟩
      have hni : (0 : Int) < (nms.length : Int) := by omega
      obtain ⟨z, hzm, ez⟩ := atM (zs := nms) rfl hni c
      obtain ⟨d, hd⟩ : ∃ d : Nat, c / 3 % 4 = (d : Int) := ⟨(c / 3 % 4).toNat, by omega⟩
      refine ⟨_, rfl, .inl ⟨rfl, _, SqL.of eL⟩, _, rfl, _, rfl, _, rfl, N, _, rfl, .inl (SqL.of (s3 _ _ hN)), _, _, rfl, rfl, ?_⟩
      rw [List.length_map]
      refine ⟨hni, N, _, _, _, rfl, rfl, SqL.of (s3 _ _ hN), ez, ?_⟩
      refine ⟨_, rfl, _, _, rfl, rfl, ⟨by decide, by decide⟩, _, rfl, _, _, rfl, rfl, ⟨by decide, by decide⟩, _, _, rfl, rfl, (by show (0 : Int) < 4; decide), _, rfl, ?_⟩
      refine ⟨_, d, M, nms ++ ws, (by show [_, V.int (c / 3 % 4), _] = _; rw [hd]), by omega, eM, by rw [List.length_append]; omega, by rw [List.length_append]; omega, fun p ps H4 s4 e4 l4 => ⟨(by show 2 ≤ sizeLine; decide), fun R hR => ?_⟩⟩
      have k5 := s4.trans (same_laid hR (.tup [.str z, .ref p]))
      have v1 : SqT K (upd H4 R (.tup [.str z, .ref p])) R [.str z, .ref p] := SqT.of upd_same
      have v2 : SqT K (upd H4 R (.tup [.str z, .ref p])) p (ps.map V.str) := (same_laid hR _).tup (SqT.of e4)
      generalize upd H4 R (.tup [.str z, .ref p]) = H5 at k5 v1 v2
      have eL5 := k5 _ _ eL
      refine ⟨L, _, _, rfl, rfl, eL5, fits' (by rw [List.length_map]; omega), ?_⟩
      refine ⟨rs ++ [R], rules ++ [(z, ps)], _, _, rfl, fun b o hb => ?_, by rw [upd_same, List.map_append]; rfl, by rw [upd_ne nM]; exact k5 _ _ eM, Paired.snoc (rl.keep fun b xs z => sqt_upd eL5 (k5.tup z)) ⟨p, sqt_upd eL5 v1, sqt_upd eL5 v2⟩, by rw [List.length_append, hl]; rfl, fun ru hru => ?_⟩
      · rw [upd_ne (fun z => by rw [z, hL] at hb; cases hb)]; exact k5 _ _ (s3 b o hb)
      · rcases List.mem_append.mp hru with h | h
        · exact hf ru h
        · rw [List.mem_singleton.mp h]
          exact ⟨by show ps.length ≤ 4; omega, hzm⟩
    · rintro σ H3 ⟨rs, rules, y6, y7, rfl, s3, eL, eM, rl, hl, hf⟩
      exact ⟨_, rfl, q L rs rules H3 hL s3 eL rl ⟨by omega, by omega, fun ru h => (hf ru h).1, nms, hn1, fun ru h => (hf ru h).2⟩⟩
end
end K11
namespace L2
open PySem
theorem op_notIn_seqK {X : Cx} (K : PySem.W.Frag) (hK : X.K = K := by rfl) : OpR X (compareOp .NotIn) (rIn K true) := by
  subst hK
  exact op_notIn_seq
theorem inV_str (h : Str) (zs : List Str) : inV (.str h) (zs.map V.str) = decide (h ∈ zs) := by
  have : inV (.str h) (zs.map V.str) = true ↔ h ∈ zs := by
    unfold inV
    rw [List.any_eq_true]
    constructor
    · rintro ⟨x, h1, h2⟩
      obtain ⟨z, hz, rfl⟩ := List.mem_map.mp h1
      have : z = h := by simpa [eqV] using h2
      rw [← this]; exact hz
    · intro hm
      exact ⟨.str h, List.mem_map.mpr ⟨h, hm, rfl⟩, by simp [eqV]⟩
  by_cases c : h ∈ zs
  · rw [decide_eq_true c]; exact this.mpr c
  · rw [decide_eq_false c]
    cases e : inV (.str h) (zs.map V.str) with
    | false => rfl
    | true => exact absurd (this.mp e) c
theorem flat_strs (zs : List Str) : (zs.map V.str).all flatV = true := by
  rw [List.all_eq_true]
  intro x hx
  obtain ⟨z, _, rfl⟩ := List.mem_map.mp hx
  rfl
section
variable {K : PySem.W.Frag} {H : Hp} {p D : Addr} {zs : List Str} {σ : St} {x : Str} {js : List (Nat × Str)} {te : TE} {Qp : Hp → Prop}
theorem comp_boolsT (rest : St) (pr : Str → Bool) (hc : capS [x] js σ = none :: rest) (hp : SqT K H p (zs.map V.str)) (hz : zs.length ≤ 1000) (hD : H D = none)
    (hte : ∀ z ∈ zs, ∀ (H' : Hp) (Qy : VK), Same H H' → Qy (.bl (pr z)) H' → te (some (.str z) :: rest) H' Qy)
    (q : ∀ H2, Same H H2 → H2 D = some (.lst ((zs.map pr).map V.bl)) → Qp H2) :
    ∃ W : Nat → Nat → List V → St → Hp → Prop, (∃ m, W 0 m [] (capS [x] js σ) (upd H D (.lst []))) ∧
  ∀ i m ys σ' H, W i m ys σ' H → ((Itt K p).stop i H ∧ Qp H) ∨ ((Itt K p).go i H ∧ ∃ m', m' < m ∧ ∀ x H', (Itt K p).yld i H x H' → gName 0 x σ' H' fun σ2 H2 => tTrue σ2 H2 fun b H3 =>
    if b = true then te σ2 H3 fun y H4 => H4 D = some (.lst ys) ∧ ys.length < sizeLine ∧ W (i + 1) m' (ys ++ [y]) σ2 (upd H4 D (.lst (ys ++ [y]))) else W (i + 1) m' ys σ2 H3) := by
  refine compG_tup (xs := zs.map V.str) (fun i ys σ2 H2 => ys = ((zs.take i).map pr).map V.bl ∧ (∃ y0, σ2 = y0 :: rest) ∧ Same H H2 ∧ H2 D = some (.lst ys))
    ⟨rfl, ⟨none, hc⟩, same_laid hD _, upd_same⟩ (fun i ys σ2 H2 _ h => ?_) (fun i v ys σ2 H2 ex h => ?_) (fun ys σ2 H2 h => ?_)
  · obtain ⟨_, _, sm, _⟩ := h
    exact sm.tup hp
  · obtain ⟨rfl, ⟨y0, rfl⟩, sm, hd⟩ := h
    rw [List.getElem?_map] at ex
    obtain ⟨z, ez, rfl⟩ := Option.map_eq_some_iff.mp ex
    have li := (List.getElem?_eq_some_iff.mp ez).1
    refine goN (goT (hte z (List.mem_of_getElem? ez) _ _ sm ⟨hd, fits' (by rw [List.length_map, List.length_map, List.length_take]; omega), ?_, ⟨_, rfl⟩, fun b o hb => ?_, upd_same⟩))
    · rw [List.take_add_one, ez, List.map_append, List.map_append]; rfl
    · rw [upd_ne (fun z => by rw [z, hD] at hb; cases hb)]
      exact sm b o hb
  · obtain ⟨rfl, _, sm, hd⟩ := h
    rw [List.length_map, List.take_length] at hd
    exact q H2 sm hd
theorem comp_boolsL (rest : St) (pr : Str → Bool) (hc : capS [x] js σ = none :: rest) (hp : SqL K H p (zs.map V.str)) (hz : zs.length ≤ 1000) (hD : H D = none)
    (hte : ∀ z ∈ zs, ∀ (H' : Hp) (Qy : VK), Same H H' → Qy (.bl (pr z)) H' → te (some (.str z) :: rest) H' Qy)
    (q : ∀ H2, Same H H2 → H2 D = some (.lst ((zs.map pr).map V.bl)) → Qp H2) :
    ∃ W : Nat → Nat → List V → St → Hp → Prop, (∃ m, W 0 m [] (capS [x] js σ) (upd H D (.lst []))) ∧
  ∀ i m ys σ' H, W i m ys σ' H → ((Itl K p).stop i H ∧ Qp H) ∨ ((Itl K p).go i H ∧ ∃ m', m' < m ∧ ∀ x H', (Itl K p).yld i H x H' → gName 0 x σ' H' fun σ2 H2 => tTrue σ2 H2 fun b H3 =>
    if b = true then te σ2 H3 fun y H4 => H4 D = some (.lst ys) ∧ ys.length < sizeLine ∧ W (i + 1) m' (ys ++ [y]) σ2 (upd H4 D (.lst (ys ++ [y]))) else W (i + 1) m' ys σ2 H3) := by
  refine compG_list (xs := zs.map V.str) (fun i ys σ2 H2 => ys = ((zs.take i).map pr).map V.bl ∧ (∃ y0, σ2 = y0 :: rest) ∧ Same H H2 ∧ H2 D = some (.lst ys))
    ⟨rfl, ⟨none, hc⟩, same_laid hD _, upd_same⟩ (fun i ys σ2 H2 _ h => ?_) (fun i v ys σ2 H2 ex h => ?_) (fun ys σ2 H2 h => ?_)
  · obtain ⟨_, _, sm, _⟩ := h
    exact sm.seq hp
  · obtain ⟨rfl, ⟨y0, rfl⟩, sm, hd⟩ := h
    rw [List.getElem?_map] at ex
    obtain ⟨z, ez, rfl⟩ := Option.map_eq_some_iff.mp ex
    have li := (List.getElem?_eq_some_iff.mp ez).1
    refine goN (goT (hte z (List.mem_of_getElem? ez) _ _ sm ⟨hd, fits' (by rw [List.length_map, List.length_map, List.length_take]; omega), ?_, ⟨_, rfl⟩, fun b o hb => ?_, upd_same⟩))
    · rw [List.take_add_one, ez, List.map_append, List.map_append]; rfl
    · rw [upd_ne (fun z => by rw [z, hD] at hb; cases hb)]
      exact sm b o hb
  · obtain ⟨rfl, _, sm, hd⟩ := h
    rw [List.length_map, List.take_length] at hd
    exact q H2 sm hd
end
theorem all_map (zs : List Str) (pr : Str → Bool) : (zs.map pr).all id = zs.all pr := by
  rw [List.all_map]; rfl
end L2
namespace M11
open PySem
def stepE (words : Bool) (heads e : List Str) (ru : Rule) : List Str := if ((ru.2.all fun p => decide (p ∈ e) || (words && !decide (p ∈ heads))) && !decide (ru.1 ∈ e)) = true then e ++ [ru.1] else e
def passE (words : Bool) (heads e : List Str) (rules : List Rule) : List Str := rules.foldl (stepE words heads) e
def passes {α : Type} (f : α → α) : Nat → α → α
  | 0, a => a
  | n + 1, a => f (passes f n a)
def endedM (words : Bool) (rules : List Rule) : List Str := passes (fun e => passE words (rules.map (·.1)) e rules) rules.length []
end M11
namespace K11
open PySem L2 M11
section
variable {P : Program} {w : World} {K : PySem.W.Frag} {mg : Str → Option Value} {base : Heap} {f : Addr} {fd : FuncData}
theorem comp_heads {H : Hp} {R D : Addr} {rs : List Addr} {rules : List Rule} {σ : St} {Qp : Hp → Prop} (hR : SqL K H R (rs.map V.ref)) (hrl : Rules K H rs rules) (hlen : rules.length ≤ 1000) (hD : H D = none)
    (q : ∀ H2, Same H H2 → H2 D = some (.lst ((hd rules).map V.str)) → Qp H2) :
    ∃ W : Nat → Nat → List V → St → Hp → Prop, (∃ m, W 0 m [] (capS ["_law_head", "_law_parts"] [] σ) (upd H D (.lst []))) ∧
  ∀ i m ys σ' H, W i m ys σ' H → ((Itl K R).stop i H ∧ Qp H) ∨ ((Itl K R).go i H ∧ ∃ m', m' < m ∧ ∀ x H', (Itl K R).yld i H x H' → gTup K 2 (gCons (gName 0) (gCons (gName 1) gNil)) x σ' H' fun σ2 H2 => tTrue σ2 H2 fun b H3 =>
    if b = true then tVar 0 σ2 H3 fun y H4 => H4 D = some (.lst ys) ∧ ys.length < sizeLine ∧ W (i + 1) m' (ys ++ [y]) σ2 (upd H4 D (.lst (ys ++ [y]))) else W (i + 1) m' ys σ2 H3) := by
  have ll := Paired.length hrl
  refine compG_list (xs := rs.map V.ref) (fun i ys σ2 H2 => ys = ((hd rules).take i).map V.str ∧ (∃ y0 y1, σ2 = [y0, y1]) ∧ Same H H2 ∧ H2 D = some (.lst ys))
    ⟨rfl, ⟨none, none, rfl⟩, same_laid hD _, upd_same⟩ (fun i ys σ2 H2 _ h => ?_) (fun i x ys σ2 H2 ex h => ?_) (fun ys σ2 H2 h => ?_)
  · obtain ⟨_, _, sm, _⟩ := h
    exact sm.seq hR
  · obtain ⟨rfl, ⟨y0, y1, rfl⟩, sm, hd1⟩ := h
    rw [List.getElem?_map] at ex
    obtain ⟨r, er, rfl⟩ := Option.map_eq_some_iff.mp ex
    obtain ⟨ru, e1, p, v1, v2⟩ := hrl.get er
    have li := (List.getElem?_eq_some_iff.mp e1).1
    refine ⟨r, _, rfl, sm.tup v1, rfl, _, _, rfl, _, _, rfl, rfl, ?_⟩
    refine goT ?_
    refine ⟨_, rfl, hd1, fits' (by rw [List.length_map, List.length_take]; omega), ?_, ⟨_, _, rfl⟩, fun b o hb => ?_, upd_same⟩
    · have : (hd rules)[i]? = some ru.1 := by unfold hd; rw [List.getElem?_map, e1]; rfl
      rw [List.take_add_one, this, List.map_append]; rfl
    · rw [upd_ne (fun z => by rw [z, hD] at hb; cases hb)]
      exact sm b o hb
  · obtain ⟨rfl, _, sm, hd1⟩ := h
    rw [List.length_map, ll, List.take_of_length_le (by unfold hd; rw [List.length_map]; exact Nat.le_refl _)] at hd1
    exact q H2 sm hd1
def spEnded (K : PySem.W.Frag) : Sp := fun vs H Q _ => ∃ (R : Addr) (rs : List Addr) (rules : List Rule) (b : Bool), vs = [.ref R, .bl b] ∧ SqL K H R (rs.map V.ref) ∧ Rules K H rs rules ∧ Small rules ∧
  ∀ (D : Addr) (H' : Hp), H D = none → Same H H' → H' D = some (.lst ((endedM b rules).map V.str)) → (endedM b rules).length ≤ 64 → Q (.ref D) H'
abbrev NE : List Str := ["_law_rules_here", "_law_words", "_law_head", "_law_parts", "_law_heads", "_law_ended_here", "_law_again", "_law_good_here"]
theorem scEnded : FnScope NE ["_law_rules_here", "_law_words"] (defScope sEnded) := ⟨rfl, rfl, rfl, by decide +kernel, rfl, by decide +kernel, by decide +kernel⟩
theorem ok_ended (F : Fun K "_law_ended" "_law_ended" sEnded f fd) (T : Txt mg) : FnOk P w K mg base CX0 1 f fd ["_law_rules_here", "_law_words"] (spEnded K) := by
  refine F.ok scEnded (fun vs H Q E h => ?_) (fun cdv A outer s H vs Q E hr h => ?_)
  · obtain ⟨R, rs, rules, b, rfl, _⟩ := h; rfl
  · obtain ⟨R, rs, rules, b, rfl, hR, hrl, hsm, q⟩ := h
    have hsm1 := hsm.one
    have hsm2 := hsm.most
    refine ⟨_, pss_cons (ps_set (i := 4) scEnded.nd rfl (Or.inr rfl) (pe_compG ["_law_head", "_law_parts"] [] rfl (pi_list (pv 0)) (caps_of rfl rfl) (by decide +kernel) rfl (by decide +kernel)
        (fun _ _ _ _ _ => pg_tupK (n := 2) K rfl (pgs_cons (pg_name (i := 0) (show (["_law_head", "_law_parts"] : List Str).Nodup by decide +kernel) rfl (Or.inl rfl)) (pgs_cons (pg_name (i := 1) (show (["_law_head", "_law_parts"] : List Str).Nodup by decide +kernel) rfl (Or.inl rfl)) pgs_nil))) (fun _ _ _ _ _ => pif_nil)
        (fun _ _ _ _ _ => pv 0)))
      (pss_cons (ps_set (i := 5) scEnded.nd rfl (Or.inr rfl) (pe_lst pa_nil))
      (pss_cons (ps_for PassesOwn.never rfl (pi_list (pv 0)) (pg_name (i := 6) scEnded.nd rfl (Or.inl rfl))
        (pss_one (ps_for PassesOwn.never rfl (pi_list (pv 0)) (pg_tupK (n := 2) K rfl (pgs_cons (pg_name (i := 2) scEnded.nd rfl (Or.inl rfl)) (pgs_cons (pg_name (i := 3) scEnded.nd rfl (Or.inl rfl)) pgs_nil)))
          (pss_cons (ps_set (i := 7) scEnded.nd rfl (Or.inl rfl) (pe_callB (call_allB rfl) rfl T.all boot_all (pa_cons
              (pe_compG ["_law_part_here"] [(5, "_law_ended_here"), (4, "_law_heads"), (1, "_law_words")] rfl (pi_tup (pv 3)) (caps_of rfl rfl) (by decide +kernel) rfl (by decide +kernel)
                (fun _ _ _ _ _ => pg_name (i := 0) (show (["_law_part_here", "_law_ended_here", "_law_heads", "_law_words"] : List Str).Nodup by decide +kernel) rfl (Or.inl rfl)) (fun _ _ _ _ _ => pif_nil)
                (fun _ _ _ _ _ => pe_or (pe_cmpR (op_in_seqK K) (pv 0) (pv 1) rfl) (pe_one (pe_and (pv 3) (pe_one (pe_cmpR (op_notIn_seqK K) (pv 0) (pv 2) rfl)))))) pa_nil)))
          (pss_one (ps_if (PW.pt (pw_and (pt_val (pv 7)) (pw_and1 (pt_cmpR op_notIn_seq (pv 2) (pv 5) rfl))))
            (pss_one (ps_expr (pe_bm PySem.F.plainAttrs_list PySem.F.slot_list_append PySem.F.type_list_append mt_append (pv 5) (pa_cons (pv 2) pa_nil)))) pss_nil))))))
      (pss_one (ps_ret (pv 5))))), ?_⟩
    refine ⟨_, rfl, R, rfl, ⟨_, hR⟩, fun D hD => comp_heads hR hrl (by omega) hD fun H1 s1 eD => ?_⟩
    refine goN ?_
    refine ⟨(by show 0 ≤ sizeLine; decide), fun L hL => ?_⟩
    have s2 := s1.trans (same_laid hL (.lst []))
    have eD2 := same_laid hL (.lst []) _ _ eD
    have nL : L ≠ D := fun z => by rw [z, eD] at hL; cases hL
    have fL : H L = none := s1.free hL
    have e2 : upd H1 L (.lst []) L = some (.lst []) := upd_same
    generalize upd H1 L (.lst []) = H2 at s2 eD2 e2
    refine goN ?_
    have ll := Paired.length hrl
    refine ⟨_, rfl, R, rfl, ⟨_, s2.seq hR⟩, for_list (xs := rs.map V.ref) (fun i σ H3 => ∃ (es : List Str) (y2 y3 y6 y7 : Option V), σ = [some (.ref R), some (.bl b), y2, y3, some (.ref D), some (.ref L), y6, y7] ∧ Same H H3 ∧ H3 D = some (.lst ((hd rules).map V.str)) ∧ H3 L = some (.lst (es.map V.str)) ∧ es = passes (fun e => passE b (hd rules) e rules) i [] ∧ es.length ≤ 8 * i) ⟨[], _, _, _, _, rfl, s2, eD2, e2, rfl, by simp⟩ ?_ ?_ ?_⟩
    · rintro i σ H3 _ ⟨es, y2, y3, y6, y7, rfl, s3, _⟩
      exact s3.seq hR
    · rintro i x σ H3 ex ⟨es, y2, y3, y6, y7, rfl, s3, eD3, eL3, he, hel⟩
      have li := (List.getElem?_eq_some_iff.mp ex).1
      rw [List.length_map] at li
      refine goN ?_
      refine ⟨_, rfl, R, rfl, ⟨_, s3.seq hR⟩, for_list (xs := rs.map V.ref) (fun j σ H4 => ∃ (es' : List Str) (y2 y3 y7 : Option V), σ = [some (.ref R), some (.bl b), y2, y3, some (.ref D), some (.ref L), some x, y7] ∧ Same H H4 ∧ H4 D = some (.lst ((hd rules).map V.str)) ∧ H4 L = some (.lst (es'.map V.str)) ∧ es' = passE b (hd rules) es (rules.take j) ∧ es'.length ≤ 8 * i + j) ⟨es, _, _, _, rfl, s3, eD3, eL3, rfl, by omega⟩ ?_ ?_ ?_⟩
      · rintro j σ H4 _ ⟨es', y2, y3, y7, rfl, s4, _⟩
        exact s4.seq hR
      · rintro j x2 σ H4 ex2 ⟨es', y2, y3, y7, rfl, s4, eD4, eL4, he', hel'⟩
        have lj := (List.getElem?_eq_some_iff.mp ex2).1
        rw [List.length_map] at lj
        rw [List.getElem?_map] at ex2
        obtain ⟨r, er, rfl⟩ := Option.map_eq_some_iff.mp ex2
        obtain ⟨ru, e1, p, v1, v2⟩ := hrl.get er
        have hru := hsm.few ru (List.mem_of_getElem? e1)
        refine ⟨r, _, rfl, s4.tup v1, rfl, _, _, rfl, _, _, rfl, rfl, ?_⟩
        refine ⟨_, rfl, p, rfl, ⟨_, s4.tup v2⟩, fun D2 hD2 => comp_boolsT (zs := ru.2) [some (.ref L), some (.ref D), some (.bl b)] (fun z => decide (z ∈ es') || (b && !decide (z ∈ hd rules))) rfl (s4.tup v2) (by omega) hD2 (fun z _ H5 Qy s5 hq => ?_) fun H5 s5 eD5 => ?_⟩
        · refine ⟨_, rfl, _, rfl, L, _, rfl, .inl (SqL.of (s5 _ _ eL4)), rfl, flat_strs _, ?_⟩
          refine ⟨_, rfl, ?_⟩
          rw [inV_str]
          show if decide (z ∈ es') = true then _ else _
          refine ite2 (fun c => ?_) (fun c => ?_)
          · rw [c] at hq; exact hq
          · have c' : decide (z ∈ es') = false := by simpa using c
            rw [c', Bool.false_or] at hq
            refine ⟨_, rfl, b, rfl, ?_⟩
            refine ite2 (fun cb => ?_) (fun cb => ?_)
            · rw [cb, Bool.true_and] at hq
              refine ⟨_, rfl, _, rfl, D, _, rfl, .inl (SqL.of (s5 _ _ eD4)), rfl, flat_strs _, ?_⟩
              rw [inV_str]
              exact hq
            · have cb' : b = false := by simpa using cb
              rw [cb', Bool.false_and] at hq
              exact hq
        · refine ⟨D2, _, rfl, SqL.of eD5, ?_⟩
          rw [all_map]
          refine goN ?_
          have s45 := s4.trans s5
          have eL5 := s5 _ _ eL4
          have pe : passE b (hd rules) es (rules.take (j + 1)) = stepE b (hd rules) es' ru := by
            rw [he', List.take_add_one, e1]
            unfold passE
            rw [List.foldl_append]
            rfl
          refine ⟨_, rfl, _, rfl, ?_⟩
          refine ite2 (fun c => ?_) (fun c => ?_)
          · refine ⟨_, rfl, _, rfl, L, _, rfl, .inl (SqL.of eL5), rfl, flat_strs _, _, rfl, ?_⟩
            rw [inV_str]
            show if (!decide (ru.1 ∈ es')) = true then _ else _
            refine ite2 (fun c2 => ?_) (fun c2 => ?_)
            · refine ⟨_, rfl, .inl ⟨rfl, _, SqL.of eL5⟩, _, rfl, L, _, _, rfl, rfl, eL5, fits' (by rw [List.length_map]; omega), ?_⟩
              refine ⟨es' ++ [ru.1], _, _, _, rfl, fun b o hb => ?_, by rw [upd_ne (Ne.symm nL)]; exact s5 _ _ eD4, by rw [upd_same, List.map_append]; rfl, ?_, by rw [List.length_append]; simp; omega⟩
              · rw [upd_ne (fun z => by rw [z, fL] at hb; cases hb)]; exact s45 b o hb
              · rw [pe]
                unfold stepE
                rw [c, Bool.true_and, if_pos c2]
            · refine ⟨es', _, _, _, rfl, s45, s5 _ _ eD4, eL5, ?_, by omega⟩
              rw [pe]
              unfold stepE
              rw [c, Bool.true_and, if_neg c2]
          · refine ⟨es', _, _, _, rfl, s45, s5 _ _ eD4, eL5, ?_, by omega⟩
            rw [pe]
            unfold stepE
            rw [if_neg (fun z => c (Bool.and_eq_true_iff.mp z).1)]
      · rintro σ H4 ⟨es', y2, y3, y7, rfl, s4, eD4, eL4, he', hel'⟩
        rw [List.length_map, ll] at hel'
        rw [List.length_map, ll, List.take_length] at he'
        exact ⟨es', _, _, _, _, rfl, s4, eD4, eL4, by rw [he', he]; rfl, by omega⟩
    · rintro σ H3 ⟨es, y2, y3, y6, y7, rfl, s3, eD3, eL3, he, hel⟩
      rw [List.length_map, ll] at he hel
      refine ⟨_, rfl, ?_⟩
      have e : endedM b rules = es := he.symm
      exact q L H3 fL s3 (by rw [e]; exact eL3) (by rw [e]; omega)
end
end K11
namespace M11
open PySem
def kys (b : List (Str × Nat)) : List Str := b.map (·.1)
def condR (heads : List Str) (b : List (Str × Nat)) (ru : Rule) : Bool := ru.2.all fun p => decide (p ∈ kys b) || !decide (p ∈ heads)
def Ranked (rules : List Rule) (heads : List Str) (b : List (Str × Nat)) : Prop := ∀ i z k, b[i]? = some (z, k) → ∃ parts, rules[k]? = some (z, parts) ∧ ∀ p ∈ parts, p ∈ kys (b.take i) ∨ p ∉ heads
theorem Ranked.snoc {rules : List Rule} {heads : List Str} {b : List (Str × Nat)} {k : Nat} {ru : Rule} (h : Ranked rules heads b) (e : rules[k]? = some ru) (c : condR heads b ru = true) : Ranked rules heads (b ++ [(ru.1, k)]) := by
  intro i z k' hi
  by_cases l : i < b.length
  · rw [List.getElem?_append_left l] at hi
    obtain ⟨parts, e1, e2⟩ := h i z k' hi
    refine ⟨parts, e1, fun p hp => ?_⟩
    rw [List.take_append_of_le_length (by omega)]
    exact e2 p hp
  · have li := (List.getElem?_eq_some_iff.mp hi).1
    rw [List.length_append, List.length_singleton] at li
    have : i = b.length := by omega
    subst this
    rw [List.getElem?_append_right (Nat.le_refl _), Nat.sub_self] at hi
    cases hi
    refine ⟨ru.2, e, fun p hp => ?_⟩
    rw [List.take_append_of_le_length (Nat.le_refl _), List.take_length]
    have := List.all_eq_true.mp c p hp
    simp only [Bool.or_eq_true, decide_eq_true_eq, Bool.not_eq_true', decide_eq_false_iff_not] at this
    exact this
theorem stepE_cond {heads : List Str} {b : List (Str × Nat)} {ru : Rule} : stepE true heads (kys b) ru = if (condR heads b ru && !decide (ru.1 ∈ kys b)) = true then kys b ++ [ru.1] else kys b := by
  unfold stepE condR
  simp only [Bool.true_and]
end M11
namespace K11
open PySem L2 M11
theorem nd_last {l : List Str} {x : Str} (h : l.Nodup) (n : x ∉ l) : (l ++ [x]).Nodup := List.nodup_append.mpr ⟨h, by simp, fun a ha b hb e => n (by rw [← List.mem_singleton.mp hb, ← e]; exact ha)⟩
theorem pigeon : ∀ (l m : List Str), l.Nodup → (∀ z ∈ l, z ∈ m) → l.length ≤ m.length
  | [], m, _, _ => Nat.zero_le _
  | x :: r, m, hn, hs => by
    have hx := hs x List.mem_cons_self
    have hn2 := List.nodup_cons.mp hn
    have := pigeon r (m.erase x) hn2.2 fun z hz => (List.mem_erase_of_ne (fun e => hn2.1 (by rw [← e]; exact hz))).mpr (hs z (List.mem_cons_of_mem _ hz))
    rw [List.length_erase_of_mem hx] at this
    have : 0 < m.length := List.length_pos_of_mem hx
    rw [List.length_cons]
    omega
def bk (b : List (Str × Nat)) : List (Key × V) := b.map fun p => ((Sum.inr p.1 : Key), V.int (p.2 : Int))
theorem bk_keys (b : List (Str × Nat)) : (bk b).map (·.1) = (kys b).map Sum.inr := by
  unfold bk kys
  rw [List.map_map, List.map_map]
  rfl
theorem bk_some (b : List (Str × Nat)) (z : Str) : (valV (bk b) (Sum.inr z)).isSome = decide (z ∈ kys b) := by
  by_cases c : z ∈ kys b
  · rw [decide_eq_true c, val_mem, bk_keys]
    exact inr_mem.mpr c
  · rw [decide_eq_false c]
    cases e : (valV (bk b) (Sum.inr z)).isSome with
    | false => rfl
    | true =>
      rw [val_mem, bk_keys] at e
      exact absurd (inr_mem.mp e) c
theorem bk_put {b : List (Str × Nat)} {z : Str} {k : Nat} (h : z ∉ kys b) : putK (bk b) (Sum.inr z) (.int (k : Int)) = bk (b ++ [(z, k)]) := by
  rw [putK_new]
  · unfold bk
    rw [List.map_append]
    rfl
  · have := bk_some b z
    rw [decide_eq_false h] at this
    cases e : valV (bk b) (Sum.inr z) with
    | none => rfl
    | some _ => rw [e] at this; cases this
section
variable {P : Program} {w : World} {K : PySem.W.Frag} {mg : Str → Option Value} {base : Heap} {f : Addr} {fd : FuncData}
def spRanks (K : PySem.W.Frag) : Sp := fun vs H Q _ => ∃ (R : Addr) (rs : List Addr) (rules : List Rule), vs = [.ref R] ∧ SqL K H R (rs.map V.ref) ∧ Rules K H rs rules ∧ Small rules ∧
  ∀ (D : Addr) (b : List (Str × Nat)) (H' : Hp), H D = none → Same H H' → H' D = some (.dK (bk b)) → Ranked rules (hd rules) b → kys b = endedM true rules → b.length ≤ 5 → Q (.ref D) H'
abbrev NR : List Str := ["_law_rules_here", "_law_head", "_law_parts", "_law_heads", "_law_best", "_law_again", "_law_number", "_law_known"]
theorem scRanks : FnScope NR ["_law_rules_here"] (defScope sRanks) := ⟨rfl, rfl, rfl, by decide +kernel, rfl, by decide +kernel, by decide +kernel⟩
theorem ok_ranks (F : Fun K "_law_ranks" "_law_ranks" sRanks f fd) (T : Txt mg) : FnOk P w K mg base CX0 1 f fd ["_law_rules_here"] (spRanks K) := by
  refine F.ok scRanks (fun vs H Q E h => ?_) (fun cdv A outer s H vs Q E hr h => ?_)
  · obtain ⟨R, rs, rules, rfl, _⟩ := h; rfl
  · obtain ⟨R, rs, rules, rfl, hR, hrl, hsm, q⟩ := h
    have hsm1 := hsm.one
    have hsm2 := hsm.most
    have hu := hu_of hr
    refine ⟨_, pss_cons (ps_set (i := 3) scRanks.nd rfl (Or.inr rfl) (pe_compG ["_law_head", "_law_parts"] [] rfl (pi_list (pv 0)) (caps_of rfl rfl) (by decide +kernel) rfl (by decide +kernel)
        (fun _ _ _ _ _ => pg_tupK (n := 2) K rfl (pgs_cons (pg_name (i := 0) (show (["_law_head", "_law_parts"] : List Str).Nodup by decide +kernel) rfl (Or.inl rfl)) (pgs_cons (pg_name (i := 1) (show (["_law_head", "_law_parts"] : List Str).Nodup by decide +kernel) rfl (Or.inl rfl)) pgs_nil))) (fun _ _ _ _ _ => pif_nil)
        (fun _ _ _ _ _ => pv 0)))
      (pss_cons (ps_set (i := 4) scRanks.nd rfl (Or.inr rfl) pe_dnewK)
      (pss_cons (ps_for PassesOwn.never rfl (pi_list (pv 0)) (pg_name (i := 5) scRanks.nd rfl (Or.inl rfl))
        (pss_one (ps_for PassesOwn.never rfl (pi_range1 rfl T.rng (pa_cons (pe_callB call_len_seq rfl T.len PySem.boot_len (pa_cons (pv 0) pa_nil)) pa_nil)) (pg_name (i := 6) scRanks.nd rfl (Or.inl rfl))
          (pss_cons (ps_asg (pe_ix ix_list (pv 0) (pv 6) (fun _ _ => rfl)) (pg_tupK (n := 2) K rfl (pgs_cons (pg_name (i := 1) scRanks.nd rfl (Or.inl rfl)) (pgs_cons (pg_name (i := 2) scRanks.nd rfl (Or.inl rfl)) pgs_nil))))
          (pss_cons (ps_set (i := 7) scRanks.nd rfl (Or.inl rfl) (pe_callB (call_allB rfl) rfl T.all boot_all (pa_cons
              (pe_compG ["_law_part_here"] [(4, "_law_best"), (3, "_law_heads")] rfl (pi_tup (pv 2)) (caps_of rfl rfl) (by decide +kernel) rfl (by decide +kernel)
                (fun _ _ _ _ _ => pg_name (i := 0) (show (["_law_part_here", "_law_best", "_law_heads"] : List Str).Nodup by decide +kernel) rfl (Or.inl rfl)) (fun _ _ _ _ _ => pif_nil)
                (fun _ _ _ _ _ => pe_or (pe_cmp (pc_din hu (pv 0) (pv 1))) (pe_one (pe_cmpR (op_notIn_seqK K) (pv 0) (pv 2) rfl)))) pa_nil)))
          (pss_one (ps_if (PW.pt (pw_and (pt_cmp (pc_dnotin hu (pv 1) (pv 4))) (pw_and1 (pt_val (pv 7)))))
            (pss_one (ps_dput hu (pv 4) (pv 1) (pv 6) rfl)) pss_nil)))))))
      (pss_one (ps_ret (pv 4))))), ?_⟩
    refine ⟨_, rfl, R, rfl, ⟨_, hR⟩, fun D hD => comp_heads hR hrl (by omega) hD fun H1 s1 eD => ?_⟩
    refine goN ?_
    intro L hL
    have s2 := s1.trans (same_laid hL (.dK []))
    have eD2 := same_laid hL (.dK []) _ _ eD
    have nL : L ≠ D := fun z => by rw [z, eD] at hL; cases hL
    have fL : H L = none := s1.free hL
    have e2 : upd H1 L (.dK []) L = some (.dK (bk [])) := upd_same
    generalize upd H1 L (.dK []) = H2 at s2 eD2 e2
    refine goN ?_
    have ll := Paired.length hrl
    refine ⟨_, rfl, R, rfl, ⟨_, s2.seq hR⟩, for_list (xs := rs.map V.ref) (fun i σ H3 => ∃ (b : List (Str × Nat)) (y1 y2 y5 y6 y7 : Option V), σ = [some (.ref R), y1, y2, some (.ref D), some (.ref L), y5, y6, y7] ∧ Same H H3 ∧ H3 D = some (.lst ((hd rules).map V.str)) ∧ H3 L = some (.dK (bk b)) ∧ kys b = passes (fun e => passE true (hd rules) e rules) i [] ∧ Ranked rules (hd rules) b ∧ b.length ≤ 8 * i ∧ (kys b).Nodup) ⟨[], _, _, _, _, _, rfl, s2, eD2, e2, rfl, (show Ranked rules (hd rules) [] from fun i z k h => by simp at h), by simp, List.nodup_nil⟩ ?_ ?_ ?_⟩
    · rintro i σ H3 _ ⟨es, y1, y2, y5, y6, y7, rfl, s3, _⟩
      exact s3.seq hR
    · rintro i x σ H3 ex ⟨b, y1, y2, y5, y6, y7, rfl, s3, eD3, eL3, he, hrk, hel, hnd⟩
      have li := (List.getElem?_eq_some_iff.mp ex).1
      rw [List.length_map] at li
      refine goN ?_
      refine ⟨_, rfl, R, _, rfl, .inl (s3.seq hR), _, rfl, by rw [List.length_map]; omega, by rw [List.length_map]; omega, ?_⟩
      rw [List.length_map, Int.toNat_natCast]
      refine for_range (n := rs.length) (fun j σ H4 => ∃ (b' : List (Str × Nat)) (y1 y2 y6 y7 : Option V), σ = [some (.ref R), y1, y2, some (.ref D), some (.ref L), some x, y6, y7] ∧ Same H H4 ∧ H4 D = some (.lst ((hd rules).map V.str)) ∧ H4 L = some (.dK (bk b')) ∧ kys b' = passE true (hd rules) (kys b) (rules.take j) ∧ Ranked rules (hd rules) b' ∧ b'.length ≤ 8 * i + j ∧ (kys b').Nodup) ⟨b, _, _, _, _, rfl, s3, eD3, eL3, rfl, hrk, by omega, hnd⟩ ?_ ?_
      · rintro j σ H4 hj ⟨b', y1, y2, y6, y7, rfl, s4, eD4, eL4, he', hrk', hel', hnd'⟩
        obtain ⟨ru, e1⟩ : ∃ ru, rules[j]? = some ru := ⟨rules[j]'(by omega), List.getElem?_eq_getElem (by omega)⟩
        obtain ⟨r, er, p, v1, v2⟩ := Paired.at_ hrl j ru e1
        have hru := hsm.few ru (List.mem_of_getElem? e1)
        have atj : atI (rs.map V.ref) (0 + (j : Int)) = some (.ref r) := by
          rw [Int.zero_add]
          exact atI_nat (by rw [List.getElem?_map, er]; rfl)
        refine goN ?_
        refine ⟨_, rfl, _, rfl, R, _, _, _, rfl, rfl, s4.seq hR, atj, ?_⟩
        refine ⟨r, _, rfl, s4.tup v1, rfl, _, _, rfl, _, _, rfl, rfl, ?_⟩
        refine ⟨_, rfl, p, rfl, ⟨_, s4.tup v2⟩, fun D2 hD2 => comp_boolsT (zs := ru.2) [some (.ref L), some (.ref D)] (fun z => decide (z ∈ kys b') || !decide (z ∈ hd rules)) rfl (s4.tup v2) (by omega) hD2 (fun z _ H5 Qy s5 hq => ?_) fun H5 s5 eD5 => ?_⟩
        · refine ⟨_, rfl, _, rfl, L, _, rfl, DGet.k (k := Sum.inr z) (s5 _ _ eL4), ?_⟩
          refine ⟨_, rfl, ?_⟩
          rw [bk_some]
          refine ite2 (fun c => ?_) (fun c => ?_)
          · rw [c] at hq; exact hq
          · have c' : decide (z ∈ kys b') = false := by simpa using c
            rw [c', Bool.false_or] at hq
            refine ⟨_, rfl, _, rfl, D, _, rfl, .inl (SqL.of (s5 _ _ eD4)), rfl, flat_strs _, ?_⟩
            rw [inV_str]
            exact hq
        · refine ⟨D2, _, rfl, SqL.of eD5, ?_⟩
          rw [all_map]
          refine goN ?_
          have s45 := s4.trans s5
          have eL5 := s5 _ _ eL4
          have pe : passE true (hd rules) (kys b) (rules.take (j + 1)) = stepE true (hd rules) (kys b') ru := by
            rw [he', List.take_add_one, e1]
            unfold passE
            rw [List.foldl_append]
            rfl
          refine ⟨_, rfl, _, rfl, L, _, rfl, DGet.k (k := Sum.inr ru.1) eL5, _, rfl, ?_⟩
          rw [bk_some]
          refine ite2 (fun c => ?_) (fun c => ?_)
          · refine ⟨_, rfl, _, rfl, ?_⟩
            refine ite2 (fun c2 => ?_) (fun c2 => ?_)
            · have cn : ru.1 ∉ kys b' := by simpa using c
              refine ⟨_, rfl, _, rfl, _, rfl, L, _, rfl, DPut.k (k := Sum.inr ru.1) eL5 (fits' (by unfold bk; rw [List.length_map]; omega)), ?_⟩
              rw [Int.zero_add, bk_put cn]
              refine ⟨b' ++ [(ru.1, j)], _, _, _, _, rfl, fun b o hb => ?_, by rw [upd_ne (Ne.symm nL)]; exact s5 _ _ eD4, upd_same, ?_, hrk'.snoc e1 c2, by rw [List.length_append]; simp; omega, by unfold kys; rw [List.map_append]; exact nd_last hnd' cn⟩
              · rw [upd_ne (fun z => by rw [z, fL] at hb; cases hb)]; exact s45 b o hb
              · rw [pe, stepE_cond]
                have c2' : condR (hd rules) b' ru = true := c2
                rw [c2', Bool.true_and, if_pos c]
                unfold kys
                rw [List.map_append]
                rfl
            · refine ⟨b', _, _, _, _, rfl, s45, s5 _ _ eD4, eL5, ?_, hrk', by omega, hnd'⟩
              have c2' : ¬ condR (hd rules) b' ru = true := c2
              rw [pe, stepE_cond, if_neg (fun z => c2' (Bool.and_eq_true_iff.mp z).1)]
          · refine ⟨b', _, _, _, _, rfl, s45, s5 _ _ eD4, eL5, ?_, hrk', by omega, hnd'⟩
            rw [pe, stepE_cond, if_neg (fun z => c (Bool.and_eq_true_iff.mp z).2)]
      · rintro σ H4 ⟨b', y1, y2, y6, y7, rfl, s4, eD4, eL4, he', hrk', hel', hnd'⟩
        rw [ll] at hel'
        rw [ll, List.take_length] at he'
        exact ⟨b', _, _, _, _, _, rfl, s4, eD4, eL4, by rw [he', he]; rfl, hrk', by omega, hnd'⟩
    · rintro σ H3 ⟨b, y1, y2, y5, y6, y7, rfl, s3, eD3, eL3, he, hrk, hel, hnd⟩
      rw [List.length_map, ll] at he hel
      refine ⟨_, rfl, ?_⟩
      obtain ⟨U, hU, hUm⟩ := hsm.heads
      refine q L b H3 fL s3 eL3 hrk he ?_
      have := pigeon (kys b) U hnd fun z hz => ?_
      · unfold kys at this
        rw [List.length_map] at this
        omega
      · obtain ⟨i, hi⟩ := List.getElem?_of_mem hz
        unfold kys at hi
        rw [List.getElem?_map] at hi
        obtain ⟨⟨z', k⟩, e1, e2⟩ := Option.map_eq_some_iff.mp hi
        obtain ⟨parts, e3, _⟩ := hrk i z' k e1
        have := hUm _ (List.mem_of_getElem? e3)
        rw [← e2]
        exact this
end
end K11
namespace K11
open PySem L2 M11
theorem cut_strs (zs : List Str) (lo hi : Option Int) : ∃ ps : List Str, cutV (zs.map V.str) lo hi = ps.map V.str ∧ ps.length ≤ zs.length :=
  ⟨(zs.drop (HT.sIx (zs.map V.str).length 0 lo)).take (HT.sIx (zs.map V.str).length (zs.map V.str).length hi - HT.sIx (zs.map V.str).length 0 lo), by unfold cutV; rw [← List.map_drop, ← List.map_take], by rw [List.length_take, List.length_drop]; omega⟩
section
variable {P : Program} {w : World} {K : PySem.W.Frag} {mg : Str → Option Value} {base : Heap} {f : Addr} {fd : FuncData}
def spGood (K : PySem.W.Frag) : Sp := fun vs H Q _ => ∃ (R : Addr) (rs : List Addr) (rules : List Rule), vs = [.ref R] ∧ SqL K H R (rs.map V.ref) ∧ Rules K H rs rules ∧ Small rules ∧
  ∀ (b : Bool) (H' : Hp), Same H H' → (b = true → ∀ z ∈ hd rules, z ∈ endedM true rules) → Q (.bl b) H'
abbrev NG : List Str := ["_law_rules_here", "_law_head", "_law_parts", "_law_heads", "_law_ended_here", "_law_met", "_law_again", "_law_empty", "_law_alone", "_law_k", "_law_others", "_law_calm", "_law_name", "_law_needed"]
theorem scGood : FnScope NG ["_law_rules_here"] (defScope sGood) := ⟨rfl, rfl, rfl, by decide +kernel, rfl, by decide +kernel, by decide +kernel⟩
theorem ok_good (F : Fun K "_law_good" "_law_good" sGood f fd) (T : Txt mg) (GE : CalleeD P w K mg base 1 "_law_ended" ["_law_rules_here", "_law_words"] (spEnded K)) : FnOk P w K mg base CX0 2 f fd ["_law_rules_here"] (spGood K) := by
  refine F.ok scGood (fun vs H Q E h => ?_) (fun cdv A outer s H vs Q E hr h => ?_)
  · obtain ⟨R, rs, rules, rfl, _⟩ := h; rfl
  · obtain ⟨R, rs, rules, rfl, hR, hrl, hsm, q⟩ := h
    have hsm1 := hsm.one
    have hsm2 := hsm.most
    refine ⟨_, pss_cons (ps_set (i := 3) scGood.nd rfl (Or.inr rfl) (pe_compG ["_law_head", "_law_parts"] [] rfl (pi_list (pv 0)) (caps_of rfl rfl) (by decide +kernel) rfl (by decide +kernel)
        (fun _ _ _ _ _ => pg_tupK (n := 2) K rfl (pgs_cons (pg_name (i := 0) (show (["_law_head", "_law_parts"] : List Str).Nodup by decide +kernel) rfl (Or.inl rfl)) (pgs_cons (pg_name (i := 1) (show (["_law_head", "_law_parts"] : List Str).Nodup by decide +kernel) rfl (Or.inl rfl)) pgs_nil))) (fun _ _ _ _ _ => pif_nil)
        (fun _ _ _ _ _ => pv 0)))
      (pss_cons (ps_set (i := 4) scGood.nd rfl (Or.inr rfl) (pe_fn GE hr rfl (pa_cons (pv 0) (pa_cons pe_bl pa_nil))))
      (pss_cons (ps_set (i := 5) scGood.nd rfl (Or.inr rfl) (pe_slice sl_list (pv 3) po_none (po_some pe_int)))
      (pss_cons (ps_for PassesOwn.never rfl (pi_list (pv 0)) (pg_name (i := 6) scGood.nd rfl (Or.inl rfl))
        (pss_one (ps_for PassesOwn.never rfl (pi_list (pv 0)) (pg_tupK (n := 2) K rfl (pgs_cons (pg_name (i := 1) scGood.nd rfl (Or.inl rfl)) (pgs_cons (pg_name (i := 2) scGood.nd rfl (Or.inl rfl)) pgs_nil)))
          (pss_one (ps_if (pt_cmpR op_in_seq (pv 1) (pv 5) rfl)
            (pss_one (ps_set (i := 5) scGood.nd rfl (Or.inr rfl) (pe_op op_cat (pv 5)
              (pe_compG ["_law_part_here"] [(3, "_law_heads"), (5, "_law_met")] rfl (pi_tup (pv 2)) (caps_of rfl rfl) (by decide +kernel) rfl (by decide +kernel)
                (fun _ _ _ _ _ => pg_name (i := 0) (show (["_law_part_here", "_law_heads", "_law_met"] : List Str).Nodup by decide +kernel) rfl (Or.inl rfl))
                (fun _ _ _ _ _ => pif_one (PW.pt (pw_and (pt_cmpR (op_in_seqK K) (pv 0) (pv 1) rfl) (pw_and1 (pt_cmpR (op_notIn_seqK K) (pv 0) (pv 2) rfl)))))
                (fun _ _ _ _ _ => pv 0))))) pss_nil)))))
      (pss_cons (ps_set (i := 7) scGood.nd rfl (Or.inr rfl) (pe_fn GE hr rfl (pa_cons (pv 0) (pa_cons pe_bl pa_nil))))
      (pss_cons (ps_set (i := 8) scGood.nd rfl (Or.inl rfl) (pe_lst pa_nil))
      (pss_cons (ps_for PassesOwn.never rfl (pi_list (pv 0)) (pg_tupK (n := 2) K rfl (pgs_cons (pg_name (i := 1) scGood.nd rfl (Or.inl rfl)) (pgs_cons (pg_name (i := 2) scGood.nd rfl (Or.inl rfl)) pgs_nil)))
        (pss_one (ps_for PassesOwn.never rfl (pi_range1 rfl T.rng (pa_cons (pe_callB call_len_seq rfl T.len PySem.boot_len (pa_cons (pv 2) pa_nil)) pa_nil)) (pg_name (i := 9) scGood.nd rfl (Or.inl rfl))
          (pss_cons (ps_set (i := 10) scGood.nd rfl (Or.inl rfl) (pe_op op_catG (pe_slice sl_tupG (pv 2) po_none (po_some (pv 9))) (pe_slice sl_tupG (pv 2) (po_some (pe_op op_add (pv 9) pe_int)) po_none)))
          (pss_one (ps_if (PW.pt (pw_and (pt_cmpR op_in_seq (pe_ix ix_tup (pv 2) (pv 9) (fun _ _ => rfl)) (pv 3) rfl) (pw_and1 (pt_val (pe_callB (call_allB rfl) rfl T.all boot_all (pa_cons
              (pe_compG ["_law_part_here"] [(7, "_law_empty")] rfl (pi_tup (pv 10)) (caps_of rfl rfl) (by decide +kernel) rfl (by decide +kernel)
                (fun _ _ _ _ _ => pg_name (i := 0) (show (["_law_part_here", "_law_empty"] : List Str).Nodup by decide +kernel) rfl (Or.inl rfl)) (fun _ _ _ _ _ => pif_nil)
                (fun _ _ _ _ _ => pe_cmpR (op_in_seqK K) (pv 0) (pv 1) rfl)) pa_nil))))))
            (pss_one (ps_expr (pe_bm PySem.F.plainAttrs_list PySem.F.slot_list_append PySem.F.type_list_append mt_append (pv 8) (pa_cons (pe_tup (pa_cons (pv 1) (pa_cons (pe_ix ix_tup (pv 2) (pv 9) (fun _ _ => rfl)) pa_nil))) pa_nil)))) pss_nil))))))
      (pss_cons (ps_set (i := 11) scGood.nd rfl (Or.inr rfl) (pe_lst pa_nil))
      (pss_cons (ps_for PassesOwn.never rfl (pi_list (pv 0)) (pg_name (i := 6) scGood.nd rfl (Or.inl rfl))
        (pss_one (ps_for PassesOwn.never rfl (pi_list (pv 3)) (pg_name (i := 12) scGood.nd rfl (Or.inr rfl))
          (pss_cons (ps_setC (iy := 13) ["_law_head", "_law_other"] [(12, "_law_name")] scGood.nd rfl rfl rfl (pi_list (pv 8)) (caps_of rfl rfl) (by decide +kernel) rfl (by decide +kernel)
              (fun _ _ _ _ _ => pg_tupK (n := 2) K rfl (pgs_cons (pg_name (i := 0) (show (["_law_head", "_law_other", "_law_name"] : List Str).Nodup by decide +kernel) rfl (Or.inl rfl)) (pgs_cons (pg_name (i := 1) (show (["_law_head", "_law_other", "_law_name"] : List Str).Nodup by decide +kernel) rfl (Or.inl rfl)) pgs_nil)))
              (fun _ _ _ _ _ => pif_one (pt_cmpR op_eq (pv 0) (pv 2) (nomark _))) (fun _ _ _ _ _ => pv 1))
          (pss_one (ps_if (PW.pt (pw_and (pt_cmpR op_notIn_seq (pv 12) (pv 11) rfl) (pw_and1 (pt_val (pe_callB (call_allB rfl) rfl T.all boot_all (pa_cons
              (pe_compG ["_law_other"] [(11, "_law_calm")] rfl (pi_list (pv 13)) (caps_of rfl rfl) (by decide +kernel) rfl (by decide +kernel)
                (fun _ _ _ _ _ => pg_name (i := 0) (show (["_law_other", "_law_calm"] : List Str).Nodup by decide +kernel) rfl (Or.inl rfl)) (fun _ _ _ _ _ => pif_nil)
                (fun _ _ _ _ _ => pe_cmpR (op_in_seqK K) (pv 0) (pv 1) rfl)) pa_nil))))))
            (pss_one (ps_expr (pe_bm PySem.F.plainAttrs_list PySem.F.slot_list_append PySem.F.type_list_append mt_append (pv 11) (pa_cons (pv 12) pa_nil)))) pss_nil))))))
      (pss_one (ps_ret (pe_callB (call_allB rfl) rfl T.all boot_all (pa_cons
        (pe_compG ["_law_name"] [(4, "_law_ended_here"), (5, "_law_met"), (11, "_law_calm")] rfl (pi_list (pv 3)) (caps_of rfl rfl) (by decide +kernel) rfl (by decide +kernel)
          (fun _ _ _ _ _ => pg_name (i := 0) (show (["_law_name", "_law_ended_here", "_law_met", "_law_calm"] : List Str).Nodup by decide +kernel) rfl (Or.inl rfl)) (fun _ _ _ _ _ => pif_nil)
          (fun _ _ _ _ _ => pe_and (pe_cmpR (op_in_seqK K) (pv 0) (pv 1) rfl) (pe_and (pe_cmpR (op_in_seqK K) (pv 0) (pv 2) rfl) (pe_one (pe_cmpR (op_in_seqK K) (pv 0) (pv 3) rfl))))) pa_nil)))))))))))), ?_⟩
    have ll := Paired.length hrl
    refine ⟨_, rfl, R, rfl, ⟨_, hR⟩, fun D hD => comp_heads hR hrl (by omega) hD fun H1 s1 eD => ?_⟩
    refine goN ?_
    refine ⟨_, rfl, R, rs, rules, true, rfl, s1.seq hR, hrl.same s1, hsm, fun En H2 fE s2 eE lE => ?_⟩
    refine goN ?_
    obtain ⟨m0, em0, lm0⟩ := cut_strs (hd rules) none (some 1)
    have hdl : (hd rules).length = rules.length := by unfold hd; rw [List.length_map]
    refine ⟨_, rfl, _, rfl, D, _, rfl, SqL.of (s2 _ _ eD), fun M0 hM0 => ?_⟩
    rw [em0]
    have k3 := same_laid hM0 (.lst (m0.map V.str))
    have s3 := (s1.trans s2).trans k3
    have eD3 := k3 _ _ (s2 _ _ eD)
    have eE3 := k3 _ _ eE
    have eM3 : upd H2 M0 (.lst (m0.map V.str)) M0 = some (.lst (m0.map V.str)) := upd_same
    generalize upd H2 M0 (.lst (m0.map V.str)) = H3 at k3 s3 eD3 eE3 eM3
    refine goN ?_
    refine ⟨_, rfl, R, rfl, ⟨_, s3.seq hR⟩, for_list (xs := rs.map V.ref) (fun i σ H4 => ∃ (M : Addr) (ms : List Str) (y1 y2 y6 : Option V), σ = [some (.ref R), y1, y2, some (.ref D), some (.ref En), some (.ref M), y6, none, none, none, none, none, none, none] ∧ Same H3 H4 ∧ H4 M = some (.lst (ms.map V.str)) ∧ ms.length ≤ 8 + 40 * i) ⟨M0, m0, _, _, _, rfl, fun _ _ h => h, eM3, by omega⟩ ?_ ?_ ?_⟩
    · rintro i σ H4 _ ⟨M, ms, y1, y2, y6, rfl, s4, _⟩
      exact s4.seq (s3.seq hR)
    · rintro i x σ H4 ex ⟨M, ms, y1, y2, y6, rfl, s4, eM, lM⟩
      have li := (List.getElem?_eq_some_iff.mp ex).1
      rw [List.length_map] at li
      refine goN ?_
      refine ⟨_, rfl, R, rfl, ⟨_, s4.seq (s3.seq hR)⟩, for_list (xs := rs.map V.ref) (fun j σ H5 => ∃ (M : Addr) (ms : List Str) (y1 y2 : Option V), σ = [some (.ref R), y1, y2, some (.ref D), some (.ref En), some (.ref M), some x, none, none, none, none, none, none, none] ∧ Same H3 H5 ∧ H5 M = some (.lst (ms.map V.str)) ∧ ms.length ≤ 8 + 40 * i + 4 * j) ⟨M, ms, _, _, rfl, s4, eM, by omega⟩ ?_ ?_ ?_⟩
      · rintro j σ H5 _ ⟨M, ms, y1, y2, rfl, s5, _⟩
        exact s5.seq (s3.seq hR)
      · rintro j x2 σ H5 ex2 ⟨M, ms, y1, y2, rfl, s5, eM, lM⟩
        have lj := (List.getElem?_eq_some_iff.mp ex2).1
        rw [List.length_map] at lj
        rw [List.getElem?_map] at ex2
        obtain ⟨r, er, rfl⟩ := Option.map_eq_some_iff.mp ex2
        obtain ⟨ru, e1, p, v1, v2⟩ := hrl.get er
        have hru := hsm.few ru (List.mem_of_getElem? e1)
        have s05 := s3.trans s5
        refine ⟨r, _, rfl, s05.tup v1, rfl, _, _, rfl, _, _, rfl, rfl, ?_⟩
        refine ⟨_, rfl, _, rfl, M, _, rfl, .inl (SqL.of eM), rfl, flat_strs _, _, rfl, ?_⟩
        refine ite2 (fun c => ?_) (fun c => ?_)
        · refine ⟨_, rfl, _, rfl, p, rfl, ⟨_, s05.tup v2⟩, fun D2 hD2 => compG_tup (xs := ru.2.map V.str) (fun k ys σ2 H6 => ∃ zs : List Str, ys = zs.map V.str ∧ zs.length ≤ k ∧ (∃ y0, σ2 = [y0, some (.ref D), some (.ref M)]) ∧ Same H5 H6 ∧ H6 D2 = some (.lst ys))
            ⟨[], rfl, Nat.le_refl _, ⟨none, rfl⟩, same_laid hD2 _, upd_same⟩ (fun k ys σ2 H6 _ h => ?_) (fun k v ys σ2 H6 ex h => ?_) (fun ys σ2 H6 h => ?_)⟩
          · obtain ⟨_, _, _, _, s6, _⟩ := h
            exact s6.tup (s05.tup v2)
          · obtain ⟨zs, rfl, lz, ⟨y0, rfl⟩, s6, eD2⟩ := h
            have lk := (List.getElem?_eq_some_iff.mp ex).1
            rw [List.length_map] at lk
            rw [List.getElem?_map] at ex
            obtain ⟨z, ez, rfl⟩ := Option.map_eq_some_iff.mp ex
            refine goN ?_
            refine ⟨_, rfl, _, rfl, D, _, rfl, .inl (SqL.of (s6 _ _ (s5 _ _ eD3))), rfl, flat_strs _, _, rfl, ?_⟩
            refine ite2 (fun c1 => ?_) (fun c1 => ?_)
            · refine ⟨_, rfl, _, rfl, M, _, rfl, .inl (SqL.of (s6 _ _ eM)), rfl, flat_strs _, _, rfl, ?_⟩
              refine ite2 (fun c2 => ?_) (fun c2 => ?_)
              · refine ⟨_, rfl, eD2, fits' (by rw [List.length_map]; omega), zs ++ [z], by rw [List.map_append]; rfl, by rw [List.length_append]; simp; omega, ⟨_, rfl⟩, fun b o hb => ?_, upd_same⟩
                rw [upd_ne (fun z => by rw [z, hD2] at hb; cases hb)]
                exact s6 b o hb
              · exact ⟨zs, rfl, by omega, ⟨_, rfl⟩, s6, eD2⟩
            · refine iteF ?_
              exact ⟨zs, rfl, by omega, ⟨_, rfl⟩, s6, eD2⟩
          · obtain ⟨zs, rfl, lz, _, s6, eD2⟩ := h
            rw [List.length_map] at lz
            refine ⟨M, D2, _, _, rfl, rfl, s6 _ _ eM, eD2, fits (by rw [List.length_map, List.length_map]; omega), fun M2 hM2 => ?_⟩
            rw [← List.map_append]
            refine ⟨M2, ms ++ zs, _, _, rfl, (s5.trans s6).trans (same_laid hM2 _), upd_same, by rw [List.length_append]; omega⟩
        · exact ⟨M, ms, _, _, rfl, s5, eM, by omega⟩
      · rintro σ H5 ⟨M, ms, y1, y2, rfl, s5, eM, lM⟩
        rw [List.length_map, ll] at lM
        exact ⟨M, ms, _, _, _, rfl, s5, eM, by omega⟩
    · rintro σ H4 ⟨M, ms, y1, y2, y6, rfl, s4, eM, lM⟩
      have s04 := s3.trans s4
      refine ⟨_, rfl, R, rs, rules, false, rfl, s04.seq hR, hrl.same s04, hsm, fun Em H5 fEm s5 eEm lEm => ?_⟩
      refine goN ?_
      refine ⟨(by show 0 ≤ sizeLine; decide), fun Al hAl => ?_⟩
      have k6 := same_laid hAl (.lst [])
      have s6 := (s04.trans s5).trans k6
      have eD6 := k6 _ _ (s5 _ _ (s4 _ _ eD3))
      have eE6 := k6 _ _ (s5 _ _ (s4 _ _ eE3))
      have eM6 := k6 _ _ (s5 _ _ eM)
      have eEm6 := k6 _ _ eEm
      have eA6 : upd H5 Al (.lst []) Al = some (.lst []) := upd_same
      have nA : ∀ b o, H5 b = some o → b ≠ Al := fun b o h z => by rw [z, hAl] at h; cases h
      have nAD := nA _ _ (s5 _ _ (s4 _ _ eD3))
      have nAE := nA _ _ (s5 _ _ (s4 _ _ eE3))
      have nAM := nA _ _ (s5 _ _ eM)
      have nAm := nA _ _ eEm
      have fAl : H Al = none := (s04.trans s5).free hAl
      generalize upd H5 Al (.lst []) = H6 at k6 s6 eD6 eE6 eM6 eEm6 eA6
      refine goN ?_
      let Kp : Hp → Prop := fun H7 => Same H H7 ∧ H7 D = some (.lst ((hd rules).map V.str)) ∧ H7 En = some (.lst ((endedM true rules).map V.str)) ∧ H7 M = some (.lst (ms.map V.str)) ∧ H7 Em = some (.lst ((endedM false rules).map V.str))
      have kp_same : ∀ {H7 H8 : Hp}, Kp H7 → Same H7 H8 → Kp H8 := fun h s => ⟨h.1.trans s, s _ _ h.2.1, s _ _ h.2.2.1, s _ _ h.2.2.2.1, s _ _ h.2.2.2.2⟩
      have kp_al : ∀ {H7 : Hp} {xs : List V}, Kp H7 → Kp (upd H7 Al (.lst xs)) := fun h => ⟨fun b o hb => by rw [upd_ne (fun z => by rw [z, fAl] at hb; cases hb)]; exact h.1 b o hb, by rw [upd_ne nAD]; exact h.2.1, by rw [upd_ne nAE]; exact h.2.2.1, by rw [upd_ne nAM]; exact h.2.2.2.1, by rw [upd_ne nAm]; exact h.2.2.2.2⟩
      let Prs : Hp → List Addr → List (Str × Str) → Prop := fun H7 as prs => Paired (fun a (pr : Str × Str) => SqT K H7 a [.str pr.1, .str pr.2]) as prs
      refine ⟨_, rfl, R, rfl, ⟨_, s6.seq hR⟩, for_list (xs := rs.map V.ref) (fun i σ H7 => ∃ (as : List Addr) (prs : List (Str × Str)) (y1 y2 y6 y9 y10 : Option V), σ = [some (.ref R), y1, y2, some (.ref D), some (.ref En), some (.ref M), y6, some (.ref Em), some (.ref Al), y9, y10, none, none, none] ∧ Kp H7 ∧ H7 Al = some (.lst (as.map V.ref)) ∧ Prs H7 as prs ∧ as.length ≤ 4 * i) ⟨[], [], _, _, _, _, _, rfl, ⟨s6, eD6, eE6, eM6, eEm6⟩, eA6, .nil, by simp⟩ ?_ ?_ ?_⟩
      · rintro i σ H7 _ ⟨as, prs, y1, y2, y6, y9, y10, rfl, kp, _⟩
        exact kp.1.seq hR
      · rintro i x2 σ H7 ex2 ⟨as, prs, y1, y2, y6, y9, y10, rfl, kp, eA, pA, lA⟩
        have lj := (List.getElem?_eq_some_iff.mp ex2).1
        rw [List.length_map] at lj
        rw [List.getElem?_map] at ex2
        obtain ⟨r, er, rfl⟩ := Option.map_eq_some_iff.mp ex2
        obtain ⟨ru, e1, p, v1, v2⟩ := hrl.get er
        have hru := hsm.few ru (List.mem_of_getElem? e1)
        refine ⟨r, _, rfl, kp.1.tup v1, rfl, _, _, rfl, _, _, rfl, rfl, ?_⟩
        refine ⟨_, rfl, p, _, rfl, .inr (kp.1.tup v2), _, rfl, by rw [List.length_map]; omega, by rw [List.length_map]; omega, ?_⟩
        rw [List.length_map, Int.toNat_natCast]
        refine for_range (n := ru.2.length) (fun j σ H8 => ∃ (as : List Addr) (prs : List (Str × Str)) (y9 y10 : Option V), σ = [some (.ref R), some (.str ru.1), some (.ref p), some (.ref D), some (.ref En), some (.ref M), y6, some (.ref Em), some (.ref Al), y9, y10, none, none, none] ∧ Kp H8 ∧ H8 Al = some (.lst (as.map V.ref)) ∧ Prs H8 as prs ∧ as.length ≤ 4 * i + j) ⟨as, prs, _, _, rfl, kp, eA, pA, by omega⟩ ?_ ?_
        · rintro j σ H8 hj ⟨as, prs, y9, y10, rfl, kp, eA, pA, lA⟩
          obtain ⟨z, ez⟩ : ∃ z, ru.2[j]? = some z := ⟨ru.2[j]'(by omega), List.getElem?_eq_getElem (by omega)⟩
          have atj : atI (ru.2.map V.str) (0 + (j : Int)) = some (.str z) := by
            rw [Int.zero_add]
            exact atI_nat (by rw [List.getElem?_map, ez]; rfl)
          obtain ⟨q1, eq1, lq1⟩ := cut_strs ru.2 none (some (0 + (j : Int)))
          obtain ⟨q2, eq2, lq2⟩ := cut_strs ru.2 (some (0 + (j : Int) + 1)) none
          refine goN ?_
          refine ⟨_, rfl, _, rfl, _, rfl, p, _, rfl, kp.1.tup v2, fun t1 H9 s9 e9 => ?_⟩
          rw [eq1] at e9
          refine ⟨_, rfl, _, rfl, _, _, rfl, rfl, _, rfl, p, _, rfl, s9.tup (kp.1.tup v2), fun t2 HA sA eA2 => ?_⟩
          rw [eq2] at eA2
          refine ⟨t1, t2, _, _, rfl, rfl, sA.tup e9, eA2, fits (by rw [List.length_map, List.length_map]; omega), fun t3 HB sB eB => ?_⟩
          rw [← List.map_append] at eB
          refine goN ?_
          have s8B := s9.trans (sA.trans sB)
          have kpB := kp_same kp s8B
          have eAB := s8B _ _ eA
          have pAB : Prs HB as prs := Paired.mapP pA fun a pr z => s8B.tup z
          have noAdd : ∀ {HC : Hp}, Same HB HC → ∃ (as : List Addr) (prs : List (Str × Str)) (y9' y10' : Option V), [some (.ref R), some (.str ru.1), some (.ref p), some (.ref D), some (.ref En), some (.ref M), y6, some (.ref Em), some (.ref Al), some (.int (0 + (j : Int))), some (.ref t3), none, none, none] = [some (.ref R), some (.str ru.1), some (.ref p), some (.ref D), some (.ref En), some (.ref M), y6, some (.ref Em), some (.ref Al), y9', y10', none, none, none] ∧ Kp HC ∧ HC Al = some (.lst (as.map V.ref)) ∧ Prs HC as prs ∧ as.length ≤ 4 * i + (j + 1) := fun {HC} sC => ⟨as, prs, _, _, rfl, kp_same kpB sC, sC _ _ eAB, Paired.mapP pAB fun a pr z => sC.tup z, by omega⟩
          refine ⟨_, rfl, _, rfl, p, _, _, _, rfl, rfl, kpB.1.tup v2, atj, _, rfl, D, _, rfl, .inl (SqL.of kpB.2.1), rfl, flat_strs _, _, rfl, ?_⟩
          refine ite2 (fun c1 => ?_) (fun c1 => ?_)
          · refine ⟨_, rfl, t3, rfl, ⟨_, eB⟩, fun D2 hD2 => comp_boolsT (zs := q1 ++ q2) [some (.ref Em)] (fun z => decide (z ∈ endedM false rules)) rfl eB (by rw [List.length_append]; omega) hD2 (fun z _ H5 Qy s5 hq => ?_) fun HC sC eC => ?_⟩
            · refine ⟨_, rfl, _, rfl, Em, _, rfl, .inl (SqL.of (s5 _ _ kpB.2.2.2.2)), rfl, flat_strs _, ?_⟩
              rw [inV_str]
              exact hq
            · refine ⟨D2, _, rfl, SqL.of eC, _, rfl, ?_⟩
              refine ite2 (fun c2 => ?_) (fun c2 => ?_)
              · have kpC := kp_same kpB sC
                refine ⟨_, rfl, .inl ⟨rfl, _, SqL.of (sC _ _ eAB)⟩, _, rfl, _, rfl, _, rfl, p, _, _, _, rfl, rfl, kpC.1.tup v2, atj, (by show 2 ≤ sizeLine; decide), fun t ht => ?_⟩
                have kD := same_laid ht (.tup [.str ru.1, .str z])
                have sD := sC.trans kD
                have vD : SqT K (upd HC t (.tup [.str ru.1, .str z])) t [.str ru.1, .str z] := SqT.of upd_same
                generalize upd HC t (.tup [.str ru.1, .str z]) = HD at kD sD vD
                have eAD := sD _ _ eAB
                refine ⟨Al, _, _, rfl, rfl, eAD, fits' (by rw [List.length_map]; omega), ?_⟩
                exact ⟨as ++ [t], prs ++ [(ru.1, z)], _, _, rfl, kp_al (kp_same kpB sD), by rw [upd_same, List.map_append]; rfl, Paired.snoc (Paired.mapP pAB fun a pr z => sqt_upd eAD (sD.tup z)) (sqt_upd eAD vD), by rw [List.length_append]; simp; omega⟩
              · exact noAdd sC
          · refine iteF ?_
            exact noAdd fun _ _ h => h
        · rintro σ H8 ⟨as, prs, y9, y10, rfl, kp, eA, pA, lA⟩
          exact ⟨as, prs, _, _, _, _, _, rfl, kp, eA, pA, by omega⟩
      · rintro σ H7 ⟨as, prs, y1, y2, y6, y9, y10, rfl, kp, eA, pA, lA⟩
        rw [List.length_map, ll] at lA
        refine ⟨(by show 0 ≤ sizeLine; decide), fun Cm hCm => ?_⟩
        have k8 := same_laid hCm (.lst [])
        have kp8 := kp_same kp k8
        have eA8 := k8 _ _ eA
        have pA8 : Prs (upd H7 Cm (.lst [])) as prs := Paired.mapP pA fun a pr z => k8.tup z
        have eC8 : upd H7 Cm (.lst []) Cm = some (.lst []) := upd_same
        have nC : ∀ b o, H7 b = some o → b ≠ Cm := fun b o h z => by rw [z, hCm] at h; cases h
        have nCA := nC _ _ eA
        have nCD := nC _ _ kp.2.1
        have nCE := nC _ _ kp.2.2.1
        have nCM := nC _ _ kp.2.2.2.1
        have nCm := nC _ _ kp.2.2.2.2
        have fCm : H Cm = none := kp.1.free hCm
        have kp_cm : ∀ {H7 : Hp} {xs : List V}, Kp H7 → Kp (upd H7 Cm (.lst xs)) := fun h => ⟨fun b o hb => by rw [upd_ne (fun z => by rw [z, fCm] at hb; cases hb)]; exact h.1 b o hb, by rw [upd_ne nCD]; exact h.2.1, by rw [upd_ne nCE]; exact h.2.2.1, by rw [upd_ne nCM]; exact h.2.2.2.1, by rw [upd_ne nCm]; exact h.2.2.2.2⟩
        generalize upd H7 Cm (.lst []) = H8 at k8 kp8 eA8 pA8 eC8
        refine goN ?_
        have lap := Paired.length pA
        refine ⟨_, rfl, R, rfl, ⟨_, kp8.1.seq hR⟩, for_list (xs := rs.map V.ref) (fun i σ H9 => ∃ (cs : List Str) (y1 y2 y6 y9 y10 y12 y13 : Option V), σ = [some (.ref R), y1, y2, some (.ref D), some (.ref En), some (.ref M), y6, some (.ref Em), some (.ref Al), y9, y10, some (.ref Cm), y12, y13] ∧ Kp H9 ∧ H9 Al = some (.lst (as.map V.ref)) ∧ Prs H9 as prs ∧ H9 Cm = some (.lst (cs.map V.str)) ∧ cs.length ≤ 8 * i) ⟨[], _, _, _, _, _, _, _, rfl, kp8, eA8, pA8, eC8, by simp⟩ ?_ ?_ ?_⟩
        · rintro i σ H9 _ ⟨cs, y1, y2, y6, y9, y10, y12, y13, rfl, kp9, _⟩
          exact kp9.1.seq hR
        · rintro i x σ H9 ex ⟨cs, y1, y2, y6, y9, y10, y12, y13, rfl, kp9, eA9, pA9, eC9, lC9⟩
          have li := (List.getElem?_eq_some_iff.mp ex).1
          rw [List.length_map] at li
          refine goN ?_
          refine ⟨_, rfl, D, rfl, ⟨_, SqL.of kp9.2.1⟩, for_list (xs := (hd rules).map V.str) (fun j σ HA => ∃ (cs : List Str) (y12 y13 : Option V), σ = [some (.ref R), y1, y2, some (.ref D), some (.ref En), some (.ref M), some x, some (.ref Em), some (.ref Al), y9, y10, some (.ref Cm), y12, y13] ∧ Kp HA ∧ HA Al = some (.lst (as.map V.ref)) ∧ Prs HA as prs ∧ HA Cm = some (.lst (cs.map V.str)) ∧ cs.length ≤ 8 * i + j) ⟨cs, _, _, rfl, kp9, eA9, pA9, eC9, by omega⟩ ?_ ?_ ?_⟩
          · rintro j σ HA _ ⟨cs, y12, y13, rfl, kpA, _⟩
            exact SqL.of kpA.2.1
          · rintro j x2 σ HA ex2 ⟨cs, y12, y13, rfl, kpA, eAA, pAA, eCA, lCA⟩
            have lj := (List.getElem?_eq_some_iff.mp ex2).1
            rw [List.length_map] at lj
            rw [List.getElem?_map] at ex2
            obtain ⟨nm, enm, rfl⟩ := Option.map_eq_some_iff.mp ex2
            refine goN ?_
            refine ⟨_, rfl, Al, rfl, ⟨_, SqL.of eAA⟩, fun D2 hD2 => compG_list (xs := as.map V.ref) (fun k ys σ2 HB => ∃ zs : List Str, ys = zs.map V.str ∧ zs.length ≤ k ∧ (∃ y0 y1, σ2 = [y0, y1, some (.str nm)]) ∧ Same HA HB ∧ HB D2 = some (.lst ys))
              ⟨[], rfl, Nat.le_refl _, ⟨none, none, rfl⟩, same_laid hD2 _, upd_same⟩ (fun k ys σ2 HB _ h => ?_) (fun k v ys σ2 HB ex h => ?_) (fun ys σ2 HB h => ?_)⟩
            · obtain ⟨_, _, _, _, sB, _⟩ := h
              exact SqL.of (sB _ _ eAA)
            · obtain ⟨zs, rfl, lz, ⟨u0, u1, rfl⟩, sB, eB⟩ := h
              have lk := (List.getElem?_eq_some_iff.mp ex).1
              rw [List.length_map] at lk
              rw [List.getElem?_map] at ex
              obtain ⟨a, ea, rfl⟩ := Option.map_eq_some_iff.mp ex
              obtain ⟨pr, epr⟩ : ∃ pr, prs[k]? = some pr := ⟨prs[k]'(by omega), List.getElem?_eq_getElem (by omega)⟩
              obtain ⟨a', ea', va⟩ := Paired.at_ pAA k pr epr
              rw [ea] at ea'
              cases ea'
              refine ⟨a, _, rfl, sB.tup va, rfl, _, _, rfl, _, _, rfl, rfl, ?_⟩
              refine ⟨_, rfl, _, rfl, rfl, _, rfl, ?_⟩
              refine ite2 (fun c1 => ?_) (fun c1 => ?_)
              · refine ⟨_, rfl, eB, fits' (by rw [List.length_map]; omega), zs ++ [pr.2], by rw [List.map_append]; rfl, by rw [List.length_append]; simp; omega, ⟨_, _, rfl⟩, fun b o hb => ?_, upd_same⟩
                rw [upd_ne (fun z => by rw [z, hD2] at hb; cases hb)]
                exact sB b o hb
              · exact ⟨zs, rfl, by omega, ⟨_, _, rfl⟩, sB, eB⟩
            · obtain ⟨zs, rfl, lz, _, sB, eB⟩ := h
              rw [List.length_map] at lz
              refine goN ?_
              have kpB := kp_same kpA sB
              have noAdd : ∀ {HC : Hp}, Same HB HC → ∃ (cs : List Str) (y12' y13' : Option V), [some (.ref R), y1, y2, some (.ref D), some (.ref En), some (.ref M), some x, some (.ref Em), some (.ref Al), y9, y10, some (.ref Cm), some (.str nm), some (.ref D2)] = [some (.ref R), y1, y2, some (.ref D), some (.ref En), some (.ref M), some x, some (.ref Em), some (.ref Al), y9, y10, some (.ref Cm), y12', y13'] ∧ Kp HC ∧ HC Al = some (.lst (as.map V.ref)) ∧ Prs HC as prs ∧ HC Cm = some (.lst (cs.map V.str)) ∧ cs.length ≤ 8 * i + (j + 1) := fun {HC} sC => ⟨cs, _, _, rfl, kp_same kpB sC, sC _ _ (sB _ _ eAA), Paired.mapP pAA fun a pr z => sC.tup (sB.tup z), sC _ _ (sB _ _ eCA), by omega⟩
              refine ⟨_, rfl, _, rfl, Cm, _, rfl, .inl (SqL.of (sB _ _ eCA)), rfl, flat_strs _, _, rfl, ?_⟩
              refine ite2 (fun c1 => ?_) (fun c1 => ?_)
              · refine ⟨_, rfl, D2, rfl, ⟨_, SqL.of eB⟩, fun D3 hD3 => comp_boolsL (zs := zs) [some (.ref Cm)] (fun z => decide (z ∈ cs)) rfl (SqL.of eB) (by omega) hD3 (fun z _ H5 Qy s5 hq => ?_) fun HC sC eC => ?_⟩
                · refine ⟨_, rfl, _, rfl, Cm, _, rfl, .inl (SqL.of (s5 _ _ (sB _ _ eCA))), rfl, flat_strs _, ?_⟩
                  rw [inV_str]
                  exact hq
                · refine ⟨D3, _, rfl, SqL.of eC, _, rfl, ?_⟩
                  refine ite2 (fun c2 => ?_) (fun c2 => ?_)
                  · have eCC := sC _ _ (sB _ _ eCA)
                    refine ⟨_, rfl, .inl ⟨rfl, _, SqL.of eCC⟩, _, rfl, Cm, _, _, rfl, rfl, eCC, fits' (by rw [List.length_map]; omega), ?_⟩
                    exact ⟨cs ++ [nm], _, _, rfl, kp_cm (kp_same kpB sC), by rw [upd_ne nCA]; exact sC _ _ (sB _ _ eAA), Paired.mapP pAA fun a pr z => sqt_upd eCC (sC.tup (sB.tup z)), by rw [upd_same, List.map_append]; rfl, by rw [List.length_append]; simp; omega⟩
                  · exact noAdd sC
              · refine iteF ?_
                exact noAdd fun _ _ h => h
          · rintro σ HA ⟨cs, y12, y13, rfl, kpA, eAA, pAA, eCA, lCA⟩
            rw [List.length_map, hdl] at lCA
            exact ⟨cs, _, _, _, _, _, _, _, rfl, kpA, eAA, pAA, eCA, by omega⟩
        · rintro σ H9 ⟨cs, y1, y2, y6, y9, y10, y12, y13, rfl, kp9, eA9, pA9, eC9, lC9⟩
          refine ⟨_, rfl, D, rfl, ⟨_, SqL.of kp9.2.1⟩, fun D3 hD3 => comp_boolsL (zs := hd rules) [some (.ref En), some (.ref M), some (.ref Cm)] (fun z => decide (z ∈ endedM true rules) && (decide (z ∈ ms) && decide (z ∈ cs))) rfl (SqL.of kp9.2.1) (by omega) hD3 (fun z _ H5 Qy s5 hq => ?_) fun HC sC eC => ?_⟩
          · refine ⟨_, rfl, _, rfl, En, _, rfl, .inl (SqL.of (s5 _ _ kp9.2.2.1)), rfl, flat_strs _, _, rfl, ?_⟩
            rw [inV_str]
            show if decide (z ∈ endedM true rules) = true then _ else _
            refine ite2 (fun c => ?_) (fun c => ?_)
            · rw [c, Bool.true_and] at hq
              refine ⟨_, rfl, _, rfl, M, _, rfl, .inl (SqL.of (s5 _ _ kp9.2.2.2.1)), rfl, flat_strs _, _, rfl, ?_⟩
              rw [inV_str]
              show if decide (z ∈ ms) = true then _ else _
              refine ite2 (fun c => ?_) (fun c => ?_)
              · rw [c, Bool.true_and] at hq
                refine ⟨_, rfl, _, rfl, Cm, _, rfl, .inl (SqL.of (s5 _ _ eC9)), rfl, flat_strs _, ?_⟩
                rw [inV_str]
                exact hq
              · have c' : decide (z ∈ ms) = false := by simpa using c
                rw [c', Bool.false_and] at hq
                exact hq
            · have c' : decide (z ∈ endedM true rules) = false := by simpa using c
              rw [c', Bool.false_and] at hq
              exact hq
          · refine ⟨D3, _, rfl, SqL.of eC, ?_⟩
            rw [all_map]
            refine q _ _ (kp9.1.trans sC) fun hb z hz => ?_
            have := List.all_eq_true.mp hb z hz
            exact of_decide_eq_true (Bool.and_eq_true_iff.mp this).1
end
end K11
namespace M11
open PySem
def m0 : List Rule := [("s", ["s", "a", "s"]), ("s", ["b"])]
def m1 : List Rule := [("s", ["t", "a"]), ("s", ["b"]), ("t", ["b"])]
def m2 : List Rule := [("s", ["a", "s", "b"]), ("s", [])]
def m3 : List Rule := [("s", ["t", "u"]), ("t", ["a"]), ("t", []), ("u", ["b", "u"]), ("u", ["c"])]
def m4 : List Rule := [("s", ["a", "s"]), ("s", ["a", "s", "b", "s"]), ("s", ["c"])]
def m5 : List Rule := [("s", ["s", "a", "t"]), ("s", ["t"]), ("t", ["t", "b", "u"]), ("t", ["u"]), ("u", ["c"])]
def m6 : List Rule := [("s", ["t", "a"]), ("s", ["b", "t", "c"]), ("s", ["u", "c"]), ("s", ["b", "u", "a"]), ("t", ["c"])]
def m6b : Rule := ("u", ["c"])
def m7 : List Rule := [("s", ["t", "a", "s"]), ("s", ["t"]), ("t", ["u"]), ("u", ["v"]), ("v", ["w"])]
def m7b : List Rule := [("w", ["c"]), ("w", ["b", "s", "b"])]
def mns : List (List Rule) := [m0, m1, m2, m3, m4, m5, m6 ++ [m6b], m7 ++ m7b]
def prm : List (List Nat) := [[0, 1, 2], [1, 2, 0], [2, 0, 1], [0, 2, 1], [1, 0, 2], [2, 1, 0]]
def tab (n0 w0 w1 w2 : Str) : List (Str × Str) := [("s", n0), ("t", ("t" : Str) ++ n0), ("u", ("u" : Str) ++ n0), ("v", ("v" : Str) ++ n0), ("w", ("w" : Str) ++ n0), ("a", w0), ("b", w1), ("c", w2)]
def kf (tb : List (Str × Str)) (z : Str) : Str := ((tb.find? fun p => decide (p.1 = z)).map (·.2)).getD ""
def ren (tb : List (Str × Str)) (rs : List Rule) : List Rule := rs.map fun ru => (kf tb ru.1, ru.2.map (kf tb))
def allEnded (rules : List Rule) : Bool := (rules.map (·.1)).all fun z => decide (z ∈ endedM true rules)
def tabOf (n0 : Str) (ws : List Str) (p : List Nat) : List (Str × Str) := tab n0 (ws.getD (p.getD 0 0) "") (ws.getD (p.getD 1 0) "") (ws.getD (p.getD 2 0) "")
def signs : List Str := ["s", "t", "u", "v", "w", "a", "b", "c"]
end M11
namespace K11
open PySem L2 M11
def n0s (i j : Nat) : Str := (nmJ i j).getD 0 ""
theorem made_all : ∀ i, i < 3 → ∀ j, j < 3 → ∀ p ∈ prm, ∀ rs ∈ mns, allEnded (ren (tabOf (n0s i j) (wdL i) p) rs) = true := by decide +kernel
theorem made_small : ∀ rs ∈ mns, 1 ≤ rs.length ∧ rs.length ≤ 8 ∧ ∀ ru ∈ rs, ru.1 ∈ signs ∧ ru.2.length ≤ 4 ∧ (∀ z ∈ ru.2, z ∈ signs) ∧ ru.1 ∈ signs.take 5 := by decide +kernel
end K11
namespace L2
open PySem
theorem PE.weaken {X : Cx} {e : Expr} {t t' : TE} (h : PE X e t) (k : ∀ σ H Q, t' σ H Q → t σ H Q) : PE X e t' := fun pins s σ H Q I q => h pins s σ H Q I (k σ H Q q)
theorem PA.weaken {X : Cx} {es : List Expr} {t t' : TA} (h : PA X es t) (k : ∀ σ H Q, t' σ H Q → t σ H Q) : PA X es t' := fun pos pins s σ H Q I q => h pos pins s σ H Q I (k σ H Q q)
def tStrs (zs : List Str) : TA := fun _ H Q => Q (zs.map V.str) H
def PStrs (X : Cx) (es : List Expr) (zs : List Str) : Prop := PA X es (tStrs zs)
theorem pstr_nil {X : Cx} : PStrs X [] [] := pa_nil
theorem pstr_cons {X : Cx} {x : Str} {j : Nat} {p : Pos} {es : List Expr} {zs : List Str} (h : PStrs X es zs) (hs : starEach (.Constant (.str x) j p :: es) X.env = (false, eval (.Constant (.str x) j p) X.env) :: starEach es X.env := by rfl) : PStrs X (.Constant (.str x) j p :: es) (x :: zs) := pa_cons (pe_str (X := X)) h hs
def PInts (X : Cx) (es : List Expr) (zs : List Int) : Prop := PA X es (fun _ H Q => Q (zs.map V.int) H)
theorem pint_nil {X : Cx} : PInts X [] [] := pa_nil
theorem pint_cons {X : Cx} {x : Int} {j : Nat} {p : Pos} {es : List Expr} {zs : List Int} (h : PInts X es zs) (hs : starEach (.Constant (.int x) j p :: es) X.env = (false, eval (.Constant (.int x) j p) X.env) :: starEach es X.env := by rfl) : PInts X (.Constant (.int x) j p :: es) (x :: zs) := pa_cons (pe_int (X := X)) h hs
def PIls (X : Cx) (es : List Expr) (zss : List (List Int)) : Prop := PA X es fun _ H Q => ∀ as H', Same H H' → Paired (fun a zs => H' a = some (.lst (zs.map V.int))) as zss → Q (as.map V.ref) H'
theorem pil_nil {X : Cx} : PIls X [] [] := PA.weaken pa_nil fun σ H Q q => q [] H (Same.refl _) .nil
theorem pil_cons {X : Cx} {es es2 : List Expr} {p : Pos} {zs : List Int} {zss : List (List Int)} (h : PInts X es zs) (h2 : PIls X es2 zss) (hl : zs.length ≤ sizeLine) (hs : starEach (.List es p :: es2) X.env = (false, eval (.List es p) X.env) :: starEach es2 X.env := by rfl) : PIls X (.List es p :: es2) (zs :: zss) := by
  refine PA.weaken (pa_cons (pe_lst h) h2 hs) fun σ H Q q => ?_
  refine ⟨by rw [List.length_map]; exact hl, fun a ha as H' s pr => ?_⟩
  exact q (a :: as) H' ((same_laid ha _).trans s) (.cons (s _ _ upd_same) pr)
end L2
namespace K11
open PySem L2 M11
section
variable {X : Cx} {K : PySem.W.Frag}
def PRule (X : Cx) (K : PySem.W.Frag) (e : Expr) (ru : Rule) : Prop := PE X e fun _ H Q => ∀ a H', Same H H' → RuleV K H' a ru → Q (.ref a) H'
theorem pl_rule {x : Str} {j k1 k2 : Nat} {p p2 p3 : Pos} {es : List Expr} {zs : List Str} (h : PStrs X es zs) (hl : zs.length ≤ sizeLine := by decide)
    (hs : starEach [.Constant (.str x) j p, .Tuple es k1 p2] X.env = (false, eval (.Constant (.str x) j p) X.env) :: starEach [.Tuple es k1 p2] X.env := by rfl) (hs2 : starEach [.Tuple es k1 p2] X.env = (false, eval (.Tuple es k1 p2) X.env) :: starEach [] X.env := by rfl) :
    PRule X K (.Tuple [.Constant (.str x) j p, .Tuple es k1 p2] k2 p3) (x, zs) := by
  refine PE.weaken (pe_tup (pa_cons pe_str (pa_cons (pe_tup h) pa_nil hs2) hs)) fun σ H Q q => ?_
  refine ⟨by rw [List.length_map]; exact hl, fun a ha => ⟨(by show 2 ≤ sizeLine; decide), fun b hb => ?_⟩⟩
  exact q b _ ((same_laid ha _).trans (same_laid hb _)) ⟨a, SqT.of upd_same, (same_laid hb _).tup (SqT.of upd_same)⟩
def PRules (X : Cx) (K : PySem.W.Frag) (es : List Expr) (rus : List Rule) : Prop := PA X es fun _ H Q => ∀ as H', Same H H' → Rules K H' as rus → Q (as.map V.ref) H'
theorem pls_nil : PRules X K [] [] := PA.weaken pa_nil fun σ H Q q => q [] H (Same.refl _) .nil
theorem pls_cons {e : Expr} {es : List Expr} {ru : Rule} {rus : List Rule} (h : PRule X K e ru) (h2 : PRules X K es rus) (hs : starEach (e :: es) X.env = (false, eval e X.env) :: starEach es X.env := by rfl) : PRules X K (e :: es) (ru :: rus) :=
  PA.weaken (pa_cons h h2 hs) fun σ H Q q a H1 s1 r1 as H2 s2 r2 => q (a :: as) H2 (s1.trans s2) (.cons (let ⟨p, x, y⟩ := r1; ⟨p, s2.tup x, s2.tup y⟩) r2)
def tRL (K : PySem.W.Frag) (rus : List Rule) : TE := fun _ H Q => ∀ L as H', H L = none → Same H H' → H' L = some (.lst (as.map V.ref)) → Rules K H' as rus → Q (.ref L) H'
theorem pl_list {es : List Expr} {rus : List Rule} {p : Pos} (h : PRules X K es rus) (hl : rus.length ≤ sizeLine := by decide) : PE X (.List es p) (tRL K rus) :=
  PE.weaken (pe_lst h) fun σ H Q q as H' s r => ⟨by rw [List.length_map, Paired.length r]; exact hl, fun L hL => q L as _ (s.free hL) (s.trans (same_laid hL _)) upd_same (r.same (same_laid hL _))⟩
def tIL (zss : List (List Int)) : TE := fun _ H Q => ∀ L as H', Same H H' → H' L = some (.lst (as.map V.ref)) → Paired (fun a zs => H' a = some (.lst (zs.map V.int))) as zss → Q (.ref L) H'
theorem pil_list {es : List Expr} {zss : List (List Int)} {p : Pos} (h : PIls X es zss) (hl : zss.length ≤ sizeLine := by decide) : PE X (.List es p) (tIL zss) :=
  PE.weaken (pe_lst h) fun σ H Q q as H' s r => ⟨by rw [List.length_map, Paired.length r]; exact hl, fun L hL => q L as _ (s.trans (same_laid hL _)) upd_same (Paired.mapP r fun a zs z => same_laid hL _ _ _ z)⟩
end
def Mn (K : PySem.W.Frag) (H : Hp) (Ls : List Addr) (rss : List (List Rule)) : Prop := Paired (fun L rus => ∃ as, H L = some (.lst (as.map V.ref)) ∧ Rules K H as rus) Ls rss
theorem Mn.same {K : PySem.W.Frag} {H H' : Hp} {Ls : List Addr} {rss : List (List Rule)} (m : Mn K H Ls rss) (s : Same H H') : Mn K H' Ls rss := Paired.mapP m fun L rus ⟨as, e, r⟩ => ⟨as, s _ _ e, r.same s⟩
theorem Mn.upd {K : PySem.W.Frag} {H : Hp} {D : Addr} {ys : List V} {o : HO} : ∀ {Ls : List Addr} {rss : List (List Rule)}, Mn K H Ls rss → D ∉ Ls → H D = some (.lst ys) → Mn K (upd H D o) Ls rss
  | _, _, .nil, _, _ => .nil
  | _, _, .cons ⟨as, e, r⟩ t, n, h => .cons ⟨as, by rw [upd_ne (fun z => n (by rw [z]; exact List.mem_cons_self))]; exact e, r.keep fun a xs z => sqt_upd h z⟩ (Mn.upd t (fun z => n (List.mem_cons_of_mem _ z)) h)
theorem Mn.fresh {K : PySem.W.Frag} {H : Hp} {L : Addr} : ∀ {Ls : List Addr} {rss : List (List Rule)}, Mn K H Ls rss → H L = none → L ∉ Ls
  | _, _, .nil, _, h => by cases h
  | _, _, .cons ⟨as, e, r⟩ t, n, h => by
    rcases List.mem_cons.mp h with z | z
    · rw [← z, n] at e; cases e
    · exact Mn.fresh t n z
structure Menu (K : PySem.W.Frag) (H0 H : Hp) (M : Addr) (Ls : List Addr) (rss : List (List Rule)) : Prop where
  sm : Same H0 H
  fr : H0 M = none
  em : H M = some (.lst (Ls.map V.ref))
  nm : M ∉ Ls
  mn : Mn K H Ls rss
theorem Menu.add {K : PySem.W.Frag} {H0 H H' : Hp} {M L : Addr} {Ls as : List Addr} {rss : List (List Rule)} {rus : List Rule} (m : Menu K H0 H M Ls rss) (fL : H L = none) (s : Same H H') (e : H' L = some (.lst (as.map V.ref))) (r : Rules K H' as rus) :
    Menu K H0 (upd H' M (.lst (Ls.map V.ref ++ [.ref L]))) M (Ls ++ [L]) (rss ++ [rus]) := by
  have eM := s _ _ m.em
  have nL : L ≠ M := fun z => by rw [z, m.em] at fL; cases fL
  refine ⟨fun b o hb => ?_, m.fr, by rw [upd_same, List.map_append]; rfl, fun z => ?_, Paired.snoc ((m.mn.same s).upd m.nm eM) ⟨as, by rw [upd_ne nL]; exact e, r.keep fun a xs z => sqt_upd eM z⟩⟩
  · rw [upd_ne (fun z => by rw [z, m.fr] at hb; cases hb)]
    exact s _ _ (m.sm b o hb)
  · rcases List.mem_append.mp z with z | z
    · exact m.nm z
    · exact nL (List.mem_singleton.mp z).symm
theorem Menu.same {K : PySem.W.Frag} {H0 H H' : Hp} {M : Addr} {Ls : List Addr} {rss : List (List Rule)} (m : Menu K H0 H M Ls rss) (s : Same H H') : Menu K H0 H' M Ls rss := ⟨m.sm.trans s, m.fr, s _ _ m.em, m.nm, m.mn.same s⟩
theorem last_ix (n : Nat) : ixN (n + 1) (-1) = some n := by
  unfold ixN
  rw [if_neg (by decide), if_pos (by omega)]
  congr 1
  omega
theorem last_at (Ls : List Addr) (L : Addr) : atI ((Ls ++ [L]).map V.ref) (-1) = some (.ref L) := by
  unfold atI
  have l : ((Ls ++ [L]).map V.ref).length = Ls.length + 1 := by simp
  rw [l, last_ix]
  simp
def kvT (tb : List (Str × Str)) : List (Key × V) := tb.map fun p => ((Sum.inr p.1 : Key), V.str p.2)
theorem kvT_get : ∀ (tb : List (Str × Str)) (z : Str), z ∈ tb.map (·.1) → valV (kvT tb) (Sum.inr z) = some (.str (kf tb z))
  | [], z, h => by cases h
  | (y, v) :: r, z, h => by
    by_cases c : y = z
    · subst c
      show valV (((Sum.inr y : Key), V.str v) :: kvT r) (Sum.inr y) = _
      rw [valV_pos rfl]
      unfold kf
      simp
    · have h2 : z ∈ r.map (·.1) := by
        rcases List.mem_cons.mp h with e | e
        · exact absurd e.symm c
        · exact e
      show valV (((Sum.inr y : Key), V.str v) :: kvT r) (Sum.inr z) = _
      rw [valV_neg (fun e => c (Sum.inr.inj e)), kvT_get r z h2]
      unfold kf
      rw [List.find?_cons]
      simp [c]
theorem tab_keys (n0 w0 w1 w2 : Str) : (tab n0 w0 w1 w2).map (·.1) = signs := rfl
theorem tab_step (n0 w0 w1 w2 : Str) : ∀ (i c : Nat), ("tuvw" : Str).cps[i]? = some c → putK (kvT ((tab n0 w0 w1 w2).take (1 + i))) (Sum.inr ⟨#[c]⟩) (.str ((⟨#[c]⟩ : Str) ++ n0)) = kvT ((tab n0 w0 w1 w2).take (1 + (i + 1)))
  | 0, c, h => by
    have e : ("tuvw" : Str).cps[0]? = some 116 := by decide +kernel
    rw [e] at h; cases h
    kernel_rfl
  | 1, c, h => by
    have e : ("tuvw" : Str).cps[1]? = some 117 := by decide +kernel
    rw [e] at h; cases h
    kernel_rfl
  | 2, c, h => by
    have e : ("tuvw" : Str).cps[2]? = some 118 := by decide +kernel
    rw [e] at h; cases h
    kernel_rfl
  | 3, c, h => by
    have e : ("tuvw" : Str).cps[3]? = some 119 := by decide +kernel
    rw [e] at h; cases h
    kernel_rfl
  | i + 4, c, h => by
    have e : ("tuvw" : Str).cps.size = 4 := by decide +kernel
    have := (Array.getElem?_eq_some_iff.mp h).1
    omega
theorem tab_end (n0 w0 w1 w2 : Str) : mergeK (kvT ((tab n0 w0 w1 w2).take 5)) [((Sum.inr "a" : Key), V.str w0), (Sum.inr "b", V.str w1), (Sum.inr "c", V.str w2)] = kvT (tab n0 w0 w1 w2) := by kernel_rfl
theorem tab_lit (w0 w1 w2 : Str) : mergeK [] [((Sum.inr "a" : Key), V.str w0), (Sum.inr "b", V.str w1), (Sum.inr "c", V.str w2)] = [((Sum.inr "a" : Key), V.str w0), (Sum.inr "b", V.str w1), (Sum.inr "c", V.str w2)] := by kernel_rfl
theorem tab_one (n0 w0 w1 w2 : Str) : mergeK [] [((Sum.inr "s" : Key), V.str n0)] = kvT ((tab n0 w0 w1 w2).take (1 + 0)) := by kernel_rfl
end K11
namespace L2
open PySem
theorem pi_tupK {X : Cx} {tg l : Expr} {tl : TE} (K : PySem.W.Frag) (hl : PE X l tl) (hK : X.K = K := by rfl) : PI X tg l (iTup K tl) := by
  subst hK
  exact pi_tup hl
theorem call_tuple_ofK {X : Cx} (K : PySem.W.Frag) (hK : X.K = K := by rfl) : CallR X (.type "tuple") (fun xs H Q => ∃ p ys, xs = [.ref p] ∧ ((SqL K H p ys ∧ ∀ l, H l = none → Q (.ref l) (upd H l (.tup ys))) ∨ (SqT K H p ys ∧ Q (.ref p) H))) := by
  subst hK
  exact call_tuple_of
end L2
namespace K11
open PySem L2 M11
abbrev prmI : List (List Int) := [[0, 1, 2], [1, 2, 0], [2, 0, 1], [0, 2, 1], [1, 0, 2], [2, 1, 0]]
theorem prm_is (r : Nat) (hr : r < 6) : ∃ p ∈ prm, prmI[r]? = some (p.map fun k : Nat => (k : Int)) ∧ p.length = 3 ∧ ∀ k ∈ p, k < 3 := by
  match r, hr with
  | 0, _ => exact ⟨[0, 1, 2], by decide, rfl, rfl, by decide⟩
  | 1, _ => exact ⟨[1, 2, 0], by decide, rfl, rfl, by decide⟩
  | 2, _ => exact ⟨[2, 0, 1], by decide, rfl, rfl, by decide⟩
  | 3, _ => exact ⟨[0, 2, 1], by decide, rfl, rfl, by decide⟩
  | 4, _ => exact ⟨[1, 0, 2], by decide, rfl, rfl, by decide⟩
  | 5, _ => exact ⟨[2, 1, 0], by decide, rfl, rfl, by decide⟩
theorem three {α : Type} : ∀ {l : List α}, l.length = 3 → ∃ a b c, l = [a, b, c]
  | [a, b, c], _ => ⟨a, b, c, rfl⟩
section
variable {P : Program} {w : World} {K : PySem.W.Frag} {mg : Str → Option Value} {base : Heap} {f : Addr} {fd : FuncData}
def spMade (K : PySem.W.Frag) : Sp := fun vs H Q _ => ∃ (c : Int) (N W : Addr) (nms : List Str) (i j : Nat), vs = [.int c, .ref N, .ref W] ∧ i < 3 ∧ j < 3 ∧ H N = some (.lst (nms.map V.str)) ∧ nms[0]? = some (n0s i j) ∧ H W = some (.lst ((wdL i).map V.str)) ∧
  ∀ (R : Addr) (rs : List Addr) (rules : List Rule) (H' : Hp), H R = none → Same H H' → H' R = some (.lst (rs.map V.ref)) → Rules K H' rs rules → Small rules → (∀ z ∈ hd rules, z ∈ endedM true rules) → Q (.ref R) H'
abbrev NM : List Str := ["_law_cell", "_law_names", "_law_pool_here", "_law_menu", "_law_rules_here", "_law_turned", "_law_words", "_law_known", "_law_one"]
theorem scMade : FnScope NM ["_law_cell", "_law_names", "_law_pool_here"] (defScope sMade) := ⟨rfl, rfl, rfl, by decide +kernel, rfl, by decide +kernel, by decide +kernel⟩
theorem n0_short {i j : Nat} (hi : i < 3) (hj : j < 3) : (n0s i j).length ≤ 10 := by
  have : ∀ i, i < 3 → ∀ j, j < 3 → (n0s i j).length ≤ 10 := by decide +kernel
  exact this i hi j hj
theorem ok_made (F : Fun K "_law_made_rules" "_law_made_rules" sMade f fd) (T : Txt mg) (GP : CalleeD P w K mg base 1 "_law_part" ["_law_cell", "_law_k", "_law_many"] spPart) : FnOk P w K mg base CX0 2 f fd ["_law_cell", "_law_names", "_law_pool_here"] (spMade K) := by
  refine F.ok scMade (fun vs H Q E h => ?_) (fun cdv A outer s H vs Q E hr h => ?_)
  · obtain ⟨c, N, W, nms, i, j, rfl, _⟩ := h; rfl
  · obtain ⟨c, N, W, nms, i, j, rfl, hi, hj, hN, hn0, hW, q⟩ := h
    have hu := hu_of hr
    refine ⟨_, @pss_cons _ _ _ _ _ (@ps_set _ _ 3 _ _ _ _ scMade.nd rfl (Or.inl rfl) (@pe_lst _ _ _ _ (@pa_cons _ _ _ _ _ (@pl_list _ K _ m0 _ (@pls_cons _ _ _ _ _ _ (@pl_rule _ _ _ _ _ _ _ _ _ _ _ (@pstr_cons _ _ _ _ _ _ (@pstr_cons _ _ _ _ _ _ (@pstr_cons _ _ _ _ _ _ (@pstr_nil _) rfl) rfl) rfl) (by decide) rfl rfl) (@pls_cons _ _ _ _ _ _ (@pl_rule _ _ _ _ _ _ _ _ _ _ _ (@pstr_cons _ _ _ _ _ _ (@pstr_nil _) rfl) (by decide) rfl rfl) (@pls_nil _ _) rfl) rfl) (by decide)) (@pa_cons _ _ _ _ _ (@pl_list _ K _ m1 _ (@pls_cons _ _ _ _ _ _ (@pl_rule _ _ _ _ _ _ _ _ _ _ _ (@pstr_cons _ _ _ _ _ _ (@pstr_cons _ _ _ _ _ _ (@pstr_nil _) rfl) rfl) (by decide) rfl rfl) (@pls_cons _ _ _ _ _ _ (@pl_rule _ _ _ _ _ _ _ _ _ _ _ (@pstr_cons _ _ _ _ _ _ (@pstr_nil _) rfl) (by decide) rfl rfl) (@pls_cons _ _ _ _ _ _ (@pl_rule _ _ _ _ _ _ _ _ _ _ _ (@pstr_cons _ _ _ _ _ _ (@pstr_nil _) rfl) (by decide) rfl rfl) (@pls_nil _ _) rfl) rfl) rfl) (by decide)) (@pa_nil _) rfl) rfl)) rfl (.inr rfl))
      (@pss_cons _ _ _ _ _ (@ps_expr _ _ _ _ (@pe_bm _ _ _ _ _ _ _ _ _ _ _ _ PySem.F.plainAttrs_list PySem.F.slot_list_append PySem.F.type_list_append mt_append (pv 3) (@pa_cons _ _ _ _ _ (@pl_list _ K _ m2 _ (@pls_cons _ _ _ _ _ _ (@pl_rule _ _ _ _ _ _ _ _ _ _ _ (@pstr_cons _ _ _ _ _ _ (@pstr_cons _ _ _ _ _ _ (@pstr_cons _ _ _ _ _ _ (@pstr_nil _) rfl) rfl) rfl) (by decide) rfl rfl) (@pls_cons _ _ _ _ _ _ (@pl_rule _ _ _ _ _ _ _ _ _ _ _ (@pstr_nil _) (by decide) rfl rfl) (@pls_nil _ _) rfl) rfl) (by decide)) (@pa_nil _) rfl) rfl rfl rfl rfl rfl) rfl)
      (@pss_cons _ _ _ _ _ (@ps_expr _ _ _ _ (@pe_bm _ _ _ _ _ _ _ _ _ _ _ _ PySem.F.plainAttrs_list PySem.F.slot_list_append PySem.F.type_list_append mt_append (pv 3) (@pa_cons _ _ _ _ _ (@pl_list _ K _ m3 _ (@pls_cons _ _ _ _ _ _ (@pl_rule _ _ _ _ _ _ _ _ _ _ _ (@pstr_cons _ _ _ _ _ _ (@pstr_cons _ _ _ _ _ _ (@pstr_nil _) rfl) rfl) (by decide) rfl rfl) (@pls_cons _ _ _ _ _ _ (@pl_rule _ _ _ _ _ _ _ _ _ _ _ (@pstr_cons _ _ _ _ _ _ (@pstr_nil _) rfl) (by decide) rfl rfl) (@pls_cons _ _ _ _ _ _ (@pl_rule _ _ _ _ _ _ _ _ _ _ _ (@pstr_nil _) (by decide) rfl rfl) (@pls_cons _ _ _ _ _ _ (@pl_rule _ _ _ _ _ _ _ _ _ _ _ (@pstr_cons _ _ _ _ _ _ (@pstr_cons _ _ _ _ _ _ (@pstr_nil _) rfl) rfl) (by decide) rfl rfl) (@pls_cons _ _ _ _ _ _ (@pl_rule _ _ _ _ _ _ _ _ _ _ _ (@pstr_cons _ _ _ _ _ _ (@pstr_nil _) rfl) (by decide) rfl rfl) (@pls_nil _ _) rfl) rfl) rfl) rfl) rfl) (by decide)) (@pa_nil _) rfl) rfl rfl rfl rfl rfl) rfl)
      (@pss_cons _ _ _ _ _ (@ps_expr _ _ _ _ (@pe_bm _ _ _ _ _ _ _ _ _ _ _ _ PySem.F.plainAttrs_list PySem.F.slot_list_append PySem.F.type_list_append mt_append (pv 3) (@pa_cons _ _ _ _ _ (@pl_list _ K _ m4 _ (@pls_cons _ _ _ _ _ _ (@pl_rule _ _ _ _ _ _ _ _ _ _ _ (@pstr_cons _ _ _ _ _ _ (@pstr_cons _ _ _ _ _ _ (@pstr_nil _) rfl) rfl) (by decide) rfl rfl) (@pls_cons _ _ _ _ _ _ (@pl_rule _ _ _ _ _ _ _ _ _ _ _ (@pstr_cons _ _ _ _ _ _ (@pstr_cons _ _ _ _ _ _ (@pstr_cons _ _ _ _ _ _ (@pstr_cons _ _ _ _ _ _ (@pstr_nil _) rfl) rfl) rfl) rfl) (by decide) rfl rfl) (@pls_cons _ _ _ _ _ _ (@pl_rule _ _ _ _ _ _ _ _ _ _ _ (@pstr_cons _ _ _ _ _ _ (@pstr_nil _) rfl) (by decide) rfl rfl) (@pls_nil _ _) rfl) rfl) rfl) (by decide)) (@pa_nil _) rfl) rfl rfl rfl rfl rfl) rfl)
      (@pss_cons _ _ _ _ _ (@ps_expr _ _ _ _ (@pe_bm _ _ _ _ _ _ _ _ _ _ _ _ PySem.F.plainAttrs_list PySem.F.slot_list_append PySem.F.type_list_append mt_append (pv 3) (@pa_cons _ _ _ _ _ (@pl_list _ K _ m5 _ (@pls_cons _ _ _ _ _ _ (@pl_rule _ _ _ _ _ _ _ _ _ _ _ (@pstr_cons _ _ _ _ _ _ (@pstr_cons _ _ _ _ _ _ (@pstr_cons _ _ _ _ _ _ (@pstr_nil _) rfl) rfl) rfl) (by decide) rfl rfl) (@pls_cons _ _ _ _ _ _ (@pl_rule _ _ _ _ _ _ _ _ _ _ _ (@pstr_cons _ _ _ _ _ _ (@pstr_nil _) rfl) (by decide) rfl rfl) (@pls_cons _ _ _ _ _ _ (@pl_rule _ _ _ _ _ _ _ _ _ _ _ (@pstr_cons _ _ _ _ _ _ (@pstr_cons _ _ _ _ _ _ (@pstr_cons _ _ _ _ _ _ (@pstr_nil _) rfl) rfl) rfl) (by decide) rfl rfl) (@pls_cons _ _ _ _ _ _ (@pl_rule _ _ _ _ _ _ _ _ _ _ _ (@pstr_cons _ _ _ _ _ _ (@pstr_nil _) rfl) (by decide) rfl rfl) (@pls_cons _ _ _ _ _ _ (@pl_rule _ _ _ _ _ _ _ _ _ _ _ (@pstr_cons _ _ _ _ _ _ (@pstr_nil _) rfl) (by decide) rfl rfl) (@pls_nil _ _) rfl) rfl) rfl) rfl) rfl) (by decide)) (@pa_nil _) rfl) rfl rfl rfl rfl rfl) rfl)
      (@pss_cons _ _ _ _ _ (@ps_expr _ _ _ _ (@pe_bm _ _ _ _ _ _ _ _ _ _ _ _ PySem.F.plainAttrs_list PySem.F.slot_list_append PySem.F.type_list_append mt_append (pv 3) (@pa_cons _ _ _ _ _ (@pl_list _ K _ m6 _ (@pls_cons _ _ _ _ _ _ (@pl_rule _ _ _ _ _ _ _ _ _ _ _ (@pstr_cons _ _ _ _ _ _ (@pstr_cons _ _ _ _ _ _ (@pstr_nil _) rfl) rfl) (by decide) rfl rfl) (@pls_cons _ _ _ _ _ _ (@pl_rule _ _ _ _ _ _ _ _ _ _ _ (@pstr_cons _ _ _ _ _ _ (@pstr_cons _ _ _ _ _ _ (@pstr_cons _ _ _ _ _ _ (@pstr_nil _) rfl) rfl) rfl) (by decide) rfl rfl) (@pls_cons _ _ _ _ _ _ (@pl_rule _ _ _ _ _ _ _ _ _ _ _ (@pstr_cons _ _ _ _ _ _ (@pstr_cons _ _ _ _ _ _ (@pstr_nil _) rfl) rfl) (by decide) rfl rfl) (@pls_cons _ _ _ _ _ _ (@pl_rule _ _ _ _ _ _ _ _ _ _ _ (@pstr_cons _ _ _ _ _ _ (@pstr_cons _ _ _ _ _ _ (@pstr_cons _ _ _ _ _ _ (@pstr_nil _) rfl) rfl) rfl) (by decide) rfl rfl) (@pls_cons _ _ _ _ _ _ (@pl_rule _ _ _ _ _ _ _ _ _ _ _ (@pstr_cons _ _ _ _ _ _ (@pstr_nil _) rfl) (by decide) rfl rfl) (@pls_nil _ _) rfl) rfl) rfl) rfl) rfl) (by decide)) (@pa_nil _) rfl) rfl rfl rfl rfl rfl) rfl)
      (@pss_cons _ _ _ _ _ (@ps_expr _ _ _ _ (@pe_bm _ _ _ _ _ _ _ _ _ _ _ _ PySem.F.plainAttrs_list PySem.F.slot_list_append PySem.F.type_list_append mt_append (pe_ix ix_list (pv 3) (pe_un un_neg pe_int) (fun _ _ => rfl)) (@pa_cons _ _ _ _ _ (show PRule _ K _ m6b from (@pl_rule _ _ _ _ _ _ _ _ _ _ _ (@pstr_cons _ _ _ _ _ _ (@pstr_nil _) rfl) (by decide) rfl rfl)) (@pa_nil _) rfl) rfl rfl rfl rfl rfl) rfl)
      (@pss_cons _ _ _ _ _ (@ps_expr _ _ _ _ (@pe_bm _ _ _ _ _ _ _ _ _ _ _ _ PySem.F.plainAttrs_list PySem.F.slot_list_append PySem.F.type_list_append mt_append (pv 3) (@pa_cons _ _ _ _ _ (@pl_list _ K _ m7 _ (@pls_cons _ _ _ _ _ _ (@pl_rule _ _ _ _ _ _ _ _ _ _ _ (@pstr_cons _ _ _ _ _ _ (@pstr_cons _ _ _ _ _ _ (@pstr_cons _ _ _ _ _ _ (@pstr_nil _) rfl) rfl) rfl) (by decide) rfl rfl) (@pls_cons _ _ _ _ _ _ (@pl_rule _ _ _ _ _ _ _ _ _ _ _ (@pstr_cons _ _ _ _ _ _ (@pstr_nil _) rfl) (by decide) rfl rfl) (@pls_cons _ _ _ _ _ _ (@pl_rule _ _ _ _ _ _ _ _ _ _ _ (@pstr_cons _ _ _ _ _ _ (@pstr_nil _) rfl) (by decide) rfl rfl) (@pls_cons _ _ _ _ _ _ (@pl_rule _ _ _ _ _ _ _ _ _ _ _ (@pstr_cons _ _ _ _ _ _ (@pstr_nil _) rfl) (by decide) rfl rfl) (@pls_cons _ _ _ _ _ _ (@pl_rule _ _ _ _ _ _ _ _ _ _ _ (@pstr_cons _ _ _ _ _ _ (@pstr_nil _) rfl) (by decide) rfl rfl) (@pls_nil _ _) rfl) rfl) rfl) rfl) rfl) (by decide)) (@pa_nil _) rfl) rfl rfl rfl rfl rfl) rfl)
      (@pss_cons _ _ _ _ _ (@ps_asg _ _ _ _ _ _ (@pe_op _ _ _ _ _ _ _ _ op_cat (pe_ix ix_list (pv 3) (pe_un un_neg pe_int) (fun _ _ => rfl)) (@pl_list _ K _ m7b _ (@pls_cons _ _ _ _ _ _ (@pl_rule _ _ _ _ _ _ _ _ _ _ _ (@pstr_cons _ _ _ _ _ _ (@pstr_nil _) rfl) (by decide) rfl rfl) (@pls_cons _ _ _ _ _ _ (@pl_rule _ _ _ _ _ _ _ _ _ _ _ (@pstr_cons _ _ _ _ _ _ (@pstr_cons _ _ _ _ _ _ (@pstr_cons _ _ _ _ _ _ (@pstr_nil _) rfl) rfl) rfl) (by decide) rfl rfl) (@pls_nil _ _) rfl) rfl) (by decide))) (pg_sub (pv 3) (pe_un un_neg pe_int) set_list) rfl rfl rfl)
      (@pss_cons _ _ _ _ _ (ps_set (i := 4) scMade.nd rfl (Or.inl rfl) (pe_ix ix_list (pv 3) (pe_fn GP hr rfl (pa_cons (pv 0) (pa_cons pe_int (pa_cons (pe_callB call_len_seq rfl T.len PySem.boot_len (pa_cons (pv 3) pa_nil)) pa_nil)))) (fun _ _ => rfl)))
      (@pss_cons _ _ _ _ _ (@ps_set _ _ 5 _ _ _ _ scMade.nd rfl (Or.inl rfl) (@pe_ix _ _ _ _ _ _ _ ix_list (@pil_list _ _ prmI _ (@pil_cons _ _ _ _ _ _ (@pint_cons _ _ _ _ _ _ (@pint_cons _ _ _ _ _ _ (@pint_cons _ _ _ _ _ _ (@pint_nil _) rfl) rfl) rfl) (@pil_cons _ _ _ _ _ _ (@pint_cons _ _ _ _ _ _ (@pint_cons _ _ _ _ _ _ (@pint_cons _ _ _ _ _ _ (@pint_nil _) rfl) rfl) rfl) (@pil_cons _ _ _ _ _ _ (@pint_cons _ _ _ _ _ _ (@pint_cons _ _ _ _ _ _ (@pint_cons _ _ _ _ _ _ (@pint_nil _) rfl) rfl) rfl) (@pil_cons _ _ _ _ _ _ (@pint_cons _ _ _ _ _ _ (@pint_cons _ _ _ _ _ _ (@pint_cons _ _ _ _ _ _ (@pint_nil _) rfl) rfl) rfl) (@pil_cons _ _ _ _ _ _ (@pint_cons _ _ _ _ _ _ (@pint_cons _ _ _ _ _ _ (@pint_cons _ _ _ _ _ _ (@pint_nil _) rfl) rfl) rfl) (@pil_cons _ _ _ _ _ _ (@pint_cons _ _ _ _ _ _ (@pint_cons _ _ _ _ _ _ (@pint_cons _ _ _ _ _ _ (@pint_nil _) rfl) rfl) rfl) (@pil_nil _) (by decide) rfl) (by decide) rfl) (by decide) rfl) (by decide) rfl) (by decide) rfl) (by decide) rfl) (by decide)) (pe_fn GP hr rfl (pa_cons (pv 0) (pa_cons pe_int (pa_cons pe_int pa_nil)))) (fun _ _ => rfl)) rfl (.inr rfl))
      (@pss_cons _ _ _ _ _ (ps_setC (iy := 6) ["_law_k"] [(2, "_law_pool_here")] scMade.nd rfl rfl rfl (pi_list (pv 5)) (caps_of rfl rfl) (by decide +kernel) rfl (by decide +kernel)
          (fun _ _ _ _ _ => pg_name (i := 0) (show (["_law_k", "_law_pool_here"] : List Str).Nodup by decide +kernel) rfl (Or.inl rfl)) (fun _ _ _ _ _ => pif_nil) (fun _ _ _ _ _ => pe_ix (ix_listK K) (pv 1) (pv 0) (fun _ _ => rfl)))
      (@pss_cons _ _ _ _ _ (ps_set (i := 7) scMade.nd rfl (Or.inr rfl) (pe_disp (pps_cons pe_str (pe_ix ix_list (pv 1) pe_int (fun _ _ => rfl)) pps_nil) rfl rfl (by simp) (show 1 ≤ 15 by decide)))
      (@pss_cons _ _ _ _ _ (ps_for PassesOwn.never rfl (pi_str pe_str) (pg_name (i := 8) scMade.nd rfl (Or.inl rfl)) (pss_one (ps_dput hu (pv 7) (pv 8) (pe_op op_add_str (pv 8) (pe_ix ix_list (pv 1) pe_int (fun _ _ => rfl))) rfl)))
      (@pss_cons _ _ _ _ _ (ps_expr (pe_dupdD rfl (pv 7) (pe_disp (pps_cons pe_str (pe_ix ix_list (pv 6) pe_int (fun _ _ => rfl)) (pps_cons pe_str (pe_ix ix_list (pv 6) pe_int (fun _ _ => rfl)) (pps_cons pe_str (pe_ix ix_list (pv 6) pe_int (fun _ _ => rfl)) pps_nil))) rfl rfl (by simp) (show 3 ≤ 15 by decide)) ⟨rfl, rfl, rfl, rfl⟩))
      (pss_one (ps_ret (pe_compG ["_law_head", "_law_parts"] [(7, "_law_known")] rfl (pi_list (pv 4)) (caps_of rfl rfl) (by decide +kernel) rfl (by decide +kernel)
        (fun _ _ _ _ _ => pg_tupK (n := 2) K rfl (pgs_cons (pg_name (i := 0) (show (["_law_head", "_law_parts", "_law_known"] : List Str).Nodup by decide +kernel) rfl (Or.inl rfl)) (pgs_cons (pg_name (i := 1) (show (["_law_head", "_law_parts", "_law_known"] : List Str).Nodup by decide +kernel) rfl (Or.inl rfl)) pgs_nil))) (fun _ _ _ _ _ => pif_nil)
        (fun _ _ _ _ _ => pe_tup (pa_cons (pe_dget hu (pv 2) (pv 0) (fun _ _ => rfl)) (pa_cons (pe_callTy (call_tuple_ofK K) rfl T.tup PyProof.Rows.boot_tuple (pa_cons
          (pe_compG ["_law_part_here"] [(2, "_law_known")] rfl (pi_tupK K (pv 1)) (caps_of rfl rfl) (by decide +kernel) rfl (by decide +kernel)
            (fun _ _ _ _ _ => pg_name (i := 0) (show (["_law_part_here", "_law_known"] : List Str).Nodup by decide +kernel) rfl (Or.inl rfl)) (fun _ _ _ _ _ => pif_nil)
            (fun _ _ _ _ _ => pe_dget hu (pv 1) (pv 0) (fun _ _ => rfl))) pa_nil)) pa_nil)))))))))))))))))))), ?_⟩
    intro L0 as0 H1 f0 s1 e0 r0
    intro L1 as1 H2 f1 s2 e1 r1
    refine ⟨(by show 2 ≤ sizeLine; decide), fun M hM => ?_⟩
    have k3 := same_laid hM (.lst [.ref L0, .ref L1])
    have s03 := (s1.trans s2).trans k3
    have fM : H M = none := (s1.trans s2).free hM
    have mn2 : Menu K H (upd H2 M (.lst [.ref L0, .ref L1])) M [L0, L1] [m0, m1] := by
      refine ⟨s03, fM, upd_same, fun z => ?_, .cons ⟨as0, k3 _ _ (s2 _ _ e0), (r0.same s2).same k3⟩ (.cons ⟨as1, k3 _ _ e1, r1.same k3⟩ .nil)⟩
      rcases List.mem_cons.mp z with z | z
      · rw [z, s2 _ _ e0] at hM; cases hM
      · rw [List.mem_singleton.mp z, e1] at hM; cases hM
    generalize upd H2 M (.lst [.ref L0, .ref L1]) = H3 at mn2
    clear k3 s03 hM e0 e1 r0 r1 s1 s2
    refine goN ?_
    have step : ∀ {Ls : List Addr} {rss : List (List Rule)} {H3 : Hp} {rus : List Rule} {D : Ends} {σ : St} {B : Prop}, Menu K H H3 M Ls rss → True := fun _ => trivial
    clear step
    refine ⟨_, rfl, .inl ⟨rfl, _, SqL.of mn2.em⟩, fun L2 as2 H4 f2 s4 e2 r2 => ⟨M, _, _, rfl, rfl, s4 _ _ mn2.em, (by show 2 < sizeLine; decide), ?_⟩⟩
    have mn3 := mn2.add f2 s4 e2 r2
    generalize upd H4 M _ = H5 at mn3
    clear mn2 s4 e2 r2 f2
    refine ⟨_, rfl, .inl ⟨rfl, _, SqL.of mn3.em⟩, fun L3 as3 H6 f3 s6 e3 r3 => ⟨M, _, _, rfl, rfl, s6 _ _ mn3.em, (by show 3 < sizeLine; decide), ?_⟩⟩
    have mn4 := mn3.add f3 s6 e3 r3
    generalize upd H6 M _ = H7 at mn4
    clear mn3 s6 e3 r3 f3
    refine ⟨_, rfl, .inl ⟨rfl, _, SqL.of mn4.em⟩, fun L4 as4 H8 f4 s8 e4 r4 => ⟨M, _, _, rfl, rfl, s8 _ _ mn4.em, (by show 4 < sizeLine; decide), ?_⟩⟩
    have mn5 := mn4.add f4 s8 e4 r4
    generalize upd H8 M _ = H9 at mn5
    clear mn4 s8 e4 r4 f4
    refine ⟨_, rfl, .inl ⟨rfl, _, SqL.of mn5.em⟩, fun L5 as5 HA f5 sA e5 r5 => ⟨M, _, _, rfl, rfl, sA _ _ mn5.em, (by show 5 < sizeLine; decide), ?_⟩⟩
    have mn6 := mn5.add f5 sA e5 r5
    generalize upd HA M _ = HB at mn6
    clear mn5 sA e5 r5 f5
    refine ⟨_, rfl, .inl ⟨rfl, _, SqL.of mn6.em⟩, fun L6 as6 HC f6 sC e6 r6 => ⟨M, _, _, rfl, rfl, sC _ _ mn6.em, (by show 6 < sizeLine; decide), ?_⟩⟩
    have n6 : L6 ∉ [L0, L1] ++ [L2] ++ [L3] ++ [L4] ++ [L5] := mn6.mn.fresh f6
    have g6 : H L6 = none := mn6.sm.free f6
    have mn7 := mn6.add f6 sC e6 r6
    generalize upd HC M _ = HD at mn7
    clear mn6 sC e6 r6 f6
    obtain ⟨as6', e6', r6'⟩ : ∃ as, HD L6 = some (.lst (as.map V.ref)) ∧ Rules K HD as m6 := by
      obtain ⟨L, eL, as, z1, z2⟩ := Paired.at_ mn7.mn 6 m6 rfl
      cases eL
      exact ⟨as, z1, z2⟩
    have l6 := Paired.length r6'
    refine ⟨_, rfl, _, rfl, M, _, _, _, rfl, rfl, SqL.of mn7.em, last_at _ L6, .inl ⟨rfl, _, SqL.of e6'⟩, fun a6 HE sE v6 => ⟨L6, _, _, rfl, rfl, sE _ _ e6', fits' (by rw [List.length_map, l6]; decide), ?_⟩⟩
    have nM6 : M ≠ L6 := fun z => mn7.nm (by rw [z]; simp)
    have eL6 := sE _ _ e6'
    have mn8 : Menu K H (upd HE L6 (.lst (as6'.map V.ref ++ [.ref a6]))) M ([L0, L1] ++ [L2] ++ [L3] ++ [L4] ++ [L5] ++ [L6]) ([m0, m1] ++ [m2] ++ [m3] ++ [m4] ++ [m5] ++ [m6 ++ [m6b]]) := by
      refine ⟨fun b o hb => by rw [upd_ne (fun z => by rw [z, g6] at hb; cases hb)]; exact sE _ _ (mn7.sm b o hb), mn7.fr, by rw [upd_ne nM6]; exact sE _ _ mn7.em, mn7.nm, ?_⟩
      have m6s : Mn K HD ([L0, L1] ++ [L2] ++ [L3] ++ [L4] ++ [L5]) ([m0, m1] ++ [m2] ++ [m3] ++ [m4] ++ [m5]) := by
        have := mn7.mn
        cases this with | cons x0 t => cases t with | cons x1 t => cases t with | cons x2 t => cases t with | cons x3 t => cases t with | cons x4 t => cases t with | cons x5 t => exact .cons x0 (.cons x1 (.cons x2 (.cons x3 (.cons x4 (.cons x5 .nil)))))
      refine Paired.snoc ((m6s.same sE).upd n6 eL6) ⟨as6' ++ [a6], by rw [upd_same, List.map_append]; rfl, Paired.snoc ((r6'.same sE).keep fun a xs z => sqt_upd eL6 z) ?_⟩
      obtain ⟨p, x, y⟩ := v6
      exact ⟨p, sqt_upd eL6 x, sqt_upd eL6 y⟩
    generalize upd HE L6 (.lst (as6'.map V.ref ++ [.ref a6])) = HF at mn8
    clear mn7 e6' r6' l6 sE v6 nM6 eL6 n6 g6
    refine ⟨_, rfl, .inl ⟨rfl, _, SqL.of mn8.em⟩, fun L7 as7 HG f7 sG e7 r7 => ⟨M, _, _, rfl, rfl, sG _ _ mn8.em, (by show 7 < sizeLine; decide), ?_⟩⟩
    have mn9 := mn8.add f7 sG e7 r7
    generalize upd HG M _ = HI at mn9
    clear mn8 sG e7 r7 f7
    obtain ⟨as7', e7', r7'⟩ : ∃ as, HI L7 = some (.lst (as.map V.ref)) ∧ Rules K HI as m7 := by
      obtain ⟨L, eL, as, z1, z2⟩ := Paired.at_ mn9.mn 7 m7 rfl
      cases eL
      exact ⟨as, z1, z2⟩
    have l7 := Paired.length r7'
    refine ⟨_, rfl, _, rfl, M, _, _, _, rfl, rfl, SqL.of mn9.em, last_at _ L7, fun Lb asb HJ fb sJ eb rb => ?_⟩
    have lb := Paired.length rb
    refine ⟨L7, Lb, _, _, rfl, rfl, sJ _ _ e7', eb, fits (by rw [List.length_map, List.length_map, l7, lb]; decide), fun L8 hL8 => ?_⟩
    have kK := sJ.trans (same_laid hL8 (.lst (as7'.map V.ref ++ asb.map V.ref)))
    have mnK := mn9.same kK
    have e8 : upd HJ L8 (.lst (as7'.map V.ref ++ asb.map V.ref)) L8 = some (.lst ((as7' ++ asb).map V.ref)) := by rw [upd_same, List.map_append]
    have r8 : Rules K (upd HJ L8 (.lst (as7'.map V.ref ++ asb.map V.ref))) (as7' ++ asb) (m7 ++ m7b) := Paired.app' (r7'.same kK) (rb.same (same_laid hL8 _))
    have f8 : HI L8 = none := sJ.free hL8
    have nM8 : L8 ≠ M := fun z => by rw [z, mn9.em] at f8; cases f8
    generalize upd HJ L8 (.lst (as7'.map V.ref ++ asb.map V.ref)) = HK at kK mnK e8 r8
    refine ⟨_, rfl, _, rfl, M, _, _, _, rfl, rfl, mnK.em, (by rw [List.length_map]; exact last_ix 7), ?_⟩
    have mnL : Menu K H (upd HK M (.lst ((([L0, L1] ++ [L2] ++ [L3] ++ [L4] ++ [L5] ++ [L6] ++ [L7]).map V.ref).set 7 (.ref L8)))) M ([L0, L1] ++ [L2] ++ [L3] ++ [L4] ++ [L5] ++ [L6] ++ [L8]) mns := by
      refine ⟨fun b o hb => by rw [upd_ne (fun z => by rw [z, fM] at hb; cases hb)]; exact mnK.sm b o hb, fM, by rw [upd_same]; rfl, fun z => ?_, ?_⟩
      · rcases List.mem_append.mp z with z | z
        · exact mnK.nm (List.mem_append_left _ z)
        · exact nM8 (List.mem_singleton.mp z).symm
      · have m7s : Mn K HK ([L0, L1] ++ [L2] ++ [L3] ++ [L4] ++ [L5] ++ [L6]) ([m0, m1] ++ [m2] ++ [m3] ++ [m4] ++ [m5] ++ [m6 ++ [m6b]]) := by
          have := mnK.mn
          cases this with | cons x0 t => cases t with | cons x1 t => cases t with | cons x2 t => cases t with | cons x3 t => cases t with | cons x4 t => cases t with | cons x5 t => cases t with | cons x6 t => exact .cons x0 (.cons x1 (.cons x2 (.cons x3 (.cons x4 (.cons x5 (.cons x6 .nil))))))
        exact Paired.snoc (m7s.upd (fun z => mnK.nm (List.mem_append_left _ z)) mnK.em) ⟨as7' ++ asb, by rw [upd_ne nM8]; exact e8, r8.keep fun a xs z => sqt_upd mnK.em z⟩
    generalize upd HK M _ = HL at mnL
    clear mnK e8 r8 f8 nM8 hL8 mn9 rb eb sJ kK fb lb l7 r7' e7'
    refine ⟨_, rfl, _, rfl, _, rfl, M, _, rfl, .inl (SqL.of mnL.em), ?_⟩
    refine ⟨c, 1, 8, rfl, by decide, by decide, fun r hr8 => ?_⟩
    obtain ⟨rus, erus⟩ : ∃ rus, mns[r]? = some rus := ⟨mns[r]'(by show r < 8; exact hr8), List.getElem?_eq_getElem _⟩
    obtain ⟨Lr, eLr, asr, eR, rR⟩ := Paired.at_ mnL.mn r rus erus
    refine ⟨M, _, _, .ref Lr, rfl, rfl, SqL.of mnL.em, atI_nat (by rw [List.getElem?_map, eLr]; rfl), ?_⟩
    refine goN ?_
    have sL := mnL.sm
    have hrus := made_small rus (List.mem_of_getElem? erus)
    have hmd := fun (i : Nat) (hi : i < 3) (j : Nat) (hj : j < 3) (p : List Nat) (hp : p ∈ prm) => made_all i hi j hj p hp rus (List.mem_of_getElem? erus)
    clear mnL
    refine fun TT Ts HM sM eT pT => ⟨_, rfl, c, 2, 6, rfl, by decide, by decide, fun r2 hr6 => ?_⟩
    obtain ⟨p, hp, ep, lp, p3⟩ := prm_is r2 hr6
    obtain ⟨Tr, eTr, eP⟩ := Paired.at_ pT r2 _ ep
    refine ⟨TT, _, _, .ref Tr, rfl, rfl, SqL.of eT, atI_nat (by rw [List.getElem?_map, eTr]; rfl), ?_⟩
    refine goN ?_
    have sHM := sL.trans sM
    have eR2 := sM _ _ eR
    have rR2 := rR.same sM
    have wl := wd_len i
    have p4 : ∀ k ∈ p, k < (wdL i).length := fun k hk => by rw [wl]; exact p3 k hk
    refine ⟨_, rfl, Tr, rfl, ⟨_, SqL.of eP⟩, fun D1 hD1 => compG_list (xs := (p.map fun k : Nat => (k : Int)).map V.int) (fun k ys σ2 H4 => ys = ((p.take k).map fun k => V.str ((wdL i).getD k "")) ∧ (∃ y0, σ2 = [y0, some (.ref W)]) ∧ Same HM H4 ∧ H4 D1 = some (.lst ys))
          ⟨rfl, ⟨none, rfl⟩, same_laid hD1 _, upd_same⟩ (fun k ys σ2 H4 _ h => ?_) (fun k x ys σ2 H4 ex h => ?_) (fun ys σ2 H4 h => ?_)⟩
    · obtain ⟨_, _, sm, _⟩ := h
      exact SqL.of (sm _ _ eP)
    · obtain ⟨rfl, ⟨y0, rfl⟩, sm, eD⟩ := h
      rw [List.getElem?_map, List.getElem?_map] at ex
      obtain ⟨kk, ekk, rfl⟩ : ∃ kk, p[k]? = some kk ∧ V.int (kk : Int) = x := by
        cases hh : p[k]? with
        | none => rw [hh] at ex; cases ex
        | some kk => rw [hh] at ex; exact ⟨kk, rfl, Option.some.inj ex⟩
      have lk := p4 kk (List.mem_of_getElem? ekk)
      have lp2 := (List.getElem?_eq_some_iff.mp ekk).1
      have atk : atI ((wdL i).map V.str) (kk : Int) = some (.str ((wdL i).getD kk "")) := atI_nat (by rw [List.getElem?_map, List.getElem?_eq_getElem lk]; simp [List.getD, List.getElem?_eq_getElem lk])
      refine goN (goT ?_)
      refine ⟨_, rfl, _, rfl, W, _, _, _, rfl, rfl, SqL.of (sm _ _ (sHM _ _ hW)), atk, eD, fits' (by rw [List.length_map, List.length_take]; omega), ?_, ⟨_, rfl⟩, fun b o hb => ?_, upd_same⟩
      · rw [List.take_add_one, ekk, List.map_append]; rfl
      · rw [upd_ne (fun z => by rw [z, hD1] at hb; cases hb)]
        exact sm b o hb
    · obtain ⟨rfl, _, sm, eD⟩ := h
      rw [List.length_map, List.length_map, List.take_length] at eD
      refine goN ?_
      obtain ⟨q0, q1, q2, rfl⟩ := three lp
      have s4 := sHM.trans sm
      have at0 : atI (nms.map V.str) 0 = some (.str (n0s i j)) := atI_nat (j := 0) (by rw [List.getElem?_map, hn0]; rfl)
      have hn1 := n0_short hi hj
      have hmd2 := hmd i hi j hj _ hp
      have etab : tabOf (n0s i j) (wdL i) [q0, q1, q2] = tab (n0s i j) ((wdL i).getD q0 "") ((wdL i).getD q1 "") ((wdL i).getD q2 "") := rfl
      rw [etab] at hmd2
      have eD' : H4 D1 = some (.lst [.str ((wdL i).getD q0 ""), .str ((wdL i).getD q1 ""), .str ((wdL i).getD q2 "")]) := eD
      clear eD
      generalize (wdL i).getD q0 "" = w0 at eD' hmd2
      generalize (wdL i).getD q1 "" = w1 at eD' hmd2
      generalize (wdL i).getD q2 "" = w2 at eD' hmd2
      have eR4 := sm _ _ eR2
      have rR4 := rR2.same sm
      refine fun Kn hKn => ⟨_, rfl, N, _, _, _, rfl, rfl, SqL.of (same_laid hKn _ _ _ (s4 _ _ hN)), at0, ⟨upd_same, [((Sum.inr "s" : Key), V.str (n0s i j))], rfl, (show 1 ≤ 15 by decide), ?_⟩⟩
      rw [upd_upd, tab_one (n0s i j) w0 w1 w2]
      refine goN ?_
      have fKn : H Kn = none := s4.free hKn
      have nK : ∀ b o, H4 b = some o → b ≠ Kn := fun b o h z => by rw [z, hKn] at h; cases h
      refine ⟨_, rfl, by decide +kernel, for_str (z := "tuvw") (fun k σ H5 => (∃ y8, σ = [some (.int c), some (.ref N), some (.ref W), some (.ref M), some (.ref Lr), some (.ref Tr), some (.ref D1), some (.ref Kn), y8]) ∧ H5 = upd H4 Kn (.dK (kvT ((tab (n0s i j) w0 w1 w2).take (1 + k))))) ⟨⟨none, rfl⟩, rfl⟩ ?_ ?_⟩
      · rintro k ch σ H5 ech ⟨⟨y8, rfl⟩, rfl⟩
        refine goN ?_
        refine ⟨_, rfl, _, rfl, N, _, _, _, rfl, rfl, SqL.of (by rw [upd_ne (nK _ _ (s4 _ _ hN))]; exact s4 _ _ hN), at0, _, _, rfl, rfl, fits (by show 1 + (n0s i j).length ≤ _; omega), ?_⟩
        refine ⟨_, rfl, _, rfl, Kn, _, rfl, DPut.k (k := Sum.inr ⟨#[ch]⟩) upd_same (fits' (by unfold kvT; rw [List.length_map, List.length_take]; exact Nat.le_trans (Nat.min_le_right _ _) (show 8 ≤ 1000000 by decide))), ?_⟩
        rw [upd_upd, tab_step _ w0 w1 w2 k ch ech]
        exact ⟨⟨_, rfl⟩, rfl⟩
      · rintro σ H5 ⟨⟨y8, rfl⟩, rfl⟩
        have k5 : ∀ b o, b ≠ Kn → H4 b = some o → upd H4 Kn (.dK (kvT ((tab (n0s i j) w0 w1 w2).take (1 + ("tuvw" : Str).cps.size)))) b = some o := fun b o n h => by rw [upd_ne n]; exact h
        have e5 : upd H4 Kn (.dK (kvT ((tab (n0s i j) w0 w1 w2).take (1 + ("tuvw" : Str).cps.size)))) Kn = some (.dK (kvT ((tab (n0s i j) w0 w1 w2).take 5))) := by rw [upd_same]; kernel_rfl
        have s5 : Same H (upd H4 Kn (.dK (kvT ((tab (n0s i j) w0 w1 w2).take (1 + ("tuvw" : Str).cps.size))))) := fun b o hb => k5 b o (fun z => by rw [z, fKn] at hb; cases hb) (s4 b o hb)
        have eR5 := k5 _ _ (nK _ _ eR4) eR4
        have eD5 := k5 _ _ (nK _ _ eD') eD'
        have rR5 : Rules K (upd H4 Kn (.dK (kvT ((tab (n0s i j) w0 w1 w2).take (1 + ("tuvw" : Str).cps.size))))) asr rus := rR4.keep fun a xs z => by
          rcases z with (z | ⟨u, z⟩) | z
          · exact .inl (.inl (k5 _ _ (nK _ _ z) z))
          · exact .inl (.inr ⟨u, k5 _ _ (nK _ _ z) z⟩)
          · exact .inr z
        generalize upd H4 Kn (.dK (kvT ((tab (n0s i j) w0 w1 w2).take (1 + ("tuvw" : Str).cps.size)))) = H6 at k5 e5 s5 eR5 eD5 rR5
        refine ⟨_, rfl, Kn, rfl, .inl ⟨_, .inl e5⟩, fun Up hUp => ?_⟩
        have k7 := same_laid hUp (.dK [])
        refine ⟨_, rfl, D1, _, _, .str w0, rfl, rfl, SqL.of (k7 _ _ eD5), rfl, _, rfl, D1, _, _, .str w1, rfl, rfl, SqL.of (k7 _ _ eD5), rfl, _, rfl, D1, _, _, .str w2, rfl, rfl, SqL.of (k7 _ _ eD5), rfl, ⟨upd_same, [((Sum.inr "a" : Key), V.str w0), (Sum.inr "b", V.str w1), (Sum.inr "c", V.str w2)], rfl, (show 3 ≤ 15 by decide), ?_⟩⟩
        rw [upd_upd, tab_lit]
        have k8 := same_laid hUp (.dK [((Sum.inr "a" : Key), V.str w0), (Sum.inr "b", V.str w1), (Sum.inr "c", V.str w2)])
        have nU : Up ≠ Kn := fun z => by rw [z, e5] at hUp; cases hUp
        have e8 : upd H6 Up (.dK [((Sum.inr "a" : Key), V.str w0), (Sum.inr "b", V.str w1), (Sum.inr "c", V.str w2)]) Up = some (.dK [((Sum.inr "a" : Key), V.str w0), (Sum.inr "b", V.str w1), (Sum.inr "c", V.str w2)]) := upd_same
        have e9 := k8 _ _ e5
        have eR8 := k8 _ _ eR5
        have rR8 := rR5.same k8
        have s8 := s5.trans k8
        generalize upd H6 Up (.dK [((Sum.inr "a" : Key), V.str w0), (Sum.inr "b", V.str w1), (Sum.inr "c", V.str w2)]) = H8 at k8 e8 e9 eR8 rR8 s8
        refine ⟨Up, _, _, rfl, nU, e9, e8, fits (by show 5 + 3 ≤ _; decide), ?_⟩
        rw [tab_end]
        have nR : Lr ≠ Kn := nK _ _ eR4
        have s9 : Same H (upd H8 Kn (.dK (kvT (tab (n0s i j) w0 w1 w2)))) := fun b o hb => by rw [upd_ne (fun z => by rw [z, fKn] at hb; cases hb)]; exact s8 b o hb
        have eR9 : upd H8 Kn (.dK (kvT (tab (n0s i j) w0 w1 w2))) Lr = some (.lst (asr.map V.ref)) := by rw [upd_ne nR]; exact eR8
        have eK9 : upd H8 Kn (.dK (kvT (tab (n0s i j) w0 w1 w2))) Kn = some (.dK (kvT (tab (n0s i j) w0 w1 w2))) := upd_same
        have rR9 : Rules K (upd H8 Kn (.dK (kvT (tab (n0s i j) w0 w1 w2)))) asr rus := rR8.keep fun a xs z => by
          have ne : ∀ {o}, H8 a = some (.tup o) → a ≠ Kn := fun h z => by rw [z, e9] at h; cases h
          rcases z with (z | ⟨u, z⟩) | z
          · exact .inl (.inl (by rw [upd_ne (ne z)]; exact z))
          · exact .inl (.inr ⟨u, by rw [upd_ne (fun y => by rw [y, e9] at z; cases z)]; exact z⟩)
          · exact .inr z
        generalize upd H8 Kn (.dK (kvT (tab (n0s i j) w0 w1 w2))) = H9 at s9 eR9 eK9 rR9
        have ekeys := tab_keys (n0s i j) w0 w1 w2
        generalize tab (n0s i j) w0 w1 w2 = tb at eK9 ekeys hmd2
        clear etab k5 e5 s5 eR5 eD5 rR5 e8 k8 eR8 rR8 s8 nU hUp k7
        have lR := Paired.length rR9
        have lookup : ∀ {H' : Hp} {z : Str}, Same H9 H' → z ∈ signs → DGet H' Kn (.str z) (some (.str (kf tb z))) := fun {H' z} s h => by
          have := DGet.k (k := Sum.inr z) (s _ _ eK9)
          rw [kvT_get tb z (by rw [ekeys]; exact h)] at this
          exact this
        refine ⟨_, rfl, Lr, rfl, ⟨_, SqL.of eR9⟩, fun D hD => compG_list (xs := asr.map V.ref) (fun k ys σ2 HA => ∃ as : List Addr, ys = as.map V.ref ∧ as.length = k ∧ Rules K HA as (ren tb (rus.take k)) ∧ (∃ y0 y1, σ2 = [y0, y1, some (.ref Kn)]) ∧ Same H9 HA ∧ HA D = some (.lst ys))
          ⟨[], rfl, rfl, .nil, ⟨none, none, rfl⟩, same_laid hD _, upd_same⟩ (fun k ys σ2 HA _ h => ?_) (fun k x ys σ2 HA ex h => ?_) (fun ys σ2 HA h => ?_)⟩
        · obtain ⟨_, _, _, _, _, sA, _⟩ := h
          exact SqL.of (sA _ _ eR9)
        · obtain ⟨as, rfl, la, rA, ⟨y0, y1, rfl⟩, sA, eDA⟩ := h
          rw [List.getElem?_map] at ex
          obtain ⟨a, ea, rfl⟩ := Option.map_eq_some_iff.mp ex
          obtain ⟨ru, eru, pp, v1, v2⟩ := rR9.get ea
          have lk := (List.getElem?_eq_some_iff.mp eru).1
          obtain ⟨hs1, hl4, hs2, _⟩ := hrus.2.2 ru (List.mem_of_getElem? eru)
          refine ⟨a, _, rfl, sA.tup v1, rfl, _, _, rfl, _, _, rfl, rfl, ?_⟩
          refine goT ?_
          refine ⟨_, rfl, _, rfl, Kn, _, rfl, lookup sA hs1, ?_⟩
          refine ⟨_, rfl, pp, rfl, ⟨_, sA.tup v2⟩, fun D2 hD2 => compG_tup (xs := ru.2.map V.str) (fun k2 ys σ3 HB => ys = ((ru.2.take k2).map (kf tb)).map V.str ∧ (∃ y0, σ3 = [y0, some (.ref Kn)]) ∧ Same HA HB ∧ HB D2 = some (.lst ys))
            ⟨rfl, ⟨none, rfl⟩, same_laid hD2 _, upd_same⟩ (fun k2 ys σ3 HB _ h => ?_) (fun k2 x ys σ3 HB ex h => ?_) (fun ys σ3 HB h => ?_)⟩
          · obtain ⟨_, _, sB, _⟩ := h
            exact sB.tup (sA.tup v2)
          · obtain ⟨rfl, ⟨y0, rfl⟩, sB, eB⟩ := h
            rw [List.getElem?_map] at ex
            obtain ⟨z, ez, rfl⟩ := Option.map_eq_some_iff.mp ex
            have lz := (List.getElem?_eq_some_iff.mp ez).1
            refine goN (goT ?_)
            refine ⟨_, rfl, _, rfl, Kn, _, rfl, lookup (sA.trans sB) (hs2 z (List.mem_of_getElem? ez)), eB, fits' (by rw [List.length_map, List.length_map, List.length_take]; omega), ?_, ⟨_, rfl⟩, fun b o hb => ?_, upd_same⟩
            · rw [List.take_add_one, ez, List.map_append, List.map_append]; rfl
            · rw [upd_ne (fun z => by rw [z, hD2] at hb; cases hb)]
              exact sB b o hb
          · obtain ⟨rfl, _, sB, eB⟩ := h
            rw [List.length_map, List.take_length] at eB
            refine ⟨D2, _, rfl, .inl ⟨SqL.of eB, fun tp htp => ⟨(by show 2 ≤ sizeLine; decide), fun R hR => ?_⟩⟩⟩
            have kC := sB.trans ((same_laid htp (.tup ((ru.2.map (kf tb)).map V.str))).trans (same_laid hR (.tup [.str (kf tb ru.1), .ref tp])))
            have w1' : SqT K (upd (upd HB tp (.tup ((ru.2.map (kf tb)).map V.str))) R (.tup [.str (kf tb ru.1), .ref tp])) R [.str (kf tb ru.1), .ref tp] := SqT.of upd_same
            have w2' : SqT K (upd (upd HB tp (.tup ((ru.2.map (kf tb)).map V.str))) R (.tup [.str (kf tb ru.1), .ref tp])) tp ((ru.2.map (kf tb)).map V.str) := (same_laid hR _).tup (SqT.of upd_same)
            generalize upd (upd HB tp (.tup ((ru.2.map (kf tb)).map V.str))) R (.tup [.str (kf tb ru.1), .ref tp]) = HC at kC w1' w2'
            have eDC := kC _ _ eDA
            refine ⟨eDC, fits' (by rw [List.length_map]; omega), as ++ [R], by rw [List.map_append]; rfl, by rw [List.length_append, la]; rfl, ?_, ⟨_, _, rfl⟩, fun b o hb => ?_, upd_same⟩
            · have : ren tb (rus.take (k + 1)) = ren tb (rus.take k) ++ [(kf tb ru.1, ru.2.map (kf tb))] := by
                unfold ren
                rw [List.take_add_one, eru, List.map_append]
                rfl
              rw [this]
              exact Paired.snoc (rA.keep fun b xs z => sqt_upd eDC (kC.tup z)) ⟨tp, sqt_upd eDC w1', sqt_upd eDC w2'⟩
            · rw [upd_ne (fun z => by rw [z, hD] at hb; cases hb)]
              exact kC _ _ (sA b o hb)
        · obtain ⟨as, rfl, la, rA, _, sA, eDA⟩ := h
          rw [List.length_map, lR, List.take_length] at rA
          refine q D as (ren tb rus) HA (s9.free hD) (s9.trans sA) eDA rA ⟨?_, ?_, ?_, (signs.take 5).map (kf tb), by rw [List.length_map]; decide, ?_⟩ ?_
          · unfold ren; rw [List.length_map]; exact hrus.1
          · unfold ren; rw [List.length_map]; exact hrus.2.1
          · intro ru hru
            unfold ren at hru
            obtain ⟨ru', h1, rfl⟩ := List.mem_map.mp hru
            show (ru'.2.map (kf tb)).length ≤ 4
            rw [List.length_map]
            exact (hrus.2.2 ru' h1).2.1
          · intro ru hru
            unfold ren at hru
            obtain ⟨ru', h1, rfl⟩ := List.mem_map.mp hru
            exact List.mem_map.mpr ⟨ru'.1, (hrus.2.2 ru' h1).2.2.2, rfl⟩
          · intro z hz
            have := List.all_eq_true.mp hmd2 z hz
            exact of_decide_eq_true this
end
end K11
namespace K11
open PySem L2 M11
theorem cut_take (ns : List Str) (k : Nat) : cutV (ns.map V.str) none (some (k : Int)) = (ns.take k).map V.str := by
  unfold cutV
  rw [HT.sIx_nat, HT.sIx_none, List.drop_zero, Nat.sub_zero, List.length_map, ← List.map_take]
  congr 1
  by_cases h : k ≤ ns.length
  · rw [Nat.min_eq_left h]
  · rw [Nat.min_eq_right (by omega), List.take_length, List.take_of_length_le (by omega)]
theorem nmJ_len (i j : Nat) : (nmJ i j).length = 3 := by unfold nmJ; rw [List.length_map, nm_len]
theorem n0_get (i j : Nat) : (nmJ i j)[0]? = some (n0s i j) := by
  have l := nmJ_len i j
  unfold n0s
  rw [List.getD, List.getElem?_eq_getElem (by omega)]
  rfl
section
variable {P : Program} {w : World} {K : PySem.W.Frag} {mg : Str → Option Value} {base : Heap} {f : Addr} {fd : FuncData}
def spRules (K : PySem.W.Frag) : Sp := fun vs H Q _ => ∃ (S : Addr) (ns : List Int) (at_ : Nat), vs = [.ref S, .int (at_ : Int)] ∧ SqL K H S (ns.map V.int) ∧ ns.length ≤ 1000 ∧
  ∀ (R : Addr) (rs : List Addr) (rules : List Rule) (H' : Hp), Same H H' → H' R = some (.lst (rs.map V.ref)) → Rules K H' rs rules → Small rules → (∀ z ∈ hd rules, z ∈ endedM true rules) → Q (.ref R) H'
abbrev NU : List Str := ["_law_script", "_law_at", "_law_cell", "_law_names", "_law_words", "_law_rules_here"]
theorem scRules : FnScope NU ["_law_script", "_law_at"] (defScope sRules) := ⟨rfl, rfl, rfl, by decide +kernel, rfl, by decide +kernel, by decide +kernel⟩
theorem ok_rules (F : Fun K "_law_rules" "_law_rules" sRules f fd) (T : Txt mg) (GC : CalleeD P w K mg base 2 "_law_cell_at" ["_law_script", "_law_k"] (spCell K)) (GO : CalleeD P w K mg base 2 "_law_pool" ["_law_cell"] (spPool K)) (GF : CalleeD P w K mg base 2 "_law_free_rules" ["_law_script", "_law_at", "_law_names", "_law_words"] (spFree K))
    (GG : CalleeD P w K mg base 2 "_law_good" ["_law_rules_here"] (spGood K)) (GM : CalleeD P w K mg base 2 "_law_made_rules" ["_law_cell", "_law_names", "_law_pool_here"] (spMade K)) : FnOk P w K mg base CX0 3 f fd ["_law_script", "_law_at"] (spRules K) := by
  refine F.ok scRules (fun vs H Q E h => ?_) (fun cdv A outer s H vs Q E hr h => ?_)
  · obtain ⟨S, ns, at_, rfl, _⟩ := h; rfl
  · obtain ⟨S, ns, at_, rfl, hS, hn, q⟩ := h
    refine ⟨_, pss_cons (ps_set (i := 2) scRules.nd rfl (Or.inl rfl) (pe_fn GC hr rfl (pa_cons (pv 0) (pa_cons (pv 1) pa_nil))))
      (pss_cons (ps_asg (pe_fn GO hr rfl (pa_cons (pv 2) pa_nil)) (pg_tupK (n := 2) K rfl (pgs_cons (pg_name (i := 3) scRules.nd rfl (Or.inl rfl)) (pgs_cons (pg_name (i := 4) scRules.nd rfl (Or.inl rfl)) pgs_nil))))
      (pss_cons (ps_set (i := 3) scRules.nd rfl (Or.inl rfl) (pe_slice sl_list (pv 3) po_none (po_some (pe_op op_add pe_int (pe_op op_mod (pv 2) pe_int)))))
      (pss_cons (ps_set (i := 5) scRules.nd rfl (Or.inl rfl) (pe_fn GF hr rfl (pa_cons (pv 0) (pa_cons (pv 1) (pa_cons (pv 3) (pa_cons (pv 4) pa_nil))))))
      (pss_cons (ps_if (PW.pt (pw_and (pt_cmpR op_gt (pe_op op_mod (pe_op op_fdiv (pv 2) pe_int) pe_int) pe_int (nomark _)) (pw_and1 (pt_val (pe_fn GG hr rfl (pa_cons (pv 5) pa_nil)))))) (pss_one (ps_ret (pv 5))) pss_nil)
      (pss_one (ps_ret (pe_fn GM hr rfl (pa_cons (pv 2) (pa_cons (pv 3) (pa_cons (pv 4) pa_nil)))))))))), ?_⟩
    refine ⟨_, rfl, _, rfl, S, ns, at_, rfl, hS, hn, fun c => ?_⟩
    refine goN ?_
    refine ⟨_, rfl, c, rfl, fun t N0 W i j H1 hi hj s1 et eN eW => ?_⟩
    refine ⟨t, _, rfl, et, rfl, _, _, rfl, _, _, rfl, rfl, ?_⟩
    obtain ⟨m, hm⟩ : ∃ m : Nat, 1 + c % 3 = (m : Int) := ⟨(1 + c % 3).toNat, by omega⟩
    have hm1 : 1 ≤ m ∧ m ≤ 3 := by omega
    refine ⟨_, rfl, _, rfl, _, _, rfl, rfl, (by show (0 : Int) < 3; decide), _, _, rfl, rfl, ?_⟩
    refine ⟨(m : Int), congrArg V.int hm, N0, _, rfl, SqL.of eN, fun N hN => ?_⟩
    rw [cut_take]
    have k2 := same_laid hN (.lst (((nmJ i j).take m).map V.str))
    have s2 := s1.trans k2
    have eN2 : upd H1 N (.lst (((nmJ i j).take m).map V.str)) N = some (.lst (((nmJ i j).take m).map V.str)) := upd_same
    have eW2 := k2 _ _ eW
    generalize upd H1 N (.lst (((nmJ i j).take m).map V.str)) = H2 at k2 s2 eN2 eW2
    refine goN ?_
    have l3 := nmJ_len i j
    have lt : ((nmJ i j).take m).length = m := by rw [List.length_take]; omega
    have g0 : ((nmJ i j).take m)[0]? = some (n0s i j) := by rw [List.getElem?_take_of_lt (by omega)]; exact n0_get i j
    generalize (nmJ i j).take m = nms at eN2 lt g0
    refine ⟨_, rfl, _, rfl, _, rfl, _, rfl, S, N, W, ns, at_, nms, wdL i, rfl, s2.seq hS, hn, eN2, eW2, by omega, by omega, by rw [wd_len]; decide, fun R rs rules H3 fR s3 eR rl sm => ?_⟩
    refine goN ?_
    have s03 := s2.trans s3
    have last : ∀ {H4 : Hp}, Same H3 H4 → spMade K [.int c, .ref N, .ref W] H4 Q E0 := fun {H4} s4 => by
      refine ⟨c, N, W, nms, i, j, rfl, hi, hj, s4 _ _ (s3 _ _ eN2), g0, s4 _ _ (s3 _ _ eW2), fun R2 rs2 rules2 H5 fR2 s5 eR2 rl2 sm2 he => ?_⟩
      exact q R2 rs2 rules2 H5 ((s03.trans s4).trans s5) eR2 rl2 sm2 he
    refine ⟨_, rfl, _, _, rfl, rfl, ⟨by decide, by decide⟩, _, _, rfl, rfl, (by show (0 : Int) < 3; decide), _, _, rfl, rfl, _, rfl, ?_⟩
    refine ite2 (fun c1 => ?_) (fun c1 => ?_)
    · refine ⟨_, rfl, R, rs, rules, rfl, SqL.of eR, rl, sm, fun b H4 s4 hb => ⟨b, rfl, ?_⟩⟩
      refine ite2 (fun c2 => ?_) (fun c2 => ?_)
      · exact ⟨_, rfl, q R rs rules H4 (s03.trans s4) (s4 _ _ eR) (rl.same s4) sm (hb c2)⟩
      · exact ⟨_, rfl, _, rfl, _, rfl, last s4⟩
    · refine iteF ?_
      exact ⟨_, rfl, _, rfl, _, rfl, last fun _ _ h => h⟩
end
end K11
namespace K11
open PySem L2 M11
inductive Ent
  | ex (x : Str) (l : Nat)
  | rd (k d : Nat)
mutual
def Fit (rules : List Rule) : Tr → Prop
  | .w _ => True
  | .n k cs => (∃ ru, rules[k]? = some ru ∧ cs.toL.length = ru.2.length) ∧ Fits rules cs
def Fits (rules : List Rule) : Trs → Prop
  | .nil => True
  | .cons t r => Fit rules t ∧ Fits rules r
end
def Trs.ofL : List Tr → Trs
  | [] => .nil
  | t :: r => .cons t (Trs.ofL r)
theorem toL_ofL : ∀ ts : List Tr, (Trs.ofL ts).toL = ts
  | [] => rfl
  | t :: r => by show t :: (Trs.ofL r).toL = t :: r; rw [toL_ofL r]
theorem ofL_trsV {K : PySem.W.Frag} {H : Hp} : ∀ {vs : List V} {ts : List Tr}, Paired (fun v t => TrV K H t v) vs ts → TrsV K H (Trs.ofL ts) vs
  | _, _, .nil => by unfold Trs.ofL TrsV; rfl
  | _, _, .cons h r => by unfold Trs.ofL TrsV; exact ⟨_, _, rfl, h, ofL_trsV r⟩
theorem ofL_dps {b : Nat} : ∀ (ts : List Tr), (∀ t ∈ ts, dp t ≤ b) → dps (Trs.ofL ts) ≤ b
  | [], _ => by unfold Trs.ofL dps; exact Nat.zero_le _
  | t :: r, h => by
    have h1 := ofL_dps r fun u hu => h u (List.mem_cons_of_mem _ hu)
    have h2 := h t List.mem_cons_self
    unfold Trs.ofL dps
    omega
theorem ofL_fits {rules : List Rule} : ∀ (ts : List Tr), (∀ t ∈ ts, Fit rules t) → Fits rules (Trs.ofL ts)
  | [], _ => by unfold Trs.ofL Fits; trivial
  | t :: r, h => by
    unfold Trs.ofL Fits
    exact ⟨h t List.mem_cons_self, ofL_fits r fun u hu => h u (List.mem_cons_of_mem _ hu)⟩
def gZ : Nat → Nat
  | 0 => 1
  | n + 1 => 1 + 4 * gZ n
def bZ : Nat → Nat
  | 0 => gZ 5
  | n + 1 => 1 + 4 * bZ n
theorem gZ_pos : ∀ n, 1 ≤ gZ n
  | 0 => Nat.le_refl _
  | n + 1 => by unfold gZ; omega
theorem gZ_succ (n : Nat) : gZ n ≤ gZ (n + 1) := by
  show gZ n ≤ 1 + 4 * gZ n
  omega
theorem gZ_mono {a : Nat} : ∀ {b : Nat}, a ≤ b → gZ a ≤ gZ b
  | 0, h => by
    have : a = 0 := by omega
    rw [this]; exact Nat.le_refl _
  | b + 1, h => by
    by_cases c : a = b + 1
    · rw [c]; exact Nat.le_refl _
    · exact Nat.le_trans (gZ_mono (b := b) (by omega)) (gZ_succ b)
theorem bZ_pos : ∀ n, 1 ≤ bZ n
  | 0 => gZ_pos 5
  | n + 1 => by unfold bZ; omega
def rkOf (b : List (Str × Nat)) (x : Str) : Nat := (kys b).idxOf x
def eZ (heads : List Str) (b : List (Str × Nat)) (x : Str) (l : Nat) : Nat := if x ∈ heads then (if l = 0 then gZ (rkOf b x + 1) else bZ l) else 1
def eD (heads : List Str) (b : List (Str × Nat)) (x : Str) (l : Nat) : Nat := if x ∈ heads then (if l = 0 then rkOf b x + 1 else 5 + l) else 0
theorem eZ_pos (heads : List Str) (b : List (Str × Nat)) (x : Str) (l : Nat) : 1 ≤ eZ heads b x l := by
  unfold eZ
  split
  · split
    · exact gZ_pos _
    · exact bZ_pos _
  · exact Nat.le_refl _
theorem rk_lt {b : List (Str × Nat)} {x : Str} (h : x ∈ kys b) : rkOf b x < b.length := by
  have := List.idxOf_lt_length_of_mem h
  unfold kys at this
  rw [List.length_map] at this
  exact this
theorem eZ_le {heads : List Str} {b : List (Str × Nat)} (hb : b.length ≤ 5) (hk : ∀ z ∈ heads, z ∈ kys b) (x : Str) (l : Nat) : eZ heads b x l ≤ bZ l := by
  unfold eZ
  split
  · rename_i h
    split
    · rename_i e
      subst e
      have := rk_lt (hk x h)
      exact gZ_mono (by omega)
    · exact Nat.le_refl _
  · exact bZ_pos l
theorem eD_le {heads : List Str} {b : List (Str × Nat)} (hb : b.length ≤ 5) (hk : ∀ z ∈ heads, z ∈ kys b) (x : Str) (l : Nat) : eD heads b x l ≤ 5 + l := by
  unfold eD
  split
  · rename_i h
    split
    · have := rk_lt (hk x h)
      omega
    · omega
  · omega
theorem parts_in {rules : List Rule} {heads : List Str} {b : List (Str × Nat)} (hb : b.length ≤ 5) (hk : ∀ z ∈ heads, z ∈ kys b) {x : Str} {l : Nat} {parts : List Str} (hx : x ∈ heads) (h4 : parts.length ≤ 4)
    (h0 : l = 0 → ∀ p ∈ parts, p ∉ heads ∨ rkOf b p < rkOf b x) : (∀ p ∈ parts, eD heads b p (l - 1) + 1 ≤ eD heads b x l) ∧ 1 + (parts.map fun p => eZ heads b p (l - 1)).sum ≤ eZ heads b x l := by
  have sum4 : ∀ (ps : List Str) (c : Nat), (∀ p ∈ ps, eZ heads b p (l - 1) ≤ c) → (ps.map fun p => eZ heads b p (l - 1)).sum ≤ ps.length * c := by
    intro ps c h
    induction ps with
    | nil => simp
    | cons p r ih =>
      have h1 := h p List.mem_cons_self
      have h2 := ih fun q hq => h q (List.mem_cons_of_mem _ hq)
      rw [List.map_cons, List.sum_cons, List.length_cons, Nat.add_mul]
      omega
  by_cases e : l = 0
  · subst e
    have dd : eD heads b x 0 = rkOf b x + 1 := by unfold eD; rw [if_pos hx, if_pos rfl]
    have zz : eZ heads b x 0 = gZ (rkOf b x + 1) := by unfold eZ; rw [if_pos hx, if_pos rfl]
    constructor
    · intro p hp
      rw [dd]
      unfold eD
      rcases h0 rfl p hp with h | h
      · rw [if_neg h]; omega
      · split
        · rw [if_pos rfl]; omega
        · omega
    · rw [zz]
      have := sum4 parts (gZ (rkOf b x)) fun p hp => by
        show eZ heads b p 0 ≤ _
        unfold eZ
        rcases h0 rfl p hp with h | h
        · rw [if_neg h]; exact gZ_pos _
        · split
          · rw [if_pos rfl]; exact gZ_mono h
          · exact gZ_pos _
      have h5 : parts.length * gZ (rkOf b x) ≤ 4 * gZ (rkOf b x) := Nat.mul_le_mul_right _ h4
      show 1 + _ ≤ 1 + 4 * gZ (rkOf b x)
      have e0 : 0 - 1 = 0 := rfl
      omega
  · have dd : eD heads b x l = 5 + l := by unfold eD; rw [if_pos hx, if_neg e]
    have zz : eZ heads b x l = bZ l := by unfold eZ; rw [if_pos hx, if_neg e]
    obtain ⟨l', rfl⟩ : ∃ l', l = l' + 1 := ⟨l - 1, by omega⟩
    constructor
    · intro p hp
      rw [dd]
      have := eD_le hb hk p (l' + 1 - 1)
      omega
    · rw [zz]
      have := sum4 parts (bZ l') fun p hp => eZ_le hb hk p l'
      have h5 : parts.length * bZ l' ≤ 4 * bZ l' := Nat.mul_le_mul_right _ h4
      show 1 + _ ≤ 1 + 4 * bZ l'
      omega
def Run (rules : List Rule) (heads : List Str) (b : List (Str × Nat)) (D : Nat) : List Ent → List Nat → Prop
  | [], ds => ds = [D]
  | .ex x l :: r, ds => Run rules heads b D r (ds ++ [eD heads b x l])
  | .rd k d :: r, ds => ∃ ds0 ds1 ru, ds = ds0 ++ ds1 ∧ rules[k]? = some ru ∧ ds1.length = ru.2.length ∧ 1 ≤ d ∧ (∀ p ∈ ds1, p + 1 ≤ d) ∧ Run rules heads b D r (ds0 ++ [d])
theorem Run.parts {rules : List Rule} {heads : List Str} {b : List (Str × Nat)} {D : Nat} : ∀ (ps : List Str) (l : Nat) (r : List Ent) (ds : List Nat), Run rules heads b D r (ds ++ ps.map fun p => eD heads b p l) → Run rules heads b D (ps.map (fun p => Ent.ex p l) ++ r) ds
  | [], l, r, ds, h => by rw [List.map_nil, List.append_nil] at h; exact h
  | p :: ps, l, r, ds, h => by
    show Run rules heads b D (ps.map (fun p => Ent.ex p l) ++ r) (ds ++ [eD heads b p l])
    refine Run.parts ps l r _ ?_
    rw [List.append_assoc]
    exact h
def cost (heads : List Str) (b : List (Str × Nat)) : Ent → Nat
  | .ex x l => 2 * eZ heads b x l
  | .rd _ _ => 1
def size (heads : List Str) (b : List (Str × Nat)) : Ent → Nat
  | .ex x l => eZ heads b x l
  | .rd _ _ => 1
theorem size_pos (heads : List Str) (b : List (Str × Nat)) : ∀ e, 1 ≤ size heads b e
  | .ex x l => eZ_pos heads b x l
  | .rd _ _ => Nat.le_refl _
theorem lsize (heads : List Str) (b : List (Str × Nat)) : ∀ es : List Ent, es.length ≤ (es.map (size heads b)).sum
  | [] => Nat.le_refl _
  | e :: r => by
    have := size_pos heads b e
    have := lsize heads b r
    rw [List.map_cons, List.sum_cons, List.length_cons]
    omega
def EntV (K : PySem.W.Frag) (H : Hp) (a : Addr) : Ent → Prop
  | .ex x l => SqT K H a [.str x, .int (l : Int)]
  | .rd k _ => SqT K H a [.int (k : Int), .int (-1)]
theorem EntV.keep {K : PySem.W.Frag} {H H' : Hp} (k : ∀ a xs, SqT K H a xs → SqT K H' a xs) {a : Addr} : ∀ {d : Ent}, EntV K H a d → EntV K H' a d
  | .ex _ _, h => k _ _ h
  | .rd _ _, h => k _ _ h
theorem bk_rk : ∀ (b : List (Str × Nat)) (z : Str), z ∈ kys b → ∃ k, b[rkOf b z]? = some (z, k) ∧ valV (bk b) (Sum.inr z) = some (.int (k : Int))
  | [], z, h => by cases h
  | (y, k) :: r, z, h => by
    by_cases c : y = z
    · subst c
      refine ⟨k, ?_, valV_pos rfl⟩
      have : rkOf ((y, k) :: r) y = 0 := by unfold rkOf kys; rw [List.map_cons, List.idxOf_cons_self]
      rw [this]; rfl
    · have h2 : z ∈ kys r := by
        rcases List.mem_cons.mp h with e | e
        · exact absurd e.symm c
        · exact e
      obtain ⟨k', e1, e2⟩ := bk_rk r z h2
      refine ⟨k', ?_, ?_⟩
      · have : rkOf ((y, k) :: r) z = rkOf r z + 1 := by unfold rkOf kys; rw [List.map_cons, List.idxOf_cons]; show (bif y == z then 0 else _) = _; rw [beq_eq_false_iff_ne.mpr c]; rfl
        rw [this]; exact e1
      · show valV (((Sum.inr y : Key), V.int (k : Int)) :: bk r) (Sum.inr z) = _
        rw [valV_neg (fun e => c (Sum.inr.inj e))]
        exact e2
theorem rk_take {b : List (Str × Nat)} {p : Str} {i : Nat} (h : p ∈ kys (b.take i)) : rkOf b p < i := by
  have e : kys b = kys (b.take i) ++ kys (b.drop i) := by unfold kys; rw [← List.map_append, List.take_append_drop]
  unfold rkOf
  rw [e, List.idxOf_append, if_pos h]
  have := List.idxOf_lt_length_of_mem h
  unfold kys at this
  rw [List.length_map, List.length_take] at this
  unfold kys
  omega
theorem paired_left {α β : Type} {F : α → β → Prop} : ∀ {xs : List α} {ys : List β}, Paired F xs ys → ∀ x ∈ xs, ∃ y ∈ ys, F x y
  | _, _, .nil, x, h => by cases h
  | _, _, .cons a r, x, h => by
    rcases List.mem_cons.mp h with e | e
    · rw [e]; exact ⟨_, List.mem_cons_self, a⟩
    · obtain ⟨y, h1, h2⟩ := paired_left r x e
      exact ⟨y, List.mem_cons_of_mem _ h1, h2⟩
theorem paired_cut {α β : Type} {F : α → β → Prop} : ∀ {xs : List α} {ys0 ys1 : List β}, Paired F xs (ys0 ++ ys1) → Paired F (xs.take ys0.length) ys0 ∧ Paired F (xs.drop ys0.length) ys1
  | xs, [], ys1, h => ⟨.nil, h⟩
  | _, y :: ys0, ys1, .cons a r => by
    obtain ⟨h1, h2⟩ := paired_cut (ys0 := ys0) r
    exact ⟨.cons a h1, h2⟩
theorem eD_pos {heads : List Str} {b : List (Str × Nat)} {x : Str} {l : Nat} (h : x ∈ heads) : 1 ≤ eD heads b x l := by
  unfold eD
  rw [if_pos h]
  split <;> omega
theorem bZ_le {l : Nat} (h : l ≤ 3) : bZ l ≤ 87381 := by
  match l, h with
  | 0, _ => decide
  | 1, _ => decide
  | 2, _ => decide
  | 3, _ => decide
end K11
namespace K11
open PySem L2 M11
theorem lsz : ∀ l : List Tr, l.length ≤ (l.map sz).sum
  | [] => Nat.le_refl _
  | x :: r => by
    have := sz_pos x
    have := lsz r
    rw [List.map_cons, List.sum_cons, List.length_cons]
    omega
theorem cut_from (us : List V) (k : Nat) : cutV us (some (k : Int)) none = us.drop k := by
  unfold cutV
  rw [HT.sIx_nat, HT.sIx_none]
  by_cases h : k ≤ us.length
  · rw [Nat.min_eq_left h, List.take_of_length_le (by rw [List.length_drop]; omega)]
  · rw [Nat.min_eq_right (by omega), Nat.sub_self, List.take_zero, List.drop_eq_nil_of_le (by omega)]
theorem cut_to (us : List V) (k : Nat) : cutV us none (some (k : Int)) = us.take k := by
  unfold cutV
  rw [HT.sIx_nat, HT.sIx_none, List.drop_zero, Nat.sub_zero]
  by_cases h : k ≤ us.length
  · rw [Nat.min_eq_left h]
  · rw [Nat.min_eq_right (by omega), List.take_length, List.take_of_length_le (by omega)]
theorem boot_max : bootBuiltins "max" = some (.builtin "max") := by decide +kernel
theorem cost_parts (heads : List Str) (b : List (Str × Nat)) (l : Nat) : ∀ ps : List Str, ((ps.map fun p => Ent.ex p l).map (cost heads b)).sum = 2 * (ps.map fun p => eZ heads b p l).sum
  | [] => rfl
  | q :: r => by
    rw [List.map_cons, List.map_cons, List.sum_cons, List.map_cons, List.sum_cons, cost_parts heads b l r]
    show 2 * eZ heads b q l + _ = _
    omega
def ksOf (rules : List Rule) (name : Str) (i : Nat) : List Nat := (List.range i).filter fun k => decide ((rules[k]?.map (·.1)) = some name)
theorem ks_mem {rules : List Rule} {name : Str} {i k : Nat} (h : k ∈ ksOf rules name i) : ∃ parts, rules[k]? = some (name, parts) := by
  have := of_decide_eq_true (List.mem_filter.mp h).2
  obtain ⟨ru, e1, e2⟩ := Option.map_eq_some_iff.mp this
  exact ⟨ru.2, by rw [e1, ← e2]⟩
theorem ks_pos {rules : List Rule} {name : Str} (h : name ∈ hd rules) : 0 < (ksOf rules name rules.length).length := by
  obtain ⟨k, hk⟩ := List.getElem?_of_mem h
  unfold hd at hk
  have lk := (List.getElem?_eq_some_iff.mp hk).1
  rw [List.length_map] at lk
  rw [List.getElem?_map] at hk
  exact List.length_pos_of_mem (List.mem_filter.mpr ⟨List.mem_range.mpr lk, decide_eq_true hk⟩)
theorem atMK {zs : List Nat} {m : Int} (h : (zs.length : Int) = m) (hm : 0 < m) (n : Int) : ∃ z ∈ zs, atI (zs.map fun k : Nat => V.int (k : Int)) (n % m) = some (.int (z : Int)) := by
  subst h
  have h1 := Int.emod_lt_of_pos n hm
  have h2 := Int.emod_nonneg n (show (zs.length : Int) ≠ 0 by omega)
  have l : (n % (zs.length : Int)).toNat < zs.length := by omega
  have e : n % (zs.length : Int) = (((n % (zs.length : Int)).toNat : Nat) : Int) := by omega
  refine ⟨zs[(n % (zs.length : Int)).toNat], List.getElem_mem l, ?_⟩
  have t : atI (zs.map fun k : Nat => V.int (k : Int)) (((n % (zs.length : Int)).toNat : Nat) : Int) = some (.int ((zs[(n % (zs.length : Int)).toNat] : Nat) : Int)) := atI_nat (by rw [List.getElem?_map, List.getElem?_eq_getElem l]; rfl)
  rw [← e] at t
  exact t
section
variable {P : Program} {w : World} {K : PySem.W.Frag} {mg : Str → Option Value} {base : Heap} {f : Addr} {fd : FuncData}
abbrev HDs (rules : List Rule) : List Str := hd rules
structure TI (K : PySem.W.Frag) (H H5 : Hp) (rules : List Rule) (b : List (Str × Nat)) (heads : List Str) (D0 Z : Nat) (D Pl W : Addr) (us : List V) (ts : List Tr) (as : List Addr) (es : List Ent) (ds : List Nat) : Prop where
  sm : Same H H5
  eD : H5 D = some (.lst ((hd rules).map V.str))
  eP : H5 Pl = some (.lst us)
  eW : H5 W = some (.lst (as.map V.ref))
  pt : Paired (fun v t => TrV K H5 t v) us ts
  pe : Paired (fun a e => EntV K H5 a e) as es
  fd : Paired (fun t d => dp t ≤ d ∧ Fit rules t ∧ ∀ z, t = .w z → d = 0) ts ds
  run : Run rules (hd rules) b D0 es.reverse ds
  sz : (ts.map sz).sum + (es.map (size (hd rules) b)).sum ≤ Z
  nPW : Pl ≠ W
  nDP : D ≠ Pl
  nDW : D ≠ W
  fP : H Pl = none
  fW : H W = none
theorem TI.same {K : PySem.W.Frag} {H H5 H6 : Hp} {rules : List Rule} {b : List (Str × Nat)} {heads : List Str} {D0 Z : Nat} {D Pl W : Addr} {us : List V} {ts : List Tr} {as : List Addr} {es : List Ent} {ds : List Nat} (t : TI K H H5 rules b heads D0 Z D Pl W us ts as es ds) (s : Same H5 H6) : TI K H H6 rules b heads D0 Z D Pl W us ts as es ds :=
  ⟨t.sm.trans s, s _ _ t.eD, s _ _ t.eP, s _ _ t.eW, Paired.mapP t.pt fun v t z => TrV.keep (fun _ _ y => s.tup y) t z, Paired.mapP t.pe fun v t z => z.keep fun _ _ y => s.tup y, t.fd, t.run, t.sz, t.nPW, t.nDP, t.nDW, t.fP, t.fW⟩
def spTree (K : PySem.W.Frag) : Sp := fun vs H Q _ => ∃ (R B : Addr) (rs : List Addr) (rules : List Rule) (b : List (Str × Nat)) (x : Str) (c : Int) (l : Nat), vs = [.ref R, .ref B, .str x, .int c, .int (l : Int)] ∧ l ≤ 3 ∧ SqL K H R (rs.map V.ref) ∧ Rules K H rs rules ∧ Small rules ∧ H B = some (.dK (bk b)) ∧
  Ranked rules (hd rules) b ∧ (∀ z ∈ hd rules, z ∈ kys b) ∧ b.length ≤ 5 ∧ x ∈ hd rules ∧ ∀ (v : V) (t : Tr) (H' : Hp), Same H H' → TrV K H' t v → Fit rules t → dp t ≤ 8 → sz t ≤ 100000 → (∀ z, t ≠ .w z) → Q v H'
abbrev NT : List Str := ["_law_rules_here", "_law_best", "_law_name", "_law_cell", "_law_room", "_law_heads", "_law_pile", "_law_todo", "_law_part_here", "_law_left", "_law_number", "_law_many", "_law_children", "_law_some", "_law_other"]
theorem scTree : FnScope NT ["_law_rules_here", "_law_best", "_law_name", "_law_cell", "_law_room"] (defScope sTree) := ⟨rfl, rfl, rfl, by decide +kernel, rfl, by decide +kernel, by decide +kernel⟩
theorem ok_tree (F : Fun K "_law_tree" "_law_tree" sTree f fd) (T : Txt mg) : FnOk P w K mg base CX0 1 f fd ["_law_rules_here", "_law_best", "_law_name", "_law_cell", "_law_room"] (spTree K) := by
  refine F.ok scTree (fun vs H Q E h => ?_) (fun cdv A outer s H vs Q E hr h => ?_)
  · obtain ⟨R, B, rs, rules, b, x, c, l, rfl, _⟩ := h; rfl
  · obtain ⟨R, B, rs, rules, b, x, c, l, rfl, hl3, hR, hrl, hsm, hB, hrk, hky, hb5, hx, q⟩ := h
    have hu := hu_of hr
    have hu0 := Nat.lt_of_succ_lt hu
    have hsm2 := hsm.most
    refine ⟨_, pss_cons (ps_setC (iy := 5) ["_law_head", "_law_parts"] [] scTree.nd rfl rfl rfl (pi_list (pv 0)) (caps_of rfl rfl) (by decide +kernel) rfl (by decide +kernel)
        (fun _ _ _ _ _ => pg_tupK (n := 2) K rfl (pgs_cons (pg_name (i := 0) (show (["_law_head", "_law_parts"] : List Str).Nodup by decide +kernel) rfl (Or.inl rfl)) (pgs_cons (pg_name (i := 1) (show (["_law_head", "_law_parts"] : List Str).Nodup by decide +kernel) rfl (Or.inl rfl)) pgs_nil))) (fun _ _ _ _ _ => pif_nil)
        (fun _ _ _ _ _ => pv 0))
      (pss_cons (ps_set (i := 6) scTree.nd rfl (Or.inl rfl) (pe_lst pa_nil))
      (pss_cons (ps_set (i := 7) scTree.nd rfl (Or.inl rfl) (pe_lst (pa_cons (pe_tup (pa_cons (pv 2) (pa_cons (pv 4) pa_nil))) pa_nil)))
      (pss_cons (ps_while PassesOwn.never (pt_cmpR (op_ne_nil hu0) (pv 7) (pe_lst pa_nil) (nomark _)) (pss_cons (ps_asg (pe_bm0 PySem.F.plainAttrs_list PySem.F.slot_list_pop PySem.F.type_list_pop mt_pop (pv 7)) (pg_tupK (n := 2) K rfl (pgs_cons (pg_name (i := 8) scTree.nd rfl (Or.inr rfl)) (pgs_cons (pg_name (i := 9) scTree.nd rfl (Or.inl rfl)) pgs_nil))))
      (pss_one (ps_if (pt_cmpR op_lt (pv 9) pe_int (nomark _)) (pss_cons (ps_set (i := 10) scTree.nd rfl (Or.inl rfl) (pv 8))
      (pss_cons (ps_set (i := 11) scTree.nd rfl (Or.inl rfl) (pe_callB call_len_seq rfl T.len PySem.boot_len (pa_cons (pe_ix ix_tup (pe_ix ix_list (pv 0) (pv 10) (fun _ _ => rfl)) pe_int (fun _ _ => rfl)) pa_nil)))
      (pss_cons (ps_set (i := 12) scTree.nd rfl (Or.inl rfl) (pe_slice sl_list (pv 6) (po_some (pe_op op_sub (pe_callB call_len_seq rfl T.len PySem.boot_len (pa_cons (pv 6) pa_nil)) (pv 11))) po_none))
      (pss_one (ps_set (i := 6) scTree.nd rfl (Or.inl rfl) (pe_op op_cat (pe_slice sl_list (pv 6) po_none (po_some (pe_op op_sub (pe_callB call_len_seq rfl T.len PySem.boot_len (pa_cons (pv 6) pa_nil)) (pv 11)))) (pe_lst (pa_cons (pe_tup (pa_cons (pv 10) (pa_cons (pe_callTy call_tuple_of rfl T.tup PyProof.Rows.boot_tuple (pa_cons (pv 12) pa_nil)) pa_nil))) pa_nil)))))))) (pss_one (ps_if (pt_cmpR op_notIn_seq (pv 8) (pv 5) rfl) (pss_one (ps_expr (pe_bm PySem.F.plainAttrs_list PySem.F.slot_list_append PySem.F.type_list_append mt_append (pv 6) (pa_cons (pv 8) pa_nil)))) (pss_cons (ps_setC (iy := 13) ["_law_number"] [(8, "_law_part_here"), (0, "_law_rules_here")] scTree.nd rfl rfl rfl (pi_range1 rfl T.rng (pa_cons (pe_callB call_len_seq rfl T.len PySem.boot_len (pa_cons (pv 0) pa_nil)) pa_nil)) (caps_of rfl rfl) (by decide +kernel) rfl (by decide +kernel)
                (fun _ _ _ _ _ => pg_name (i := 0) (show (["_law_number", "_law_part_here", "_law_rules_here"] : List Str).Nodup by decide +kernel) rfl (Or.inl rfl)) (fun _ _ _ _ _ => pif_one (pt_cmpR op_eq (pe_ix (ix_tupK K) (pe_ix (ix_listK K) (pv 2) (pv 0) (fun _ _ => rfl)) pe_int (fun _ _ => rfl)) (pv 1) (nomark _))) (fun _ _ _ _ _ => pv 0))
      (pss_cons (ps_set (i := 10) scTree.nd rfl (Or.inl rfl) (pe_dget hu (pv 1) (pv 8) (fun _ _ => rfl)))
      (pss_cons (ps_cutS (ps_if (pt_cmpR op_gt (pv 9) pe_int (nomark _)) (pss_cons (ps_set (i := 10) scTree.nd rfl (Or.inl rfl) (pe_ix ix_list (pv 13) (pe_op op_mod (pv 3) (pe_callB call_len_seq rfl T.len PySem.boot_len (pa_cons (pv 13) pa_nil))) (fun _ _ => rfl)))
      (pss_one (ps_set (i := 3) scTree.nd rfl (Or.inl rfl) (pe_op op_fdiv (pv 3) (pe_callB call_len_seq rfl T.len PySem.boot_len (pa_cons (pv 13) pa_nil)))))) pss_nil))
      (pss_cons (ps_expr (pe_bm PySem.F.plainAttrs_list PySem.F.slot_list_append PySem.F.type_list_append mt_append (pv 7) (pa_cons (pe_tup (pa_cons (pv 10) (pa_cons (pe_un un_neg pe_int) pa_nil))) pa_nil)))
      (pss_one (ps_for PassesOwn.never rfl (pi_revT rfl T.rev (pa_cons (pe_ix ix_tup (pe_ix ix_list (pv 0) (pv 10) (fun _ _ => rfl)) pe_int (fun _ _ => rfl)) pa_nil)) (pg_name (i := 14) scTree.nd rfl (Or.inl rfl)) (pss_one (ps_expr (pe_bm PySem.F.plainAttrs_list PySem.F.slot_list_append PySem.F.type_list_append mt_append (pv 7) (pa_cons (pe_tup (pa_cons (pv 14) (pa_cons (pe_callB (call_max2 rfl) rfl T.max boot_max (pa_cons pe_int (pa_cons (pe_op op_sub (pv 9) pe_int) pa_nil))) pa_nil))) pa_nil))))))))))))))))
      (pss_one (ps_ret (pe_ix ix_list (pv 6) pe_int (fun _ _ => rfl))))))), ?_⟩
    have ll := Paired.length hrl
    refine ⟨_, rfl, R, rfl, ⟨_, hR⟩, fun D hD => comp_heads hR hrl (by omega) hD fun H1 s1 eD1 => ?_⟩
    refine goN ?_
    refine ⟨(by show 0 ≤ sizeLine; decide), fun P0 hP0 => ?_⟩
    have k2 := same_laid hP0 (.lst [])
    have nDP : D ≠ P0 := fun z => by rw [← z, eD1] at hP0; cases hP0
    have fP0 : H P0 = none := s1.free hP0
    have eP2 : upd H1 P0 (.lst []) P0 = some (.lst []) := upd_same
    have eD2 := k2 _ _ eD1
    have s2 := s1.trans k2
    generalize upd H1 P0 (.lst []) = H2 at k2 eP2 eD2 s2
    refine goN ?_
    refine ⟨_, rfl, _, rfl, (by show 2 ≤ sizeLine; decide), fun a0 ha0 => ⟨(by show 1 ≤ sizeLine; decide), fun W hW => ?_⟩⟩
    have k3 := (same_laid ha0 (.tup [.str x, .int (l : Int)])).trans (same_laid hW (.lst [.ref a0]))
    have v0 : SqT K (upd (upd H2 a0 (.tup [.str x, .int (l : Int)])) W (.lst [.ref a0])) a0 [.str x, .int (l : Int)] := (same_laid hW _).tup (SqT.of upd_same)
    have eW3 : upd (upd H2 a0 (.tup [.str x, .int (l : Int)])) W (.lst [.ref a0]) W = some (.lst [.ref a0]) := upd_same
    have fW2 : H2 W = none := (same_laid ha0 _).free hW
    generalize upd (upd H2 a0 (.tup [.str x, .int (l : Int)])) W (.lst [.ref a0]) = H3 at k3 v0 eW3
    refine goN ?_
    have ti0 : TI K H H3 rules b (HDs rules) (eD (hd rules) b x l) (eZ (hd rules) b x l) D P0 W [] [] [a0] [.ex x l] [] :=
      ⟨s2.trans k3, k3 _ _ eD2, k3 _ _ eP2, eW3, .nil, .cons v0 .nil, .nil, rfl, by simp [size], (fun z => by rw [← z, eP2] at fW2; cases fW2), nDP, (fun z => by rw [← z, eD2] at fW2; cases fW2), fP0, s2.free fW2⟩
    refine ⟨fun m σ H5 => ∃ (c : Int) (Pl : Addr) (us : List V) (ts : List Tr) (as : List Addr) (es : List Ent) (ds : List Nat) (y8 y9 y10 y11 y12 y13 y14 : Option V), σ = [some (.ref R), some (.ref B), some (.str x), some (.int c), some (.int (l : Int)), some (.ref D), some (.ref Pl), some (.ref W), y8, y9, y10, y11, y12, y13, y14] ∧
        TI K H H5 rules b (HDs rules) (eD (hd rules) b x l) (eZ (hd rules) b x l) D Pl W us ts as es ds ∧ m = (es.map (cost (hd rules) b)).sum,
      ⟨_, c, P0, [], [], [a0], [.ex x l], [], _, _, _, _, _, _, _, rfl, ti0, rfl⟩, ?_⟩
    clear ti0 eW3 v0 k3 fW2 ha0 hW eP2 eD2 s2 hP0 k2 nDP fP0 eD1 s1
    rintro m σ H5 ⟨c, Pl, us, ts, as, es, ds, y8, y9, y10, y11, y12, y13, y14, rfl, ti, em⟩
    have hZ := Nat.le_trans (eZ_le hb5 hky x l) (bZ_le hl3)
    have ls := lsize (hd rules) b es
    have lt := lsz ts
    have lut := Paired.length ti.pt
    have lte := Paired.length ti.pe
    have ltd := Paired.length ti.fd
    have hsz := ti.sz
    refine ⟨_, rfl, (by show 0 ≤ sizeLine; decide), fun L0 hL0 => ⟨W, L0, _, rfl, rfl, SqL.of (same_laid hL0 _ _ _ ti.eW), SqL.of upd_same, _, rfl, ?_⟩⟩
    have ti := ti.same (same_laid hL0 (.lst []))
    generalize upd H5 L0 (.lst []) = H5 at ti
    refine ite2 (fun cc => ?_) (fun cc => ?_)
    · obtain ⟨as', a, es', e, rfl, rfl, pe', ve⟩ := paired_last ti.pe (fun z => by rw [z] at cc; simp at cc)
      have eW : H5 W = some (.lst (as'.map V.ref ++ [V.ref a])) := by
        have := ti.eW
        rw [List.map_append] at this
        exact this
      rw [List.map_append, List.sum_append] at em hsz
      simp only [List.map_cons, List.map_nil, List.sum_cons, List.sum_nil, Nat.add_zero] at em hsz
      have run := ti.run
      rw [List.reverse_append, List.reverse_singleton, List.singleton_append] at run
      refine ⟨_, fun _ _ h => h, ?_⟩
      refine ⟨_, rfl, .inl ⟨rfl, _, SqL.of eW⟩, W, _, .ref a, rfl, rfl, eW, pop_last, ?_⟩
      rw [List.dropLast_concat]
      have tk : ∀ a xs, SqT K H5 a xs → SqT K (upd H5 W (.lst (as'.map V.ref))) a xs := fun a xs z => sqt_upd eW z
      have ve6 := ve.keep tk
      have sm6 : Same H (upd H5 W (.lst (as'.map V.ref))) := fun b o hb => by rw [upd_ne (fun z => by rw [z, ti.fW] at hb; cases hb)]; exact ti.sm b o hb
      have eD6 : upd H5 W (.lst (as'.map V.ref)) D = some (.lst ((hd rules).map V.str)) := by rw [upd_ne ti.nDW]; exact ti.eD
      have eP6 : upd H5 W (.lst (as'.map V.ref)) Pl = some (.lst us) := by rw [upd_ne ti.nPW]; exact ti.eP
      have eW6 : upd H5 W (.lst (as'.map V.ref)) W = some (.lst (as'.map V.ref)) := upd_same
      have pt6 : Paired (fun v t => TrV K (upd H5 W (.lst (as'.map V.ref))) t v) us ts := Paired.mapP ti.pt fun v t z => TrV.keep tk t z
      have pe6 : Paired (fun a e => EntV K (upd H5 W (.lst (as'.map V.ref))) a e) as' es' := Paired.mapP pe' fun v t z => z.keep tk
      obtain ⟨_, _, _, _, _, _, fd, _, _, nPW, nDP, nDW, fP, fW⟩ := ti
      generalize upd H5 W (.lst (as'.map V.ref)) = H6 at ve6 sm6 eD6 eP6 eW6 pt6 pe6
      clear ve tk pe' cc
      rw [List.length_append] at ls lte
      simp only [List.length_cons, List.length_nil] at ls lte
      have le' := Paired.length pe6
      have lse := lsize (hd rules) b es'
      cases e with
      | rd k d =>
        obtain ⟨ds0, ds1, ru, rfl, eru, ld1, hd1, hdd, run'⟩ := run
        refine ⟨a, _, rfl, ve6, rfl, _, _, rfl, _, _, rfl, rfl, ?_⟩
        refine ⟨_, rfl, _, _, rfl, rfl, _, rfl, ?_⟩
        refine iteT ?_
        obtain ⟨r, er, p, v1, v2⟩ := Paired.at_ hrl k ru eru
        have atk : atI (rs.map V.ref) (k : Int) = some (.ref r) := atI_nat (by rw [List.getElem?_map, er]; rfl)
        rw [List.length_append] at ltd
        have elen : (us.length : Int) - (ru.2.length : Int) = ((ds0.length : Nat) : Int) := by omega
        refine ⟨_, rfl, ?_⟩
        refine goN ?_
        refine ⟨_, rfl, _, rfl, R, _, _, _, rfl, rfl, sm6.seq hR, atk, r, _, _, _, rfl, rfl, sm6.tup v1, rfl, p, _, rfl, .inr (sm6.tup v2), ?_⟩
        refine goN ?_
        refine ⟨_, rfl, _, rfl, Pl, _, rfl, .inl (SqL.of eP6), _, rfl, _, _, rfl, rfl, (ds0.length : Int), (by show V.int ((us.length : Int) - ((ru.2.map V.str).length : Int)) = _; rw [List.length_map, elen]), Pl, _, rfl, SqL.of eP6, fun C hC => ?_⟩
        rw [cut_from]
        have k7 := same_laid hC (.lst (us.drop ds0.length))
        have eC7 : upd H6 C (.lst (us.drop ds0.length)) C = some (.lst (us.drop ds0.length)) := upd_same
        have eP7 := k7 _ _ eP6
        generalize upd H6 C (.lst (us.drop ds0.length)) = H7 at k7 eC7 eP7
        refine goN ?_
        refine ⟨_, rfl, _, rfl, Pl, _, rfl, .inl (SqL.of eP7), _, rfl, _, _, rfl, rfl, (ds0.length : Int), (by show V.int ((us.length : Int) - ((ru.2.map V.str).length : Int)) = _; rw [List.length_map, elen]), Pl, _, rfl, SqL.of eP7, fun P1 hP1 => ?_⟩
        rw [cut_to]
        have k8 := k7.trans (same_laid hP1 (.lst (us.take ds0.length)))
        have eC8 := same_laid hP1 (.lst (us.take ds0.length)) _ _ eC7
        have eP8 : upd H7 P1 (.lst (us.take ds0.length)) P1 = some (.lst (us.take ds0.length)) := upd_same
        generalize upd H7 P1 (.lst (us.take ds0.length)) = H8 at k8 eC8 eP8
        refine ⟨_, rfl, _, rfl, C, _, rfl, .inl ⟨SqL.of eC8, fun tp htp => ⟨(by show 2 ≤ sizeLine; decide), fun nd hnd => ⟨(by show 1 ≤ sizeLine; decide), fun L1 hL1 => ?_⟩⟩⟩⟩
        have k9 := (same_laid htp (.tup (us.drop ds0.length))).trans ((same_laid hnd (.tup [.int (k : Int), .ref tp])).trans (same_laid hL1 (.lst [.ref nd])))
        have u1 : SqT K (upd (upd (upd H8 tp (.tup (us.drop ds0.length))) nd (.tup [.int (k : Int), .ref tp])) L1 (.lst [.ref nd])) tp (us.drop ds0.length) := (same_laid hL1 _).tup ((same_laid hnd _).tup (SqT.of upd_same))
        have u2 : SqT K (upd (upd (upd H8 tp (.tup (us.drop ds0.length))) nd (.tup [.int (k : Int), .ref tp])) L1 (.lst [.ref nd])) nd [.int (k : Int), .ref tp] := (same_laid hL1 _).tup (SqT.of upd_same)
        have e1 : upd (upd (upd H8 tp (.tup (us.drop ds0.length))) nd (.tup [.int (k : Int), .ref tp])) L1 (.lst [.ref nd]) L1 = some (.lst [.ref nd]) := upd_same
        generalize upd (upd (upd H8 tp (.tup (us.drop ds0.length))) nd (.tup [.int (k : Int), .ref tp])) L1 (.lst [.ref nd]) = H9 at k9 u1 u2 e1
        refine ⟨P1, L1, _, _, rfl, rfl, k9 _ _ eP8, e1, fits (by rw [List.length_take]; show min _ _ + 1 ≤ _; omega), fun P2 hP2 => ?_⟩
        have kA := (k8.trans k9).trans (same_laid hP2 (.lst (us.take ds0.length ++ [.ref nd])))
        have u1A := (same_laid hP2 (.lst (us.take ds0.length ++ [.ref nd]))).tup u1
        have u2A := (same_laid hP2 (.lst (us.take ds0.length ++ [.ref nd]))).tup u2
        have f2 : H6 P2 = none := (k8.trans k9).free hP2
        have eP2 : upd H9 P2 (.lst (us.take ds0.length ++ [.ref nd])) P2 = some (.lst (us.take ds0.length ++ [.ref nd])) := upd_same
        generalize upd H9 P2 (.lst (us.take ds0.length ++ [.ref nd])) = HA at kA u1A u2A eP2
        have ptA : Paired (fun v t => TrV K HA t v) us ts := Paired.mapP pt6 fun v t z => TrV.keep (fun _ _ y => kA.tup y) t z
        have sp : ts = ts.take ds0.length ++ ts.drop ds0.length := (List.take_append_drop _ _).symm
        obtain ⟨fd0, fd1⟩ := paired_cut fd
        have pt2 := ptA
        rw [sp] at pt2
        have lts : (ts.take ds0.length).length = ds0.length := by rw [List.length_take]; omega
        obtain ⟨pt0, pt1⟩ := paired_cut pt2
        rw [lts] at pt0 pt1
        have cs : ∀ t ∈ ts.drop ds0.length, dp t + 1 ≤ d ∧ Fit rules t := fun t ht => by
          obtain ⟨dd, h1, h2, h3⟩ := paired_left fd1 t ht
          have := hdd dd h1
          exact ⟨by omega, h3.1⟩
        have tnew : TrV K HA (.n k (Trs.ofL (ts.drop ds0.length))) (.ref nd) := by
          unfold TrV
          exact ⟨nd, tp, _, rfl, u2A, u1A, ofL_trsV pt1⟩
        have snew : sz (.n k (Trs.ofL (ts.drop ds0.length))) = 1 + ((ts.drop ds0.length).map sz).sum := by
          show 1 + szs (Trs.ofL (ts.drop ds0.length)) = _
          rw [szs_toL, toL_ofL]
        have dnew : dp (.n k (Trs.ofL (ts.drop ds0.length))) ≤ d := by
          show 1 + dps (Trs.ofL (ts.drop ds0.length)) ≤ d
          have := ofL_dps (b := d - 1) (ts.drop ds0.length) fun t ht => by have := (cs t ht).1; omega
          omega
        have fnew : Fit rules (.n k (Trs.ofL (ts.drop ds0.length))) := by
          unfold Fit
          exact ⟨⟨ru, eru, by rw [toL_ofL, List.length_drop]; omega⟩, ofL_fits _ fun t ht => (cs t ht).2⟩
        have ssum : (ts.map sz).sum = ((ts.take ds0.length).map sz).sum + ((ts.drop ds0.length).map sz).sum := by
          rw [← List.sum_append, ← List.map_append, List.take_append_drop]
        refine ⟨(es'.map (cost (hd rules) b)).sum, by rw [em]; show _ < _ + 1; omega, c, P2, _, ts.take ds0.length ++ [.n k (Trs.ofL (ts.drop ds0.length))], as', es', ds0 ++ [d], _, _, _, _, _, _, _, rfl, ⟨sm6.trans kA, kA _ _ eD6, eP2, kA _ _ eW6, Paired.snoc pt0 tnew, Paired.mapP pe6 fun a e z => z.keep fun _ _ y => kA.tup y, Paired.snoc fd0 ⟨dnew, fnew, fun z e => by cases e⟩, run', ?_, fun z => ?_, fun z => ?_, nDW, sm6.free f2, fW⟩, rfl⟩
        · rw [List.map_append, List.sum_append]
          simp only [List.map_cons, List.map_nil, List.sum_cons, List.sum_nil, Nat.add_zero]
          rw [snew]
          have : size (hd rules) b (.rd k d) = 1 := rfl
          omega
        · rw [z, eW6] at f2; cases f2
        · rw [← z, eD6] at f2; cases f2
      | ex y ly =>
        have run' : Run rules (hd rules) b (eD (hd rules) b x l) es'.reverse (ds ++ [eD (hd rules) b y ly]) := run
        refine ⟨a, _, rfl, ve6, rfl, _, _, rfl, _, _, rfl, rfl, ?_⟩
        refine ⟨_, rfl, _, _, rfl, rfl, _, rfl, ?_⟩
        refine ite2 (fun c0 => absurd (of_decide_eq_true c0) (by omega)) (fun _ => ?_)
        have zp := eZ_pos (hd rules) b y ly
        have em' : m = (es'.map (cost (hd rules) b)).sum + 2 * eZ (hd rules) b y ly := em
        have hsz' : (ts.map sz).sum + ((es'.map (size (hd rules) b)).sum + eZ (hd rules) b y ly) ≤ eZ (hd rules) b x l := hsz
        refine ⟨_, rfl, _, rfl, D, _, rfl, .inl (SqL.of eD6), rfl, flat_strs _, _, rfl, ?_⟩
        rw [inV_str]
        show if (!decide (y ∈ hd rules)) = true then _ else _
        refine ite2 (fun c1 => ?_) (fun c1 => ?_)
        · have hy : y ∉ hd rules := by simpa using c1
          refine ⟨_, rfl, .inl ⟨rfl, _, SqL.of eP6⟩, _, rfl, Pl, _, _, rfl, rfl, eP6, fits' (by omega), ?_⟩
          have kk : ∀ a xs, SqT K H6 a xs → SqT K (upd H6 Pl (.lst (us ++ [.str y]))) a xs := fun a xs z => sqt_upd eP6 z
          refine ⟨(es'.map (cost (hd rules) b)).sum, by omega, c, Pl, us ++ [.str y], ts ++ [.w y], as', es', ds ++ [eD (hd rules) b y ly], _, _, _, _, _, _, _, rfl, ⟨fun b o hb => by rw [upd_ne (fun z => by rw [z, fP] at hb; cases hb)]; exact sm6 b o hb, by rw [upd_ne nDP]; exact eD6, upd_same, by rw [upd_ne (Ne.symm nPW)]; exact eW6, Paired.snoc (Paired.mapP pt6 fun v t z => TrV.keep kk t z) (by unfold TrV; rfl), Paired.mapP pe6 fun a e z => z.keep kk, Paired.snoc fd ⟨by unfold dp; omega, by unfold Fit; trivial, fun z _ => by unfold eD; rw [if_neg hy]⟩, run', ?_, nPW, nDP, nDW, fP, fW⟩, rfl⟩
          rw [List.map_append, List.sum_append]
          simp only [List.map_cons, List.map_nil, List.sum_cons, List.sum_nil, Nat.add_zero]
          have : sz (.w y) = 1 := by unfold sz; rfl
          omega
        · have hy : y ∈ hd rules := by simpa using c1
          have kpos := ks_pos hy
          refine ⟨_, rfl, R, _, rfl, .inl (sm6.seq hR), _, rfl, by rw [List.length_map]; omega, by rw [List.length_map]; omega, fun D1 hD1 => ?_⟩
          rw [List.length_map, Int.toNat_natCast]
          refine compG_range (fun j ys σ2 H7 => ys = (ksOf rules y j).map (fun k : Nat => V.int (k : Int)) ∧ (∃ y0, σ2 = [y0, some (.str y), some (.ref R)]) ∧ Same H6 H7 ∧ H7 D1 = some (.lst ys)) ⟨rfl, ⟨none, rfl⟩, same_laid hD1 _, upd_same⟩ (fun j ys σ2 H7 hj h => ?_) (fun ys σ2 H7 h => ?_)
          · obtain ⟨rfl, ⟨y0, rfl⟩, sm, eD⟩ := h
            obtain ⟨ru, eru⟩ : ∃ ru, rules[j]? = some ru := ⟨rules[j]'(by omega), List.getElem?_eq_getElem (by omega)⟩
            obtain ⟨a, ea, t, ha, ht⟩ := Paired.at_ hrl j ru eru
            have atj : atI (rs.map V.ref) (0 + (j : Int)) = some (.ref a) := by
              rw [Int.zero_add]
              exact atI_nat (by rw [List.getElem?_map, ea]; rfl)
            have ks1 : ksOf rules y (j + 1) = ksOf rules y j ++ (if ru.1 = y then [j] else []) := by
              unfold ksOf
              rw [List.range_succ, List.filter_append, List.filter_cons, List.filter_nil, eru]
              congr 1
              by_cases c : ru.1 = y <;> simp [c]
            have kl : (ksOf rules y j).length ≤ j := by
              unfold ksOf
              exact Nat.le_trans (List.length_filter_le _ _) (by rw [List.length_range]; exact Nat.le_refl _)
            refine goN ?_
            refine ⟨_, rfl, _, rfl, R, _, _, _, rfl, rfl, sm.seq (sm6.seq hR), atj, a, _, _, _, rfl, rfl, sm.tup (sm6.tup ha), rfl, _, rfl, rfl, _, rfl, ?_⟩
            refine ite2 (fun cc => ?_) (fun cc => ?_)
            · have c' : ru.1 = y := by simpa using cc
              rw [ks1, if_pos c', List.map_append]
              refine ⟨_, rfl, eD, fits' (by rw [List.length_map]; omega), ?_, ⟨_, rfl⟩, ?_, upd_same⟩
              · rw [Int.zero_add]; rfl
              · intro b o hb
                rw [upd_ne (fun z => by rw [z, hD1] at hb; cases hb)]
                exact sm b o hb
            · have c' : ¬ ru.1 = y := by simpa using cc
              rw [ks1, if_neg c', List.append_nil]
              exact ⟨rfl, ⟨_, rfl⟩, sm, eD⟩
          · obtain ⟨rfl, _, sm, eD1⟩ := h
            rw [ll] at eD1
            have lk8 : (ksOf rules y rules.length).length ≤ 8 := by
              unfold ksOf
              exact Nat.le_trans (List.length_filter_le _ _) (by rw [List.length_range]; exact hsm2)
            refine goN ?_
            obtain ⟨k0, ek0, vk0⟩ := bk_rk b y (hky y hy)
            obtain ⟨parts0, ep0, hp0⟩ := hrk _ _ _ ek0
            have g0 := DGet.k (k := Sum.inr y) (sm _ _ (sm6 _ _ hB))
            rw [vk0] at g0
            refine ⟨_, rfl, _, rfl, B, _, rfl, g0, ?_⟩
            refine goN ?_
            refine ⟨fun σ H8 => ∃ (k : Nat) (parts : List Str) (c2 : Int), H8 = H7 ∧ σ = [some (.ref R), some (.ref B), some (.str x), some (.int c2), some (.int (l : Int)), some (.ref D), some (.ref Pl), some (.ref W), some (.str y), some (.int (ly : Int)), some (.int (k : Int)), y11, y12, some (.ref D1), y14] ∧ rules[k]? = some (y, parts) ∧ (ly = 0 → ∀ p ∈ parts, p ∉ hd rules ∨ rkOf b p < rkOf b y), ?_, ?_⟩
            · refine ⟨_, rfl, _, _, rfl, rfl, _, rfl, ?_⟩
              refine ite2 (fun c2 => ?_) (fun c2 => ?_)
              · have hly : ly ≠ 0 := fun z => by
                  have := of_decide_eq_true c2
                  omega
                have hki : (0 : Int) < ((ksOf rules y rules.length).length : Int) := by omega
                obtain ⟨k1, hk1, ek1⟩ := atMK (zs := ksOf rules y rules.length) rfl hki c
                obtain ⟨parts1, ep1⟩ := ks_mem hk1
                refine ⟨_, rfl, _, rfl, _, rfl, D1, _, rfl, .inl (SqL.of eD1), _, _, rfl, rfl, ?_⟩
                rw [List.length_map]
                refine ⟨hki, D1, _, _, _, rfl, rfl, SqL.of eD1, ek1, ?_⟩
                refine goN ?_
                refine ⟨_, rfl, _, rfl, D1, _, rfl, .inl (SqL.of eD1), _, _, rfl, rfl, ?_⟩
                rw [List.length_map]
                refine ⟨⟨hki, by show ((ksOf rules y rules.length).length : Int) < 1073741824; omega⟩, ?_⟩
                exact ⟨k1, parts1, _, rfl, rfl, ep1, fun z => absurd z hly⟩
              · refine ⟨k0, parts0, c, rfl, rfl, ep0, fun _ p hp => ?_⟩
                rcases hp0 p hp with h | h
                · exact .inr (rk_take h)
                · exact .inl h
            · rintro σ H8 ⟨k, parts, c2, rfl, rfl, ek, hk0⟩
              obtain ⟨r, er, p, v1, v2⟩ := Paired.at_ hrl k _ ek
              have atk : atI (rs.map V.ref) (k : Int) = some (.ref r) := atI_nat (by rw [List.getElem?_map, er]; rfl)
              have h4 : parts.length ≤ 4 := hsm.few _ (List.mem_of_getElem? ek)
              obtain ⟨pd, pz⟩ := parts_in (rules := rules) hb5 hky (l := ly) hy h4 hk0
              have eW8 := sm _ _ eW6
              refine ⟨_, rfl, .inl ⟨rfl, _, SqL.of eW8⟩, _, rfl, _, rfl, (by show 2 ≤ sizeLine; decide), fun a1 ha1 => ?_⟩
              have k9 := sm.trans (same_laid ha1 (.tup [.int (k : Int), .int (-1)]))
              have va1 : SqT K (upd H8 a1 (.tup [.int (k : Int), .int (-1)])) a1 [.int (k : Int), .int (-1)] := SqT.of upd_same
              generalize upd H8 a1 (.tup [.int (k : Int), .int (-1)]) = H9 at k9 va1
              have eW9 := k9 _ _ eW6
              refine ⟨W, _, _, rfl, rfl, eW9, fits' (by rw [List.length_map]; omega), ?_⟩
              have s9 := sm6.trans k9
              have kk : ∀ a xs, SqT K H6 a xs → SqT K (upd H9 W (.lst (as'.map V.ref ++ [.ref a1]))) a xs := fun a xs z => sqt_upd eW9 (k9.tup z)
              have hR10 : SqL K (upd H9 W (.lst (as'.map V.ref ++ [.ref a1]))) R (rs.map V.ref) := (show Same H (upd H9 W _) from fun b o hb => by rw [upd_ne (fun z => by rw [z, fW] at hb; cases hb)]; exact s9 b o hb).seq hR
              have v10 : SqT K (upd H9 W (.lst (as'.map V.ref ++ [.ref a1]))) r [.str y, .ref p] := sqt_upd eW9 (s9.tup v1)
              have v20 : SqT K (upd H9 W (.lst (as'.map V.ref ++ [.ref a1]))) p (parts.map V.str) := sqt_upd eW9 (s9.tup v2)
              refine ⟨_, rfl, _, rfl, R, _, _, _, rfl, rfl, hR10, atk, r, _, _, _, rfl, rfl, v10, rfl, p, parts.map V.str, rfl, v20, ?_⟩
              refine for_revT (xs := parts.map V.str) (fun i σ HA => ∃ (as2 : List Addr) (y14' : Option V), σ = [some (.ref R), some (.ref B), some (.str x), some (.int c2), some (.int (l : Int)), some (.ref D), some (.ref Pl), some (.ref W), some (.str y), some (.int (ly : Int)), some (.int (k : Int)), y11, y12, some (.ref D1), y14'] ∧ Same H HA ∧ HA D = some (.lst ((hd rules).map V.str)) ∧ HA Pl = some (.lst us) ∧ HA W = some (.lst ((as' ++ [a1] ++ as2).map V.ref)) ∧ (∀ a xs, SqT K H6 a xs → SqT K HA a xs) ∧ EntV K HA a1 (.rd k (eD (hd rules) b y ly)) ∧ Paired (fun a e => EntV K HA a e) as2 ((parts.reverse.take i).map fun p => Ent.ex p (ly - 1))) ⟨[], _, rfl, fun b o hb => by rw [upd_ne (fun z => by rw [z, fW] at hb; cases hb)]; exact s9 b o hb, by rw [upd_ne nDW]; exact k9 _ _ eD6, by rw [upd_ne nPW]; exact k9 _ _ eP6, by rw [upd_same]; simp, kk, sqt_upd eW9 va1, .nil⟩ ?_ ?_ ?_
              · rintro i σ HA _ ⟨as2, y14', rfl, sA, eDA, ePA, eWA, kA, v1A, pA⟩
                exact sA.tup v2
              · rintro i v σ HA hi ev ⟨as2, y14', rfl, sA, eDA, ePA, eWA, kA, v1A, pA⟩
                rw [List.length_map] at hi ev
                rw [List.getElem?_map] at ev
                obtain ⟨z, ez, rfl⟩ := Option.map_eq_some_iff.mp ev
                have lA := Paired.length pA
                rw [List.length_map, List.length_take, List.length_reverse] at lA
                have ezr : parts.reverse[i]? = some z := by rw [List.getElem?_reverse hi]; exact ez
                refine goN ?_
                refine ⟨_, rfl, .inl ⟨rfl, _, SqL.of eWA⟩, _, rfl, _, rfl, _, _, rfl, rfl, 0, (ly : Int) - 1, rfl, ?_⟩
                have emax : (if (ly : Int) - 1 > 0 then (ly : Int) - 1 else 0) = ((ly - 1 : Nat) : Int) := by split <;> omega
                rw [emax]
                refine ⟨(by show 2 ≤ sizeLine; decide), fun a2 ha2 => ?_⟩
                have kB := same_laid ha2 (.tup [.str z, .int ((ly - 1 : Nat) : Int)])
                have vB : SqT K (upd HA a2 (.tup [.str z, .int ((ly - 1 : Nat) : Int)])) a2 [.str z, .int ((ly - 1 : Nat) : Int)] := SqT.of upd_same
                generalize upd HA a2 (.tup [.str z, .int ((ly - 1 : Nat) : Int)]) = HB at kB vB
                have eWB := kB _ _ eWA
                refine ⟨W, _, _, rfl, rfl, eWB, fits' (by rw [List.length_map, List.length_append, List.length_append, List.length_singleton]; omega), ?_⟩
                have kC : ∀ a xs, SqT K HA a xs → SqT K (upd HB W (.lst ((as' ++ [a1] ++ as2).map V.ref ++ [.ref a2]))) a xs := fun a xs z => sqt_upd eWB (kB.tup z)
                refine ⟨as2 ++ [a2], _, rfl, fun b o hb => by rw [upd_ne (fun z => by rw [z, fW] at hb; cases hb)]; exact kB _ _ (sA b o hb), by rw [upd_ne nDW]; exact kB _ _ eDA, by rw [upd_ne nPW]; exact kB _ _ ePA, by rw [upd_same]; simp, fun a xs z => kC a xs (kA a xs z), v1A.keep kC, ?_⟩
                have esn : ((parts.reverse.take (i + 1)).map fun p => Ent.ex p (ly - 1)) = ((parts.reverse.take i).map fun p => Ent.ex p (ly - 1)) ++ [Ent.ex z (ly - 1)] := by
                  rw [List.take_add_one, ezr, List.map_append]
                  rfl
                rw [esn]
                exact Paired.snoc (Paired.mapP pA fun a e z => z.keep kC) (show EntV K _ a2 (.ex z (ly - 1)) from sqt_upd eWB vB)
              · rintro σ HA ⟨as2, y14', rfl, sA, eDA, ePA, eWA, kA, v1A, pA⟩
                rw [List.length_map, List.take_of_length_le (by rw [List.length_reverse]; exact Nat.le_refl _)] at pA
                have ezs : ((parts.reverse.map fun p => Ent.ex p (ly - 1)).map (size (hd rules) b)).sum = (parts.map fun p => eZ (hd rules) b p (ly - 1)).sum := by
                  rw [List.map_map, List.map_reverse, List.sum_reverse]
                  rfl
                have ezc : ((parts.reverse.map fun p => Ent.ex p (ly - 1)).map (cost (hd rules) b)).sum = 2 * (parts.map fun p => eZ (hd rules) b p (ly - 1)).sum := by
                  rw [cost_parts, List.map_reverse, List.sum_reverse]
                refine ⟨((es' ++ [Ent.rd k (eD (hd rules) b y ly)] ++ parts.reverse.map fun p => Ent.ex p (ly - 1)).map (cost (hd rules) b)).sum, ?_, c2, Pl, us, ts, as' ++ [a1] ++ as2, es' ++ [Ent.rd k (eD (hd rules) b y ly)] ++ parts.reverse.map fun p => Ent.ex p (ly - 1), ds, _, _, _, _, _, _, _, rfl, ⟨sA, eDA, ePA, eWA, Paired.mapP pt6 fun v t z => TrV.keep kA t z, Paired.app' (Paired.snoc (Paired.mapP pe6 fun a e z => z.keep kA) v1A) pA, fd, ?_, ?_, nPW, nDP, nDW, fP, fW⟩, rfl⟩
                · rw [List.map_append, List.map_append, List.sum_append, List.sum_append, ezc]
                  show (es'.map (cost (hd rules) b)).sum + (1 + 0) + _ < m
                  omega
                · rw [List.reverse_append, List.reverse_append, List.reverse_singleton, ← List.map_reverse, List.reverse_reverse]
                  refine Run.parts parts (ly - 1) _ ds ?_
                  refine ⟨ds, _, (y, parts), rfl, ek, by rw [List.length_map], eD_pos hy, fun d hd => ?_, run'⟩
                  obtain ⟨q2, hq2, rfl⟩ := List.mem_map.mp hd
                  exact pd q2 hq2
                · rw [List.map_append, List.map_append, List.sum_append, List.sum_append, ezs]
                  show (ts.map sz).sum + ((es'.map (size (hd rules) b)).sum + (1 + 0) + _) ≤ _
                  omega
    · have e0 : as = [] := by
        cases as with
        | nil => rfl
        | cons _ _ => exact absurd rfl cc
      subst e0
      have pe := ti.pe
      cases pe
      have run := ti.run
      have eds : ds = [eD (hd rules) b x l] := run
      subst eds
      have pt := ti.pt
      have fd := ti.fd
      cases fd with
      | @cons t d ts' ds' h1 h2 =>
        cases h2
        cases pt with
        | @cons v t us' ts'' g1 g2 =>
          cases g2
          refine ⟨_, rfl, Pl, _, _, v, rfl, rfl, SqL.of ti.eP, rfl, ?_⟩
          have hs := ti.sz
          simp only [List.map_cons, List.map_nil, List.sum_cons, List.sum_nil, Nat.add_zero] at hs
          have hd8 := eD_le hb5 hky x l
          exact q v t H5 ti.sm g1 h1.2.1 (by have := h1.1; omega) (by omega) (fun z e => by have := h1.2.2 z e; have := eD_pos (b := b) (l := l) hx; omega)
end
end K11
namespace J9
open PySem L2 M11 K11
section
variable {P : Program} {w : World} {K : PySem.W.Frag} {mg : Str → Option Value} {base : Heap} {f : Addr} {fd : FuncData}
theorem comp_pairs {H : Hp} {R D : Addr} {rs : List Addr} {rules : List Rule} {σ : St} {Qp : Hp → Prop} (hR : SqL K H R (rs.map V.ref)) (hrl : Rules K H rs rules) (hlen : rules.length ≤ 1000) (hD : H D = none)
    (q : ∀ ts H2, Same H H2 → H2 D = some (.lst (ts.map V.ref)) → Paired (fun t h => SqT K H2 t [.str h, .bl true]) ts (rules.map (·.1)) → Qp H2) :
    ∃ W : Nat → Nat → List V → St → Hp → Prop, (∃ m, W 0 m [] (capS ["head", "parts"] [] σ) (upd H D (.lst []))) ∧
  ∀ i m ys σ' H, W i m ys σ' H → ((Itl K R).stop i H ∧ Qp H) ∨ ((Itl K R).go i H ∧ ∃ m', m' < m ∧ ∀ x H', (Itl K R).yld i H x H' → gTup K 2 (gCons (gName 0) (gCons (gName 1) gNil)) x σ' H' fun σ2 H2 => tTrue σ2 H2 fun b H3 =>
    if b = true then tTup (tCons (tVar 0) (tCons (tC (.bl true)) tNil)) σ2 H3 fun y H4 => H4 D = some (.lst ys) ∧ ys.length < sizeLine ∧ W (i + 1) m' (ys ++ [y]) σ2 (upd H4 D (.lst (ys ++ [y]))) else W (i + 1) m' ys σ2 H3) := by
  have ll := Paired.length hrl
  refine compG_list (xs := rs.map V.ref) (fun i ys σ2 H2 => ∃ ts : List Addr, ys = ts.map V.ref ∧ ts.length = i ∧ Paired (fun t h => SqT K H2 t [.str h, .bl true]) ts ((rules.take i).map (·.1)) ∧ (∃ y0 y1, σ2 = [y0, y1]) ∧ Same H H2 ∧ H2 D = some (.lst ys))
    ⟨[], rfl, rfl, .nil, ⟨none, none, rfl⟩, same_laid hD _, upd_same⟩ (fun i ys σ2 H2 _ h => ?_) (fun i x ys σ2 H2 ex h => ?_) (fun ys σ2 H2 h => ?_)
  · obtain ⟨_, _, _, _, _, sm, _⟩ := h
    exact sm.seq hR
  · obtain ⟨ts, rfl, ht, hp, ⟨y0, y1, rfl⟩, sm, hd⟩ := h
    rw [List.getElem?_map] at ex
    obtain ⟨r, er, rfl⟩ := Option.map_eq_some_iff.mp ex
    obtain ⟨ru, e1, p, v1, v2⟩ := hrl.get er
    have li := (List.getElem?_eq_some_iff.mp e1).1
    refine ⟨r, _, rfl, sm.tup v1, rfl, _, _, rfl, _, _, rfl, rfl, ?_⟩
    refine goT ?_
    refine ⟨_, rfl, (by show 2 ≤ sizeLine; decide), fun t ht2 => ⟨?_, fits' (by rw [List.length_map]; omega), ts ++ [t], ?_, ?_, ?_, ⟨_, _, rfl⟩, ?_, upd_same⟩⟩
    · rw [upd_ne (ne_of_none hd ht2)]; exact hd
    · rw [List.map_append]; rfl
    · rw [List.length_append, ht]; rfl
    · rw [List.take_add_one, e1, List.map_append]
      have hd3 : upd H2 t (.tup [.str ru.1, .bl true]) D = some (.lst (ts.map V.ref)) := by rw [upd_ne (ne_of_none hd ht2)]; exact hd
      exact Paired.snoc (Paired.mapP hp fun t' h' z => sqt_upd hd3 ((same_laid ht2 _).tup z)) (sqt_upd hd3 (SqT.of upd_same))
    · intro b o hb
      rw [upd_ne (fun z => by rw [z, hD] at hb; cases hb)]
      exact same_laid ht2 _ _ _ (sm b o hb)
  · obtain ⟨ts, rfl, ht, hp, _, sm, hd⟩ := h
    rw [List.length_map, ll, List.take_length] at hp
    exact q ts H2 sm hd hp
def spHeads (K : PySem.W.Frag) : Sp := fun vs H Q _ => ∃ (R : Addr) (rs : List Addr) (rules : List Rule), vs = [.ref R] ∧ SqL K H R (rs.map V.ref) ∧ Rules K H rs rules ∧ rules.length ≤ 1000 ∧
  ∀ D H', H D = none → Same H H' → H' D = some (.lst ((ded [] (rules.map (·.1))).map V.str)) → Q (.ref D) H'
theorem scHeads : FnScope ["rules"] ["rules"] (defScope sHeads) := ⟨rfl, rfl, rfl, by decide +kernel, rfl, by decide +kernel, by decide +kernel⟩
theorem ok_heads (F : Fun K "heads_of" "heads_of" sHeads f fd) (T : Txt mg) : FnOk P w K mg base CX0 1 f fd ["rules"] (spHeads K) := by
  refine F.ok scHeads (fun vs H Q E h => ?_) (fun cdv A outer s H vs Q E hr h => ?_)
  · obtain ⟨R, rs, rules, rfl, _⟩ := h; rfl
  · obtain ⟨R, rs, rules, rfl, hR, hrl, hlen, q⟩ := h
    refine ⟨_, pss_one (ps_ret (pe_callTy (call_listD rfl) rfl T.lst boot_lst (pa_cons (pe_callTy (call_dictP rfl) rfl T.dct boot_dct (pa_cons
      (pe_compG ["head", "parts"] [] rfl (pi_list (pv 0)) (caps_of rfl rfl) (by decide +kernel) rfl (by decide +kernel)
        (fun _ _ _ _ _ => pg_tupK (n := 2) K rfl (pgs_cons (pg_name (i := 0) (show (["head", "parts"] : List Str).Nodup by decide +kernel) rfl (Or.inl rfl)) (pgs_cons (pg_name (i := 1) (show (["head", "parts"] : List Str).Nodup by decide +kernel) rfl (Or.inl rfl)) pgs_nil))) (fun _ _ _ _ _ => pif_nil)
        (fun _ _ _ _ _ => pe_tup (pa_cons (pv 0) (pa_cons pe_bl pa_nil)))) pa_nil)) pa_nil))), ?_⟩
    refine ⟨_, rfl, R, rfl, ⟨_, hR⟩, fun D hD => comp_pairs hR hrl hlen hD fun ts H2 sm hd hp => ?_⟩
    have kp : Paired (fun t (kv : Key × V) => SqT K H2 t [kV kv.1, kv.2]) ts ((rules.map (·.1)).map fun h => ((Sum.inr h : Key), V.bl true)) := paired_mapR hp fun _ _ z => z
    refine ⟨D, ts, _, rfl, hd, kp, fun d hd2 => ?_⟩
    refine ⟨d, _, rfl, upd_same, fun D2 hD2 => ?_⟩
    rw [keys_str (keys_ded (rules.map (·.1)) [] [] rfl)]
    have nd : D2 ≠ d := fun z => by rw [z, upd_same] at hD2; cases hD2
    exact q D2 _ (sm.free (by rw [upd_ne nd] at hD2; exact hD2)) (sm.trans ((same_laid hd2 _).trans (same_laid hD2 _))) upd_same
end
def hd (rules : List Rule) : List Str := ded [] (rules.map (·.1))
def ruAt (rules : List Rule) (k : Int) : Option Rule := if 0 ≤ k then rules[k.toNat]? else none
theorem ruAt_nat {rules : List Rule} (k : Nat) : ruAt rules (k : Int) = rules[k]? := by
  unfold ruAt
  rw [if_pos (by omega), Int.toNat_natCast]
theorem ruAt_some {rules : List Rule} {k : Int} {ru : Rule} (h : ruAt rules k = some ru) : ∃ j : Nat, k = (j : Int) ∧ rules[j]? = some ru := by
  unfold ruAt at h
  by_cases c : 0 ≤ k
  · rw [if_pos c] at h
    exact ⟨k.toNat, by omega, h⟩
  · rw [if_neg c] at h
    cases h
theorem ruAt_none {rules : List Rule} {k : Int} (h : ruAt rules k = none) : ¬ (0 ≤ k ∧ k < (rules.length : Int)) := by
  rintro ⟨h1, h2⟩
  unfold ruAt at h
  rw [if_pos h1, List.getElem?_eq_none_iff] at h
  omega
section
variable {P : Program} {w : World} {K : PySem.W.Frag} {mg : Str → Option Value} {base : Heap} {f : Addr} {fd : FuncData}
theorem kit_st : PySem.W.kitOne K (.type "tuple") (.type "str") = some false := by kernel_rfl
def spBelow : Sp := fun vs H Q _ => ∃ (k m : Int), vs = [.int k, .int m] ∧ Q (.bl (decide (0 ≤ k ∧ k < m))) H
theorem scBelow : FnScope ["number", "many"] ["number", "many"] (defScope sBelow) := ⟨rfl, rfl, rfl, by decide +kernel, rfl, by decide +kernel, by decide +kernel⟩
theorem ok_below (F : Fun K "is_number_below" "is_number_below" sBelow f fd) (T : Txt mg) : FnOk P w K mg base CX0 1 f fd ["number", "many"] spBelow := by
  refine F.ok scBelow (fun vs H Q E h => ?_) (fun cdv A outer s H vs Q E hr h => ?_)
  · obtain ⟨k, m, rfl, _⟩ := h; rfl
  · obtain ⟨k, m, rfl, q⟩ := h
    refine ⟨_, pss_one (ps_ret (pe_and (pe_callB call_isinst rfl T.isi PyProof.Rows.boot_isinstance (pa_cons (pv 0) (pa_cons (pe_bltn (v := .ty "int") rfl T.int PyProof.Rows.boot_int rfl) pa_nil)))
      (pe_and (pe_not (pe_callB call_isinst rfl T.isi PyProof.Rows.boot_isinstance (pa_cons (pv 0) (pa_cons (pe_bltn (v := .ty "bool") rfl T.boo PyProof.Rows.boot_bool rfl) pa_nil))))
      (pe_one (pe_chain op_le op_lt pe_int (pv 0) (pv 1)))))), ?_⟩
    refine ⟨_, rfl, .int k, "int", "int", true, rfl, .int k, kit_self, true, rfl, ?_⟩
    refine iteT ?_
    refine ⟨_, rfl, .int k, "int", "bool", false, rfl, .int k, kit_ib, false, rfl, true, rfl, ?_⟩
    refine iteT ?_
    refine ⟨_, rfl, _, _, rfl, rfl, _, rfl, ?_⟩
    refine ite2 (fun c => ?_) (fun c => ?_)
    · have c' : 0 ≤ k := of_decide_eq_true c
      refine ⟨_, rfl, _, _, rfl, rfl, ?_⟩
      show Q (.bl (decide (k < m))) H
      rw [show decide (k < m) = decide (0 ≤ k ∧ k < m) by simp [c']]
      exact q
    · have c' : ¬ 0 ≤ k := fun z => c (decide_eq_true z)
      show Q (.bl false) H
      rw [show false = decide (0 ≤ k ∧ k < m) by simp [c']]
      exact q
def spRuleOf (K : PySem.W.Frag) : Sp := fun vs H Q _ => ∃ (R : Addr) (rs : List Addr) (rules : List Rule) (k : Int) (x : Str), vs = [.ref R, .int k, .str x] ∧ SqL K H R (rs.map V.ref) ∧ Rules K H rs rules ∧ Q (.bl (match ruAt rules k with | some ru => decide (V.str ru.1 = V.str x) | none => false)) H
theorem scRuleOf : FnScope ["rules", "number", "name"] ["rules", "number", "name"] (defScope sRuleOf) := ⟨rfl, rfl, rfl, by decide +kernel, rfl, by decide +kernel, by decide +kernel⟩
theorem ok_ruleOf (F : Fun K "is_rule_of" "is_rule_of" sRuleOf f fd) (T : Txt mg) (GB : CalleeD P w K mg base 1 "is_number_below" ["number", "many"] spBelow) : FnOk P w K mg base CX0 2 f fd ["rules", "number", "name"] (spRuleOf K) := by
  refine F.ok scRuleOf (fun vs H Q E h => ?_) (fun cdv A outer s H vs Q E hr h => ?_)
  · obtain ⟨R, rs, rules, k, x, rfl, _⟩ := h; rfl
  · obtain ⟨R, rs, rules, k, x, rfl, hR, hrl, q⟩ := h
    refine ⟨_, pss_one (ps_ret (pe_and (pe_fn GB hr rfl (pa_cons (pv 1) (pa_cons (pe_callB call_len_seq rfl T.len PySem.boot_len (pa_cons (pv 0) pa_nil)) pa_nil)))
      (pe_one (pe_cmpR op_eq (pe_ix ix_tup (pe_ix ix_list (pv 0) (pv 1) (fun _ _ => rfl)) pe_int (fun _ _ => rfl)) (pv 2) (nomark _))))), ?_⟩
    have ll := Paired.length hrl
    refine ⟨_, rfl, _, rfl, R, _, rfl, .inl hR, k, _, rfl, ?_⟩
    rw [List.length_map]
    cases hk : ruAt rules k with
    | none =>
      have hn := ruAt_none hk
      rw [hk] at q
      rw [show decide (0 ≤ k ∧ k < (rs.length : Int)) = false from decide_eq_false (by rw [ll]; exact hn)]
      exact ⟨false, rfl, iteF q⟩
    | some ru =>
      rw [hk] at q
      obtain ⟨j, rfl, hj⟩ := ruAt_some hk
      have lk := (List.getElem?_eq_some_iff.mp hj).1
      obtain ⟨r, er, p, v1, v2⟩ := Paired.at_ hrl j ru hj
      have atk : atI (rs.map V.ref) (j : Int) = some (.ref r) := atI_nat (by rw [List.getElem?_map, er]; rfl)
      rw [show decide (0 ≤ (j : Int) ∧ (j : Int) < (rs.length : Int)) = true from decide_eq_true (by omega)]
      refine ⟨true, rfl, ?_⟩
      refine iteT ?_
      exact ⟨_, rfl, _, rfl, R, _, _, _, rfl, rfl, hR, atk, r, _, _, _, rfl, rfl, v1, rfl, _, rfl, rfl, q⟩
def topB (rules : List Rule) (k : Int) (m : Nat) (x : Str) : Bool := match ruAt rules k with | some ru => decide (ru.1 = x) && decide (m = ru.2.length) | none => false
def spTop (K : PySem.W.Frag) : Sp := fun vs H Q _ => ∃ (R : Addr) (rs : List Addr) (rules : List Rule) (v : V) (x : Str), vs = [.ref R, v, .str x] ∧ SqL K H R (rs.map V.ref) ∧ Rules K H rs rules ∧
  ((∃ z, v = .str z ∧ Q (.bl false) H) ∨ ∃ (a p : Addr) (k : Int) (us : List V), v = .ref a ∧ SqT K H a [.int k, .ref p] ∧ SqT K H p us ∧ Q (.bl (topB rules k us.length x)) H)
theorem scTop : FnScope ["rules", "tree", "name"] ["rules", "tree", "name"] (defScope sTop) := ⟨rfl, rfl, rfl, by decide +kernel, rfl, by decide +kernel, by decide +kernel⟩
theorem ok_top (F : Fun K "is_top_of" "is_top_of" sTop f fd) (T : Txt mg) (GR : CalleeD P w K mg base 2 "is_rule_of" ["rules", "number", "name"] (spRuleOf K)) : FnOk P w K mg base CX0 3 f fd ["rules", "tree", "name"] (spTop K) := by
  refine F.ok scTop (fun vs H Q E h => ?_) (fun cdv A outer s H vs Q E hr h => ?_)
  · obtain ⟨R, rs, rules, v, x, rfl, _⟩ := h; rfl
  · obtain ⟨R, rs, rules, v, x, rfl, hR, hrl, hc⟩ := h
    refine ⟨_, pss_cons (ps_if (PW.pt (pw_or (pt_val (pe_callB call_isinst rfl T.isi PyProof.Rows.boot_isinstance (pa_cons (pv 1) (pa_cons (pe_bltn (v := .ty "str") rfl T.str boot_txt rfl) pa_nil))))
        (pw_or1 (pt_not (pt_val (pe_fn GR hr rfl (pa_cons (pv 0) (pa_cons (pe_ix ix_tup (pv 1) pe_int (fun _ _ => rfl)) (pa_cons (pv 2) pa_nil))))))))) (pss_one (ps_ret pe_bl)) pss_nil)
      (pss_one (ps_ret (pe_cmpR op_eq (pe_callB call_len_seq rfl T.len PySem.boot_len (pa_cons (pe_ix ix_tup (pv 1) pe_int (fun _ _ => rfl)) pa_nil))
        (pe_callB call_len_seq rfl T.len PySem.boot_len (pa_cons (pe_ix ix_tup (pe_ix ix_list (pv 0) (pe_ix ix_tup (pv 1) pe_int (fun _ _ => rfl)) (fun _ _ => rfl)) pe_int (fun _ _ => rfl)) pa_nil)) (nomark _)))), ?_⟩
    rcases hc with ⟨z, rfl, q⟩ | ⟨a, p, k, us, rfl, ha, hp, q⟩
    · refine ⟨_, rfl, .str z, "str", "str", true, rfl, .str z, kit_self, true, rfl, ?_⟩
      refine iteT ?_
      exact q
    · refine ⟨_, rfl, .ref a, "tuple", "str", false, rfl, .tup ha, kit_st, false, rfl, ?_⟩
      refine iteF ?_
      have ll := Paired.length hrl
      refine ⟨_, rfl, _, rfl, a, _, _, _, rfl, rfl, ha, rfl, _, rfl, R, rs, rules, k, x, rfl, hR, hrl, ?_⟩
      unfold topB at q
      cases hk : ruAt rules k with
      | none =>
        rw [hk] at q
        refine ⟨false, rfl, ?_⟩
        exact iteT q
      | some ru =>
        rw [hk] at q
        obtain ⟨j, rfl, hj⟩ := ruAt_some hk
        have lk := (List.getElem?_eq_some_iff.mp hj).1
        obtain ⟨r, er, p2, v1, v2⟩ := Paired.at_ hrl j ru hj
        have atk : atI (rs.map V.ref) (j : Int) = some (.ref r) := atI_nat (by rw [List.getElem?_map, er]; rfl)
        by_cases c : ru.1 = x
        · refine ⟨true, by simp [c], ?_⟩
          refine iteF ?_
          refine ⟨_, rfl, a, _, _, _, rfl, rfl, ha, rfl, p, us, rfl, .inr hp, _, rfl, _, rfl, a, _, _, _, rfl, rfl, ha, rfl, R, _, _, _, rfl, rfl, hR, atk, r, _, _, _, rfl, rfl, v1, rfl, p2, _, rfl, .inr v2, rfl, ?_⟩
          rw [List.length_map]
          have : decide (V.int (us.length : Int) = V.int (ru.2.length : Int)) = (decide (ru.1 = x) && decide (us.length = ru.2.length)) := by
            by_cases c2 : us.length = ru.2.length
            · simp [c, c2]
            · have : ¬ (us.length : Int) = (ru.2.length : Int) := by omega
              simp [c, c2, this]
          rw [this]
          exact q
        · refine ⟨false, by simp [c], ?_⟩
          refine iteT ?_
          have : (decide (ru.1 = x) && decide (us.length = ru.2.length)) = false := by simp [c]
          have q' : Q (.bl (decide (ru.1 = x) && decide (us.length = ru.2.length))) H := q
          rw [this] at q'
          exact q'
end
end J9
namespace J9
open PySem L2 M11 K11
mutual
inductive Tr
  | w (z : Str)
  | n (k : Int) (cs : Trs)
inductive Trs
  | nil
  | cons (t : Tr) (r : Trs)
end
def Trs.toL : Trs → List Tr
  | .nil => []
  | .cons t r => t :: r.toL
mutual
def TrV (K : PySem.W.Frag) (H : Hp) : Tr → V → Prop
  | .w z, v => v = .str z
  | .n k cs, v => ∃ a p vs, v = .ref a ∧ SqT K H a [.int k, .ref p] ∧ SqT K H p vs ∧ TrsV K H cs vs
def TrsV (K : PySem.W.Frag) (H : Hp) : Trs → List V → Prop
  | .nil, vs => vs = []
  | .cons t r, vs => ∃ v vs', vs = v :: vs' ∧ TrV K H t v ∧ TrsV K H r vs'
end
mutual
def row : Tr → List Str
  | .w z => [z]
  | .n _ cs => rows cs
def rows : Trs → List Str
  | .nil => []
  | .cons t r => row t ++ rows r
end
mutual
def sz : Tr → Nat
  | .w _ => 1
  | .n _ cs => 1 + szs cs
def szs : Trs → Nat
  | .nil => 0
  | .cons t r => sz t + szs r
end
mutual
def dp : Tr → Nat
  | .w _ => 0
  | .n _ cs => 1 + dps cs
def dps : Trs → Nat
  | .nil => 0
  | .cons t r => max (dp t) (dps r)
end
mutual
def Is (rules : List Rule) : Tr → Str → Prop
  | .w z, x => x = z ∧ z ∉ hd rules
  | .n k cs, x => ∃ parts, ruAt rules k = some (x, parts) ∧ Iss rules cs parts
def Iss (rules : List Rule) : Trs → List Str → Prop
  | .nil, ps => ps = []
  | .cons t r, ps => ∃ p ps', ps = p :: ps' ∧ Is rules t p ∧ Iss rules r ps'
end
section
variable {K : PySem.W.Frag}
mutual
theorem TrV.keep {H H' : Hp} (k : ∀ a xs, SqT K H a xs → SqT K H' a xs) : ∀ (t : Tr) {v : V}, TrV K H t v → TrV K H' t v
  | .w z, v, h => by unfold TrV at *; exact h
  | .n m cs, v, h => by
    unfold TrV at *
    obtain ⟨a, p, vs, e, h1, h2, h3⟩ := h
    exact ⟨a, p, vs, e, k _ _ h1, k _ _ h2, TrsV.keep k cs h3⟩
theorem TrsV.keep {H H' : Hp} (k : ∀ a xs, SqT K H a xs → SqT K H' a xs) : ∀ (ts : Trs) {vs : List V}, TrsV K H ts vs → TrsV K H' ts vs
  | .nil, vs, h => by unfold TrsV at *; exact h
  | .cons t r, vs, h => by
    unfold TrsV at *
    obtain ⟨v, vs', e, h1, h2⟩ := h
    exact ⟨v, vs', e, TrV.keep k t h1, TrsV.keep k r h2⟩
end
theorem TrsV.paired {H : Hp} : ∀ (ts : Trs) {vs : List V}, TrsV K H ts vs → Paired (fun v t => TrV K H t v) vs ts.toL
  | .nil, vs, h => by unfold TrsV at h; subst h; exact .nil
  | .cons t r, vs, h => by
    unfold TrsV at h
    obtain ⟨v, vs', rfl, h1, h2⟩ := h
    exact .cons h1 (TrsV.paired r h2)
theorem rows_toL : ∀ ts : Trs, rows ts = ts.toL.flatMap row
  | .nil => by unfold rows; rfl
  | .cons t r => by unfold rows; rw [rows_toL r]; rfl
theorem szs_toL : ∀ ts : Trs, szs ts = (ts.toL.map sz).sum
  | .nil => by unfold szs; rfl
  | .cons t r => by unfold szs; rw [szs_toL r]; rfl
theorem sz_pos : ∀ t : Tr, 1 ≤ sz t
  | .w _ => by unfold sz; exact Nat.le_refl _
  | .n _ cs => by unfold sz; omega
theorem Iss.paired {rules : List Rule} : ∀ (ts : Trs) {ps : List Str}, Iss rules ts ps → ts.toL.length = ps.length ∧ ∀ (j : Nat) t p, ts.toL[j]? = some t → ps[j]? = some p → Is rules t p
  | .nil, ps, h => by
    unfold Iss at h; subst h
    exact ⟨rfl, fun j t p e => by simp [Trs.toL] at e⟩
  | .cons t r, ps, h => by
    unfold Iss at h
    obtain ⟨p, ps', rfl, h1, h2⟩ := h
    obtain ⟨a, b⟩ := Iss.paired r h2
    refine ⟨by show r.toL.length + 1 = ps'.length + 1; omega, fun j u q e1 e2 => ?_⟩
    cases j with
    | zero => cases e1; cases e2; exact h1
    | succ j => exact b j u q e1 e2
theorem Iss.back {rules : List Rule} : ∀ (ts : Trs) {ps : List Str}, ts.toL.length = ps.length → (∀ (j : Nat) t p, ts.toL[j]? = some t → ps[j]? = some p → Is rules t p) → Iss rules ts ps
  | .nil, ps, e, h => by
    unfold Iss
    exact List.length_eq_zero_iff.mp e.symm
  | .cons t r, ps, e, h => by
    unfold Iss
    cases ps with
    | nil => exact absurd e (by show ¬ r.toL.length + 1 = 0; omega)
    | cons p ps => exact ⟨p, ps, rfl, h 0 t p rfl rfl, Iss.back r (by have : r.toL.length + 1 = ps.length + 1 := e; omega) fun j u q e1 e2 => h (j + 1) u q e1 e2⟩
theorem dps_le : ∀ (ts : Trs) (t : Tr), t ∈ ts.toL → dp t ≤ dps ts
  | .nil, t, h => by cases h
  | .cons u r, t, h => by
    unfold dps
    rcases List.mem_cons.mp h with e | e
    · rw [e]; omega
    · have := dps_le r t e
      omega
end
section
variable {P : Program} {w : World} {K : PySem.W.Frag} {mg : Str → Option Value} {base : Heap} {f : Addr} {fd : FuncData}
theorem paired_last {α β : Type} {F : α → β → Prop} {us : List α} {ts : List β} (p : Paired F us ts) (h : us ≠ []) : ∃ us' u ts' t, us = us' ++ [u] ∧ ts = ts' ++ [t] ∧ Paired F us' ts' ∧ F u t := by
  have p2 := Paired.rev' p
  have hr : us.reverse ≠ [] := fun z => h (List.reverse_eq_nil_iff.mp z)
  generalize e1 : us.reverse = us2 at p2 hr
  generalize e2 : ts.reverse = ts2 at p2
  cases p2 with
  | nil => exact absurd rfl hr
  | @cons u t us3 ts3 a b =>
    refine ⟨us3.reverse, u, ts3.reverse, t, ?_, ?_, Paired.rev' b, a⟩
    · rw [← List.reverse_reverse us, e1, List.reverse_cons]
    · rw [← List.reverse_reverse ts, e2, List.reverse_cons]
theorem Paired.app' {α β : Type} {F : α → β → Prop} : ∀ {xs : List α} {ys : List β} {xs2 : List α} {ys2 : List β}, Paired F xs ys → Paired F xs2 ys2 → Paired F (xs ++ xs2) (ys ++ ys2)
  | _, _, _, _, .nil, h => h
  | _, _, _, _, .cons a b, h => .cons a (Paired.app' b h)
theorem pop_last {us : List V} {u : V} : (us ++ [u])[(us ++ [u]).length - 1]? = some u := by
  rw [List.length_append]
  simp
end
end J9
namespace L2
open PySem
theorem comp_pairsL {K : PySem.W.Frag} {H : Hp} {p D : Addr} {zs : List Str} {σ : St} {v : V} {x : Str} {Qp : Hp → Prop} (hp : SqL K H p (zs.map V.str)) (hz : zs.length ≤ 10000) (hD : H D = none)
    (q : ∀ ts H2, Same H H2 → H2 D = some (.lst (ts.map V.ref)) → Paired (fun t h => SqT K H2 t [.str h, v]) ts zs → Qp H2) :
    ∃ W : Nat → Nat → List V → St → Hp → Prop, (∃ m, W 0 m [] (capS [x] [] σ) (upd H D (.lst []))) ∧
  ∀ i m ys σ' H, W i m ys σ' H → ((Itl K p).stop i H ∧ Qp H) ∨ ((Itl K p).go i H ∧ ∃ m', m' < m ∧ ∀ x H', (Itl K p).yld i H x H' → gName 0 x σ' H' fun σ2 H2 => tTrue σ2 H2 fun b H3 =>
    if b = true then tTup (tCons (tVar 0) (tCons (tC v) tNil)) σ2 H3 fun y H4 => H4 D = some (.lst ys) ∧ ys.length < sizeLine ∧ W (i + 1) m' (ys ++ [y]) σ2 (upd H4 D (.lst (ys ++ [y]))) else W (i + 1) m' ys σ2 H3) := by
  refine compG_list (xs := zs.map V.str) (fun i ys σ2 H2 => ∃ ts : List Addr, ys = ts.map V.ref ∧ ts.length = i ∧ Paired (fun t h => SqT K H2 t [.str h, v]) ts (zs.take i) ∧ (∃ y0, σ2 = [y0]) ∧ Same H H2 ∧ H2 D = some (.lst ys))
    ⟨[], rfl, rfl, .nil, ⟨none, rfl⟩, same_laid hD _, upd_same⟩ (fun i ys σ2 H2 _ h => ?_) (fun i x ys σ2 H2 ex h => ?_) (fun ys σ2 H2 h => ?_)
  · obtain ⟨_, _, _, _, _, sm, _⟩ := h
    exact sm.seq hp
  · obtain ⟨ts, rfl, ht, hpp, ⟨y0, rfl⟩, sm, hd⟩ := h
    rw [List.getElem?_map] at ex
    obtain ⟨z, ez, rfl⟩ := Option.map_eq_some_iff.mp ex
    have li := (List.getElem?_eq_some_iff.mp ez).1
    refine goN (goT ?_)
    refine ⟨_, rfl, (by show 2 ≤ sizeLine; decide), fun t ht2 => ⟨?_, fits' (by rw [List.length_map]; omega), ts ++ [t], ?_, ?_, ?_, ⟨_, rfl⟩, ?_, upd_same⟩⟩
    · rw [upd_ne (ne_of_none hd ht2)]; exact hd
    · rw [List.map_append]; rfl
    · rw [List.length_append, ht]; rfl
    · rw [List.take_add_one, ez]
      have hd3 : upd H2 t (.tup [.str z, v]) D = some (.lst (ts.map V.ref)) := by rw [upd_ne (ne_of_none hd ht2)]; exact hd
      exact Paired.snoc (Paired.mapP hpp fun t' h' z => sqt_upd hd3 ((same_laid ht2 _).tup z)) (sqt_upd hd3 (SqT.of upd_same))
    · intro b o hb
      rw [upd_ne (fun z => by rw [z, hD] at hb; cases hb)]
      exact same_laid ht2 _ _ _ (sm b o hb)
  · obtain ⟨ts, rfl, ht, hpp, _, sm, hd⟩ := h
    rw [List.length_map, List.take_length] at hpp
    exact q ts H2 sm hd hpp
theorem val_fill {v : V} : ∀ (hs : List Str) (acc : List (Key × V)) (z : Str), valV (fillK (hs.map fun h => ((Sum.inr h : Key), v)) acc) (Sum.inr z) = if z ∈ hs then some v else valV acc (Sum.inr z)
  | [], acc, z => by simp [fillK]
  | h :: r, acc, z => by
    have ih := val_fill (v := v) r (putK acc (Sum.inr h) v) z
    show valV (fillK (r.map fun h => ((Sum.inr h : Key), v)) (putK acc (Sum.inr h) v)) (Sum.inr z) = _
    rw [ih, valV_put]
    by_cases c : z ∈ r
    · rw [if_pos c, if_pos (List.mem_cons_of_mem _ c)]
    · rw [if_neg c]
      by_cases c2 : z = h
      · rw [if_pos (by rw [c2]), if_pos (by rw [c2]; exact List.mem_cons_self)]
      · rw [if_neg (fun e => c2 (Sum.inr.inj e)), if_neg (fun e => (List.mem_cons.mp e).elim c2 c)]
end L2
namespace J9
open PySem L2 M11 K11
theorem ded_memH : ∀ (hs acc : List Str) (x : Str), x ∈ ded acc hs ↔ x ∈ acc ∨ x ∈ hs
  | [], acc, x => by simp [ded]
  | h :: r, acc, x => by
    show x ∈ ded (add1 acc h) r ↔ _
    rw [ded_memH r, List.mem_cons]
    unfold add1
    by_cases c : h ∈ acc
    · rw [if_pos c]
      constructor
      · rintro (a | a)
        · exact .inl a
        · exact .inr (.inr a)
      · rintro (a | a | a)
        · exact .inl a
        · exact .inl (a ▸ c)
        · exact .inr a
    · rw [if_neg c, List.mem_append, List.mem_singleton]
      constructor
      · rintro ((a | a) | a)
        · exact .inl a
        · exact .inr (.inl a)
        · exact .inr (.inr a)
      · rintro (a | a | a)
        · exact .inl (.inl a)
        · exact .inl (.inr a)
        · exact .inr a
theorem hd_mem {rules : List Rule} {x : Str} : x ∈ hd rules ↔ ∃ ru ∈ rules, ru.1 = x := by
  unfold hd
  rw [ded_memH]
  constructor
  · rintro (h | h)
    · cases h
    · obtain ⟨ru, a, b⟩ := List.mem_map.mp h
      exact ⟨ru, a, b⟩
  · rintro ⟨ru, a, b⟩
    exact .inr (List.mem_map.mpr ⟨ru, a, b⟩)
section
variable {P : Program} {w : World} {K : PySem.W.Frag} {mg : Str → Option Value} {base : Heap} {f : Addr} {fd : FuncData}
def spStand (K : PySem.W.Frag) : Sp := fun vs H Q _ => ∃ (R : Addr) (rs : List Addr) (rules : List Rule) (v : V) (t : Tr) (x : Str) (b : Bool), vs = [.ref R, v, .str x] ∧ SqL K H R (rs.map V.ref) ∧ Rules K H rs rules ∧ rules.length ≤ 1000 ∧ TrV K H t v ∧ sz t ≤ 1000000 ∧ x ∈ hd rules ∧ (b = true ↔ Is rules t x) ∧ ∀ H', Same H H' → Q (.bl b) H'
theorem scStand : FnScope ["rules", "tree", "name", "heads", "waiting", "pair"] ["rules", "tree", "name"] (defScope sStand) := ⟨rfl, rfl, rfl, by decide +kernel, rfl, by decide +kernel, by decide +kernel⟩
theorem ok_stand (F : Fun K "tree_stands" "tree_stands" sStand f fd) (T : Txt mg) (hZ : mg "zip" = none) (GH : CalleeD P w K mg base 3 "heads_of" ["rules"] (spHeads K)) (GT : CalleeD P w K mg base 3 "is_top_of" ["rules", "tree", "name"] (spTop K)) : FnOk P w K mg base CX0 4 f fd ["rules", "tree", "name"] (spStand K) := by
  refine F.ok scStand (fun vs H Q E h => ?_) (fun cdv A outer s H vs Q E hr h => ?_)
  · obtain ⟨R, rs, rules, v, t, x, b, rfl, _⟩ := h; rfl
  · obtain ⟨R, rs, rules, v, t, x, b, rfl, hR, hrl, hlen, ht, hsz, hx, vd, q⟩ := h
    have hu := hu_of hr
    have hu1 := Nat.lt_of_succ_lt hu
    refine ⟨_, pss_cons (ps_set (i := 3) scStand.nd rfl (Or.inl rfl) (pe_callTy (call_dictP rfl) rfl T.dct boot_dct (pa_cons (pe_compG ["head"] [] rfl (pi_list (pe_fn GH hr rfl (pa_cons (pv 0) pa_nil))) (caps_of rfl rfl) (by decide +kernel) rfl (by decide +kernel)
        (fun _ _ _ _ _ => pg_name (i := 0) (show (["head"] : List Str).Nodup by decide +kernel) rfl (Or.inl rfl)) (fun _ _ _ _ _ => pif_nil) (fun _ _ _ _ _ => pe_tup (pa_cons (pv 0) (pa_cons pe_bl pa_nil)))) pa_nil)))
      (pss_cons (ps_if (pt_cmp (pc_dnotin hu (pv 2) (pv 3))) (pss_one (ps_ret pe_bl)) pss_nil)
      (pss_cons (ps_set (i := 4) scStand.nd rfl (Or.inl rfl) (pe_lst (pa_cons (pe_tup (pa_cons (pv 1) (pa_cons (pv 2) pa_nil))) pa_nil)))
      (pss_cons (ps_while PassesOwn.never (pt_truth (pv 4) (fun _ => rfl))
        (pss_cons (ps_set (i := 5) scStand.nd rfl (Or.inl rfl) (pe_bm0 PySem.F.plainAttrs_list PySem.F.slot_list_pop PySem.F.type_list_pop mt_pop (pv 4)))
        (pss_one (ps_if (pt_cmp (pc_din hu (pe_ix ix_tup (pv 5) pe_int (fun _ _ => rfl)) (pv 3)))
          (pss_cons (ps_if (pt_not (pt_val (pe_fn GT hr rfl (pa_cons (pv 0) (pa_cons (pe_ix ix_tup (pv 5) pe_int (fun _ _ => rfl)) (pa_cons (pe_ix ix_tup (pv 5) pe_int (fun _ _ => rfl)) pa_nil)))))) (pss_one (ps_ret pe_bl)) pss_nil)
          (pss_one (ps_expr (pe_bm PySem.F.plainAttrs_list PySem.F.slot_list_extend PySem.F.type_list_extend mt_extend (pv 4) (pa_cons (pe_listzip rfl rfl T.lst rfl hZ (pa_cons (pe_ix ix_tup (pe_ix ix_tup (pv 5) pe_int (fun _ _ => rfl)) pe_int (fun _ _ => rfl))
            (pa_cons (pe_ix ix_tup (pe_ix ix_list (pv 0) (pe_ix ix_tup (pe_ix ix_tup (pv 5) pe_int (fun _ _ => rfl)) pe_int (fun _ _ => rfl)) (fun _ _ => rfl)) pe_int (fun _ _ => rfl)) pa_nil))) pa_nil)))))
          (pss_one (ps_if (pt_cmpR (op_ne_ts hu1) (pe_ix ix_tup (pv 5) pe_int (fun _ _ => rfl)) (pe_ix ix_tup (pv 5) pe_int (fun _ _ => rfl)) (nomark _)) (pss_one (ps_ret pe_bl)) pss_nil))))))
      (pss_one (ps_ret pe_bl))))), ?_⟩
    refine ⟨_, rfl, R, rs, rules, rfl, hR, hrl, hlen, fun D1 H1 f1 s1 e1 => ?_⟩
    have lhd := ded_len (rules.map (·.1)) []
    simp only [List.length_nil, List.length_map] at lhd
    refine ⟨D1, rfl, ⟨_, SqL.of e1⟩, fun D2 hD2 => comp_pairsL (SqL.of e1) (by omega) hD2 fun ts H2 s2 e2 p2 => ?_⟩
    have kp : Paired (fun t (kv : Key × V) => SqT K H2 t [kV kv.1, kv.2]) ts ((hd rules).map fun h => ((Sum.inr h : Key), V.bl true)) := paired_mapR p2 fun _ _ z => z
    refine ⟨D2, ts, _, rfl, e2, kp, fun d hd0 => ?_⟩
    have memH : ∀ z, (valV (fillK ((hd rules).map fun h => ((Sum.inr h : Key), V.bl true)) []) (Sum.inr z)).isSome = decide (z ∈ hd rules) := fun z => by
      rw [val_fill]
      by_cases c : z ∈ hd rules
      · rw [if_pos c, decide_eq_true c]; rfl
      · rw [if_neg c, decide_eq_false c]; rfl
    generalize fillK ((hd rules).map fun h => ((Sum.inr h : Key), V.bl true)) [] = kE at memH
    have s3 := (s1.trans s2).trans (same_laid hd0 (.dK kE))
    have e3 : upd H2 d (.dK kE) d = some (.dK kE) := upd_same
    generalize upd H2 d (.dK kE) = H3 at s3 e3
    refine ⟨_, rfl, _, rfl, d, _, rfl, DGet.k (k := Sum.inr x) e3, _, rfl, ?_⟩
    rw [memH]
    refine ite2 (fun c => ?_) (fun c => ?_)
    · have nx : x ∉ hd rules := by simpa using c
      exact absurd hx nx
    refine ⟨_, rfl, _, rfl, (by show 2 ≤ sizeLine; decide), fun r0 hr0 => ⟨(by show 1 ≤ sizeLine; decide), fun W hW => ?_⟩⟩
    have fW : H W = none := (s3.trans (same_laid hr0 _)).free hW
    have s4 := s3.trans ((same_laid hr0 (.tup [v, .str x])).trans (same_laid hW (.lst [.ref r0])))
    have e4 := (same_laid hr0 (.tup [v, .str x])).trans (same_laid hW (.lst [.ref r0])) _ _ e3
    have v4 : SqT K (upd (upd H3 r0 (.tup [v, .str x])) W (.lst [.ref r0])) r0 [v, .str x] := (same_laid hW _).tup (SqT.of upd_same)
    have eW4 : upd (upd H3 r0 (.tup [v, .str x])) W (.lst [.ref r0]) W = some (.lst [.ref r0]) := upd_same
    have nWd : W ≠ d := fun z => by
      have := (same_laid hr0 (.tup [v, .str x])) _ _ e3
      rw [← z, hW] at this; cases this
    generalize upd (upd H3 r0 (.tup [v, .str x])) W (.lst [.ref r0]) = H4 at s4 e4 v4 eW4
    refine ⟨fun m σ H5 => ∃ (us : List Addr) (ts : List (Tr × Str)) (y : Option V), σ = [some (.ref R), some v, some (.str x), some (.ref d), some (.ref W), y] ∧ Same H H5 ∧ H5 d = some (.dK kE) ∧ H5 W = some (.lst (us.map V.ref)) ∧ Paired (fun r (p : Tr × Str) => ∃ v, SqT K H5 r [v, .str p.2] ∧ TrV K H5 p.1 v) us ts ∧
        (b = true ↔ ∀ p ∈ ts, Is rules p.1 p.2) ∧ m = (ts.map fun p => sz p.1).sum ∧ m ≤ sz t,
      ⟨sz t, [r0], [(t, x)], none, rfl, s4, e4, eW4, .cons ⟨v, v4, TrV.keep (fun _ _ z => s4.tup z) t ht⟩ .nil, by rw [vd]; simp, by simp, Nat.le_refl _⟩, ?_⟩
    rintro m σ H5 ⟨us, ts, y, rfl, sm, e5, eW, pr, jd, em, ez⟩
    have lp := Paired.length pr
    refine ⟨_, rfl, !us.isEmpty, .inl ⟨us.map V.ref, SqL.of eW, by simp⟩, ?_⟩
    refine ite2 (fun c => ?_) (fun c => ?_)
    · obtain ⟨us', r, ts', p0, rfl, rfl, pr', v0, h0, t0v⟩ := paired_last pr (fun z => by rw [z] at c; cases c)
      obtain ⟨t0, x0⟩ := p0
      rw [List.map_append, List.sum_append] at em
      simp only [List.map_cons, List.map_nil, List.sum_cons, List.sum_nil] at em
      have sp := sz_pos t0
      refine ⟨_, fun _ _ h => h, ?_⟩
      rw [List.map_append] at eW
      refine ⟨_, rfl, .inl ⟨rfl, _, SqL.of eW⟩, W, _, .ref r, rfl, rfl, eW, pop_last, ?_⟩
      rw [show (us'.map V.ref ++ [r].map V.ref).dropLast = us'.map V.ref from List.dropLast_concat]
      have sm2 : Same H (upd H5 W (.lst (us'.map V.ref))) := fun b o hb => by rw [upd_ne (fun z => by rw [z, fW] at hb; cases hb)]; exact sm b o hb
      have tk : ∀ a xs, SqT K H5 a xs → SqT K (upd H5 W (.lst (us'.map V.ref))) a xs := fun a xs z => sqt_upd eW z
      have h1 := tk _ _ h0
      have t1 := TrV.keep tk t0 t0v
      have pr2 : Paired (fun r (p : Tr × Str) => ∃ v, SqT K (upd H5 W (.lst (us'.map V.ref))) r [v, .str p.2] ∧ TrV K (upd H5 W (.lst (us'.map V.ref))) p.1 v) us' ts' := Paired.mapP pr' fun r p ⟨v, z1, z2⟩ => ⟨v, tk _ _ z1, TrV.keep tk p.1 z2⟩
      have eW2 : upd H5 W (.lst (us'.map V.ref)) W = some (.lst (us'.map V.ref)) := upd_same
      have e6 : upd H5 W (.lst (us'.map V.ref)) d = some (.dK kE) := by rw [upd_ne (Ne.symm nWd)]; exact e5
      generalize upd H5 W (.lst (us'.map V.ref)) = H6 at sm2 h1 t1 pr2 eW2 e6
      refine ⟨_, rfl, r, _, _, _, rfl, rfl, h1, rfl, _, rfl, d, _, rfl, DGet.k (k := Sum.inr x0) e6, _, rfl, ?_⟩
      rw [memH]
      have j0 : b = true ↔ Is rules t0 x0 ∧ ∀ p ∈ ts', Is rules p.1 p.2 := by
        rw [jd]
        constructor
        · exact fun j => ⟨j _ (List.mem_append.mpr (.inr (List.mem_singleton.mpr rfl))), fun p hp => j p (List.mem_append.mpr (.inl hp))⟩
        · rintro ⟨h1, h2⟩ p hp
          rcases List.mem_append.mp hp with h | h
          · exact h2 p h
          · rw [List.mem_singleton.mp h]; exact h1
      have bF : ¬ Is rules t0 x0 → b = false := fun h => by
        cases hb : b with
        | false => rfl
        | true => exact absurd (j0.mp hb).1 h
      refine ite2 (fun c2 => ?_) (fun c2 => ?_)
      · have hx0 : x0 ∈ hd rules := of_decide_eq_true c2
        cases t0 with
        | w z =>
          have hb := bF (fun j => by unfold Is at j; exact j.2 (j.1 ▸ hx0))
          unfold TrV at t1
          subst t1
          refine ⟨_, rfl, _, rfl, r, _, _, _, rfl, rfl, h1, rfl, _, rfl, r, _, _, _, rfl, rfl, h1, rfl, R, rs, rules, .str z, x0, rfl, sm2.seq hR, hrl.same sm2, .inl ⟨z, rfl, false, rfl, ?_⟩⟩
          refine iteT ?_
          rw [hb] at q
          exact q H6 sm2
        | n k cs =>
          unfold TrV at t1
          obtain ⟨a, p, vs, rfl, ha, hp, hvs⟩ := t1
          have pcs := TrsV.paired cs hvs
          have lcs := Paired.length pcs
          have hrl6 := hrl.same sm2
          refine ⟨_, rfl, _, rfl, r, _, _, _, rfl, rfl, h1, rfl, _, rfl, r, _, _, _, rfl, rfl, h1, rfl, R, rs, rules, .ref a, x0, rfl, sm2.seq hR, hrl6, .inr ⟨a, p, k, vs, rfl, ha, hp, ?_⟩⟩
          cases ctop : topB rules k vs.length x0 with
          | false =>
            have hb := bF (fun j => by
              unfold Is at j
              obtain ⟨parts, hk, hcs⟩ := j
              obtain ⟨lis, _⟩ := Iss.paired cs hcs
              unfold topB at ctop
              rw [hk] at ctop
              have e : vs.length = parts.length := by omega
              simp [e] at ctop)
            refine ⟨false, rfl, ?_⟩
            refine iteT ?_
            rw [hb] at q
            exact q H6 sm2
          | true =>
            refine ⟨true, rfl, ?_⟩
            refine iteF ?_
            obtain ⟨parts, hk, lvp⟩ : ∃ parts, ruAt rules k = some (x0, parts) ∧ vs.length = parts.length := by
              unfold topB at ctop
              cases hk : ruAt rules k with
              | none => rw [hk] at ctop; cases ctop
              | some ru =>
                rw [hk] at ctop
                have c3 : ru.1 = x0 ∧ vs.length = ru.2.length := by simpa using ctop
                exact ⟨ru.2, by rw [← c3.1], c3.2⟩
            obtain ⟨jj, rfl, hj⟩ := ruAt_some hk
            obtain ⟨rr, er, p2, v1, v2⟩ := Paired.at_ hrl6 jj _ hj
            have atk : atI (rs.map V.ref) (jj : Int) = some (.ref rr) := atI_nat (by rw [List.getElem?_map, er]; rfl)
            have e7 : sz (.n (jj : Int) cs) = 1 + (cs.toL.map sz).sum := by unfold sz; rw [szs_toL]
            have lsz : ∀ l : List Tr, l.length ≤ (l.map sz).sum := fun l => by
              induction l with
              | nil => exact Nat.le_refl _
              | cons x r ih =>
                have := sz_pos x
                rw [List.map_cons, List.sum_cons, List.length_cons]
                omega
            have l1 := lsz cs.toL
            have l2 := lsz (ts'.map (·.1))
            have l3 := Paired.length pr2
            rw [List.length_map, List.map_map] at l2
            have l2' : ts'.length ≤ (ts'.map fun p => sz p.1).sum := l2
            refine ⟨_, rfl, .inl ⟨rfl, _, SqL.of eW2⟩, _, rfl, r, _, _, _, rfl, rfl, h1, rfl, a, _, _, _, rfl, rfl, ha, rfl, _, rfl, _, rfl, r, _, _, _, rfl, rfl, h1, rfl, a, _, _, _, rfl, rfl, ha, rfl, R, _, _, _, rfl, rfl, sm2.seq hR, atk, rr, _, _, _, rfl, rfl, v1, rfl, p, p2, vs, parts.map V.str, rfl, hp, v2, by rw [List.length_map]; omega, by omega, fun L ts2 H7 fL s7 eL pz => ?_⟩
            have eW7 := s7 _ _ eW2
            have lz := Paired.length pz
            rw [List.length_zip, List.length_map] at lz
            refine ⟨W, L, _, _, rfl, rfl, eW7, eL, fits (by rw [List.length_map, List.length_map]; omega), ?_⟩
            rw [← List.map_append]
            have k8 : ∀ a xs, SqT K H6 a xs → SqT K (upd H7 W (.lst ((us' ++ ts2).map V.ref))) a xs := fun a xs z => sqt_upd eW7 (s7.tup z)
            have sumz : ((cs.toL.zip parts).map fun p => sz p.1).sum = (cs.toL.map sz).sum := by
              have : ((cs.toL.zip parts).map fun p => sz p.1) = ((cs.toL.zip parts).map Prod.fst).map sz := by rw [List.map_map]; rfl
              rw [this, List.map_fst_zip (by omega)]
            have isI : Is rules (.n (jj : Int) cs) x0 ↔ ∀ pp ∈ cs.toL.zip parts, Is rules pp.1 pp.2 := by
              constructor
              · intro j pp h
                unfold Is at j
                obtain ⟨parts', hk', hcs⟩ := j
                rw [hk] at hk'
                cases hk'
                obtain ⟨j, hj⟩ := List.getElem?_of_mem h
                obtain ⟨ec, eq⟩ := List.getElem?_zip_eq_some.mp hj
                exact (Iss.paired cs hcs).2 j _ _ ec eq
              · intro h
                unfold Is
                exact ⟨parts, hk, Iss.back cs (by omega) fun j t p e1 e2 => h (t, p) (List.mem_of_getElem? (List.getElem?_zip_eq_some.mpr ⟨e1, e2⟩))⟩
            refine ⟨(ts'.map fun p => sz p.1).sum + (cs.toL.map sz).sum, by omega, us' ++ ts2, ts' ++ cs.toL.zip parts, _, rfl, fun b o hb => ?_, by rw [upd_ne (Ne.symm nWd)]; exact s7 _ _ e6, upd_same, ?_, ?_, by rw [List.map_append, List.sum_append, sumz], by omega⟩
            · rw [upd_ne (fun z => by rw [z, fW] at hb; cases hb)]; exact s7 _ _ (sm2 b o hb)
            · refine Paired.app' (Paired.mapP pr2 fun r p ⟨v, z1, z2⟩ => ⟨v, k8 _ _ z1, TrV.keep k8 p.1 z2⟩) (paired_of (by rw [List.length_zip]; omega) fun j T pp eT ep => ?_)
              obtain ⟨ec, eq⟩ := List.getElem?_zip_eq_some.mp ep
              obtain ⟨u, eu, hu2⟩ := Paired.at_ pcs j _ ec
              have ezp : (vs.zip (parts.map V.str))[j]? = some (u, .str pp.2) := List.getElem?_zip_eq_some.mpr ⟨eu, by rw [List.getElem?_map, eq]; rfl⟩
              obtain ⟨T', eT', hT'⟩ := Paired.at_ pz j _ ezp
              rw [eT] at eT'
              cases eT'
              exact ⟨u, sqt_upd eW7 hT', TrV.keep k8 pp.1 hu2⟩
            · rw [j0, isI]
              constructor
              · rintro ⟨h1, h2⟩ pp hpp
                rcases List.mem_append.mp hpp with h | h
                · exact h2 pp h
                · exact h1 pp h
              · exact fun h => ⟨fun pp hp => h pp (List.mem_append.mpr (.inr hp)), fun pp hp => h pp (List.mem_append.mpr (.inl hp))⟩
      · have nx0 : x0 ∉ hd rules := fun z => c2 (decide_eq_true z)
        cases t0 with
        | n k cs =>
          have hb := bF (fun j => by
            unfold Is at j
            obtain ⟨parts, e, _⟩ := j
            obtain ⟨jj, _, e2⟩ := ruAt_some e
            exact nx0 (hd_mem.mpr ⟨_, List.mem_of_getElem? e2, rfl⟩))
          unfold TrV at t1
          obtain ⟨a, p, vs, rfl, ha, hp, hvs⟩ := t1
          refine ⟨_, rfl, r, _, _, _, rfl, rfl, h1, rfl, _, rfl, r, _, _, _, rfl, rfl, h1, rfl, x0, rfl, .inr ⟨a, _, rfl, ha, true, rfl, ?_⟩⟩
          refine iteT ?_
          rw [hb] at q
          exact q H6 sm2
        | w z =>
          unfold TrV at t1
          subst t1
          refine ⟨_, rfl, r, _, _, _, rfl, rfl, h1, rfl, _, rfl, r, _, _, _, rfl, rfl, h1, rfl, x0, rfl, .inl ⟨z, rfl, _, rfl, ?_⟩⟩
          refine ite2 (fun c3 => ?_) (fun c3 => ?_)
          · have hb := bF (fun j => by unfold Is at j; rw [j.1] at c3; simp at c3)
            rw [hb] at q
            exact q H6 sm2
          · have ezx : z = x0 := by
              by_cases c4 : z = x0
              · exact c4
              · exact absurd (by simp [c4]) c3
            have e7 : sz (.w z) = 1 := by unfold sz; rfl
            refine ⟨_, by omega, us', ts', _, rfl, sm2, e6, eW2, pr2, ?_, rfl, by omega⟩
            rw [j0]
            exact ⟨fun h => h.2, fun h => ⟨by unfold Is; exact ⟨ezx.symm, ezx ▸ nx0⟩, h⟩⟩
    · have e0 : us = [] := by
        cases us with
        | nil => rfl
        | cons _ _ => exact absurd rfl c
      subst e0
      cases pr
      have hb : b = true := jd.mpr fun p hp => by cases hp
      rw [hb] at q
      exact q H5 sm
end
end J9
namespace J9
open PySem L2 M11 K11
inductive Dd
  | step (z : Str)
  | make (k : Int)
def DdV (K : PySem.W.Frag) (H : Hp) (a : Addr) : Dd → Prop
  | .step z => SqT K H a [.str "step", .str z]
  | .make k => SqT K H a [.str "make", .int (k : Int)]
theorem DdV.keep {K : PySem.W.Frag} {H H' : Hp} (k : ∀ a xs, SqT K H a xs → SqT K H' a xs) {a : Addr} : ∀ {d : Dd}, DdV K H a d → DdV K H' a d
  | .step z, h => k _ _ h
  | .make _, h => k _ _ h
mutual
def dds : Tr → List Dd
  | .w z => [.step z]
  | .n k cs => ddss cs ++ [.make k]
def ddss : Trs → List Dd
  | .nil => []
  | .cons t r => dds t ++ ddss r
end
theorem dds_n (k : Int) (cs : Trs) : dds (.n k cs) = ddss cs ++ [.make k] := by rw [dds]
theorem ddss_toL : ∀ ts : Trs, ddss ts = ts.toL.flatMap dds
  | .nil => by unfold ddss; rfl
  | .cons t r => by unfold ddss; rw [ddss_toL r]; rfl
mutual
theorem dds_len : ∀ t : Tr, (dds t).length = sz t
  | .w z => by unfold dds sz; rfl
  | .n k cs => by
    unfold dds sz
    rw [List.length_append, ddss_len cs, List.length_singleton]
    omega
theorem ddss_len : ∀ ts : Trs, (ddss ts).length = szs ts
  | .nil => by unfold ddss szs; rfl
  | .cons t r => by unfold ddss szs; rw [List.length_append, dds_len t, ddss_len r]
end
theorem rev_flat {α β : Type} (f : α → List β) : ∀ l : List α, (l.flatMap f).reverse = l.reverse.flatMap fun x => (f x).reverse
  | [] => rfl
  | x :: r => by
    rw [List.flatMap_cons, List.reverse_append, rev_flat f r, List.reverse_cons, List.flatMap_append]
    simp
theorem lsz : ∀ l : List Tr, l.length ≤ (l.map sz).sum
  | [] => Nat.le_refl _
  | x :: r => by
    have := sz_pos x
    have := lsz r
    rw [List.map_cons, List.sum_cons, List.length_cons]
    omega
section
variable {P : Program} {w : World} {K : PySem.W.Frag} {mg : Str → Option Value} {base : Heap} {f : Addr} {fd : FuncData}
def spDeeds (K : PySem.W.Frag) : Sp := fun vs H Q _ => ∃ (v : V) (t : Tr), vs = [v] ∧ TrV K H t v ∧ sz t ≤ 900000 ∧ ∀ D as a0 H', H D = none → Same H H' → H' D = some (.lst ((as ++ [a0]).map V.ref)) → Paired (fun a d => DdV K H' a d) as (dds t) → SqT K H' a0 [.str "done"] → Q (.ref D) H'
theorem scDeeds : FnScope ["tree", "deeds", "waiting", "one"] ["tree"] (defScope sDeeds) := ⟨rfl, rfl, rfl, by decide +kernel, rfl, by decide +kernel, by decide +kernel⟩
theorem ok_deeds (F : Fun K "deeds_of_tree" "deeds_of_tree" sDeeds f fd) (T : Txt mg) : FnOk P w K mg base CX0 1 f fd ["tree"] (spDeeds K) := by
  refine F.ok scDeeds (fun vs H Q E h => ?_) (fun cdv A outer s H vs Q E hr h => ?_)
  · obtain ⟨v, t, rfl, _⟩ := h; rfl
  · obtain ⟨v, t, rfl, ht, hsz, q⟩ := h
    refine ⟨_, pss_cons (ps_set (i := 1) scDeeds.nd rfl (Or.inl rfl) (pe_lst (pa_cons (pe_tup (pa_cons pe_str pa_nil)) pa_nil)))
      (pss_cons (ps_set (i := 2) scDeeds.nd rfl (Or.inl rfl) (pe_lst (pa_cons (pv 0) pa_nil)))
      (pss_cons (ps_while PassesOwn.never (pt_truth (pv 2) (fun _ => rfl))
        (pss_cons (ps_set (i := 3) scDeeds.nd rfl (Or.inl rfl) (pe_bm0 PySem.F.plainAttrs_list PySem.F.slot_list_pop PySem.F.type_list_pop mt_pop (pv 2)))
        (pss_one (ps_if (pt_val (pe_callB call_isinst rfl T.isi PyProof.Rows.boot_isinstance (pa_cons (pv 3) (pa_cons (pe_bltn (v := .ty "str") rfl T.str boot_txt rfl) pa_nil))))
          (pss_one (ps_expr (pe_bm PySem.F.plainAttrs_list PySem.F.slot_list_append PySem.F.type_list_append mt_append (pv 1) (pa_cons (pe_tup (pa_cons pe_str (pa_cons (pv 3) pa_nil))) pa_nil))))
          (pss_cons (ps_expr (pe_bm PySem.F.plainAttrs_list PySem.F.slot_list_append PySem.F.type_list_append mt_append (pv 1) (pa_cons (pe_tup (pa_cons pe_str (pa_cons (pe_ix ix_tup (pv 3) pe_int (fun _ _ => rfl)) pa_nil))) pa_nil)))
          (pss_one (ps_expr (pe_bm PySem.F.plainAttrs_list PySem.F.slot_list_extend PySem.F.type_list_extend mt_extendT (pv 2) (pa_cons (pe_ix ix_tup (pv 3) pe_int (fun _ _ => rfl)) pa_nil)))))))))
      (pss_one (ps_ret (pe_revL (pv 1)))))), ?_⟩
    refine ⟨(by show 1 ≤ sizeLine; decide), fun a0 h0 => ⟨(by show 1 ≤ sizeLine; decide), fun L hL => ?_⟩⟩
    have s1 := (same_laid h0 (.tup [.str "done"])).trans (same_laid hL (.lst [.ref a0]))
    have e1 : upd (upd H a0 (.tup [.str "done"])) L (.lst [.ref a0]) L = some (.lst [.ref a0]) := upd_same
    have d1 : SqT K (upd (upd H a0 (.tup [.str "done"])) L (.lst [.ref a0])) a0 [.str "done"] := (same_laid hL _).tup (SqT.of upd_same)
    have fL : H L = none := (same_laid h0 _).free hL
    generalize upd (upd H a0 (.tup [.str "done"])) L (.lst [.ref a0]) = H1 at s1 e1 d1
    refine ⟨_, rfl, (by show 1 ≤ sizeLine; decide), fun W hW => ?_⟩
    have s2 := s1.trans (same_laid hW (.lst [v]))
    have e2 := same_laid hW (.lst [v]) _ _ e1
    have d2 := (same_laid hW (.lst [v])).tup d1
    have fW : H W = none := s1.free hW
    have nW : W ≠ L := fun z => by rw [z, e1] at hW; cases hW
    have e3 : upd H1 W (.lst [v]) W = some (.lst [v]) := upd_same
    generalize upd H1 W (.lst [v]) = H2 at s2 e2 e3 d2
    refine ⟨fun m σ H5 => ∃ (as : List Addr) (ds : List Dd) (us : List V) (ts : List Tr) (y : Option V), σ = [some v, some (.ref L), some (.ref W), y] ∧ Same H H5 ∧ H5 L = some (.lst ((a0 :: as).map V.ref)) ∧ H5 W = some (.lst us) ∧ SqT K H5 a0 [.str "done"] ∧ Paired (fun a d => DdV K H5 a d) as ds ∧ Paired (fun v t => TrV K H5 t v) us ts ∧ ds ++ ts.reverse.flatMap (fun t => (dds t).reverse) = (dds t).reverse ∧ m = (ts.map sz).sum ∧ ds.length + m ≤ sz t,
      ⟨sz t, [], [], [v], [t], none, rfl, s2, e2, e3, d2, .nil, .cons (TrV.keep (fun _ _ z => s2.tup z) t ht) .nil, by simp, by simp, by simp⟩, ?_⟩
    rintro m σ H5 ⟨as, ds, us, ts, y, rfl, sm, eL, eW, dn, pd, pr, er, em, ez⟩
    have lp := Paired.length pr
    have ld := Paired.length pd
    refine ⟨_, rfl, !us.isEmpty, ?_, ?_⟩
    · exact .inl ⟨us, SqL.of eW, rfl⟩
    refine ite2 (fun c => ?_) (fun c => ?_)
    · obtain ⟨us', u, ts', t0, rfl, rfl, pr', h0'⟩ := paired_last pr (fun z => by rw [z] at c; cases c)
      rw [List.map_append, List.sum_append] at em
      simp only [List.map_cons, List.map_nil, List.sum_cons, List.sum_nil] at em
      rw [List.reverse_append, List.reverse_singleton] at er
      have sp := sz_pos t0
      refine ⟨_, fun _ _ h => h, ?_⟩
      refine ⟨_, rfl, .inl ⟨rfl, _, SqL.of eW⟩, W, _, u, rfl, rfl, eW, pop_last, ?_⟩
      rw [List.dropLast_concat]
      have eL2 : upd H5 W (.lst us') L = some (.lst ((a0 :: as).map V.ref)) := by rw [upd_ne (Ne.symm nW)]; exact eL
      have sm2 : Same H (upd H5 W (.lst us')) := fun b o hb => by rw [upd_ne (fun z => by rw [z, fW] at hb; cases hb)]; exact sm b o hb
      have tk : ∀ a xs, SqT K H5 a xs → SqT K (upd H5 W (.lst us')) a xs := fun a xs z => sqt_upd eW z
      have h1 := TrV.keep tk t0 h0'
      have pr2 : Paired (fun v t => TrV K (upd H5 W (.lst us')) t v) us' ts' := Paired.mapP pr' fun v t z => TrV.keep tk t z
      have pd2 : Paired (fun a d => DdV K (upd H5 W (.lst us')) a d) as ds := Paired.mapP pd fun v t z => z.keep tk
      have dn2 := tk _ _ dn
      have eW2 : upd H5 W (.lst us') W = some (.lst us') := upd_same
      generalize upd H5 W (.lst us') = H6 at eL2 sm2 h1 pr2 eW2 pd2 dn2
      cases t0 with
      | w z =>
        unfold TrV at h1
        subst h1
        refine ⟨_, rfl, .str z, "str", "str", true, rfl, .str z, kit_self, true, rfl, ?_⟩
        refine iteT ?_
        refine ⟨_, rfl, .inl ⟨rfl, _, SqL.of eL2⟩, _, rfl, (by show 2 ≤ sizeLine; decide), fun b hb => ?_⟩
        have s7 := same_laid hb (.tup [.str "step", .str z])
        have e8 : SqT K (upd H6 b (.tup [.str "step", .str z])) b [.str "step", .str z] := SqT.of upd_same
        generalize upd H6 b (.tup [.str "step", .str z]) = H7 at s7 e8
        have eL7 := s7 _ _ eL2
        refine ⟨L, _, _, rfl, rfl, eL7, fits' (by rw [List.length_map, List.length_cons]; omega), ?_⟩
        have e7 : (sz (.w z)) = 1 := by unfold sz; rfl
        have kk : ∀ a xs, SqT K H6 a xs → SqT K (upd H7 L (.lst ((a0 :: as).map V.ref ++ [.ref b]))) a xs := fun a xs z => sqt_upd eL7 (s7.tup z)
        refine ⟨(ts'.map sz).sum, by omega, as ++ [b], ds ++ [.step z], us', ts', _, rfl, fun b o hb => ?_, by rw [upd_same]; simp, by rw [upd_ne nW]; exact s7 _ _ eW2, kk _ _ dn2, Paired.snoc (Paired.mapP pd2 fun a d z => z.keep kk) (show DdV K _ b (.step z) from sqt_upd eL7 e8), Paired.mapP pr2 fun v t z => TrV.keep kk t z, ?_, rfl, by rw [List.length_append]; simp; omega⟩
        · rw [upd_ne (fun z => by rw [z, fL] at hb; cases hb)]; exact s7 _ _ (sm2 b o hb)
        · rw [← er, List.append_assoc]
          congr 1
      | n k cs =>
        unfold TrV at h1
        obtain ⟨a, p, vs, rfl, ha, hp, hcs⟩ := h1
        refine ⟨_, rfl, .ref a, "tuple", "str", false, rfl, .tup ha, kit_st, false, rfl, ?_⟩
        refine iteF ?_
        have pcs := TrsV.paired cs hcs
        have lcs := Paired.length pcs
        have e7 : sz (.n k cs) = 1 + (cs.toL.map sz).sum := by unfold sz; rw [szs_toL]
        have l1 := lsz cs.toL
        have l2 := lsz ts'
        have l3 := Paired.length pr2
        refine ⟨_, rfl, .inl ⟨rfl, _, SqL.of eL2⟩, _, rfl, a, _, _, _, rfl, rfl, ha, rfl, (by show 2 ≤ sizeLine; decide), fun b hb => ?_⟩
        have s7 := same_laid hb (.tup [.str "make", .int (k : Int)])
        have e8 : SqT K (upd H6 b (.tup [.str "make", .int (k : Int)])) b [.str "make", .int (k : Int)] := SqT.of upd_same
        generalize upd H6 b (.tup [.str "make", .int (k : Int)]) = H7 at s7 e8
        have eL7 := s7 _ _ eL2
        refine ⟨L, _, _, rfl, rfl, eL7, fits' (by rw [List.length_map, List.length_cons]; omega), ?_⟩
        have kk : ∀ a xs, SqT K H6 a xs → SqT K (upd H7 L (.lst ((a0 :: as).map V.ref ++ [.ref b]))) a xs := fun a xs z => sqt_upd eL7 (s7.tup z)
        have e9 := sqt_upd (K := K) (o := .lst ((a0 :: as).map V.ref ++ [.ref b])) eL7 e8
        have eW8 : upd H7 L (.lst ((a0 :: as).map V.ref ++ [.ref b])) W = some (.lst us') := by rw [upd_ne nW]; exact s7 _ _ eW2
        have eL8 : upd H7 L (.lst ((a0 :: as).map V.ref ++ [.ref b])) L = some (.lst ((a0 :: (as ++ [b])).map V.ref)) := by rw [upd_same]; simp
        have s8 : Same H (upd H7 L (.lst ((a0 :: as).map V.ref ++ [.ref b]))) := fun b o hb => by rw [upd_ne (fun z => by rw [z, fL] at hb; cases hb)]; exact s7 _ _ (sm2 b o hb)
        generalize upd H7 L (.lst ((a0 :: as).map V.ref ++ [.ref b])) = H8 at kk e9 eW8 eL8 s8
        refine ⟨_, rfl, .inl ⟨rfl, _, SqL.of eW8⟩, _, rfl, a, _, _, _, rfl, rfl, kk _ _ ha, rfl, W, p, us', vs, rfl, rfl, eW8, kk _ _ hp, fits (by omega), ?_⟩
        have k9 : ∀ a xs, SqT K H8 a xs → SqT K (upd H8 W (.lst (us' ++ vs))) a xs := fun a xs z => sqt_upd eW8 z
        refine ⟨(ts'.map sz).sum + (cs.toL.map sz).sum, by omega, as ++ [b], ds ++ [.make k], us' ++ vs, ts' ++ cs.toL, _, rfl, fun b o hb => ?_, by rw [upd_ne (Ne.symm nW)]; exact eL8, upd_same, k9 _ _ (kk _ _ dn2), Paired.snoc (Paired.mapP pd2 fun a d z => (z.keep kk).keep k9) (show DdV K _ b (.make k) from k9 _ _ e9), ?_, ?_, ?_, by rw [List.length_append]; simp; omega⟩
        · rw [upd_ne (fun z => by rw [z, fW] at hb; cases hb)]; exact s8 _ _ hb
        · exact Paired.mapP (Paired.app' pr2 pcs) fun v t z => TrV.keep k9 t (TrV.keep kk t z)
        · rw [← er, List.append_assoc]
          congr 1
          rw [List.reverse_append, List.flatMap_append]
          show _ = (Tr.n k cs :: ts'.reverse).flatMap _
          rw [List.flatMap_cons]
          have : (dds (.n k cs)).reverse = .make k :: cs.toL.reverse.flatMap (fun t => (dds t).reverse) := by
            rw [dds_n, ddss_toL, List.reverse_append, rev_flat]
            rfl
          rw [this]
          rfl
        · rw [List.map_append, List.sum_append]
    · have e0 : us = [] := by
        cases us with
        | nil => rfl
        | cons _ _ => exact absurd rfl c
      subst e0
      cases pr
      rw [List.reverse_nil, List.flatMap_nil, List.append_nil] at er
      refine ⟨_, rfl, L, _, rfl, SqL.of eL, fun D hD => ?_⟩
      have k9 := same_laid hD (.lst ((a0 :: as).map V.ref).reverse)
      refine q D as.reverse a0 _ (sm.free hD) (sm.trans k9) ?_ ?_ (k9.tup dn)
      · rw [upd_same]; simp
      · have := Paired.rev' (Paired.mapP pd fun a d z => z.keep fun _ _ y => k9.tup y)
        rw [er, List.reverse_reverse] at this
        exact this
end
end J9
namespace L2
open PySem
theorem op_neTTK {X : Cx} (K : PySem.W.Frag) (hu : X.A.units < cLine) (hK : X.K = K := by rfl) : OpR X (compareOp .NotEq) (rTT K true) := by
  subst hK
  exact op_neTT hu
end L2
namespace J9
open PySem L2 M11 K11
inductive Ev
  | step (z : Str)
  | make (k : Int)
  | done
def evV : Ev → List V
  | .step z => [.str "step", .str z]
  | .make k => [.str "make", .int k]
  | .done => [.str "done"]
theorem ev_flat : ∀ e, (evV e).all flatV = true
  | .step _ => rfl
  | .make _ => rfl
  | .done => rfl
def evEq (d e : Ev) : Bool := eqL (evV d) (evV e)
theorem sne1 : ((Str.ofString "step" : Str) == Str.ofString "make") = false := by decide +kernel
theorem sne2 : ((Str.ofString "step" : Str) == Str.ofString "done") = false := by decide +kernel
theorem sne3 : ((Str.ofString "make" : Str) == Str.ofString "step") = false := by decide +kernel
theorem sne4 : ((Str.ofString "make" : Str) == Str.ofString "done") = false := by decide +kernel
theorem sne5 : ((Str.ofString "done" : Str) == Str.ofString "step") = false := by decide +kernel
theorem sne6 : ((Str.ofString "done" : Str) == Str.ofString "make") = false := by decide +kernel
theorem mixF {a b : Str} {xs ys : List V} (h : (a == b) = false) : eqL (V.str a :: xs) (V.str b :: ys) = false := by
  show ((a == b) && eqL xs ys) = false
  rw [h]; rfl
theorem ev_iff : ∀ {d e : Ev}, evEq d e = true ↔ d = e
  | .step z, .step y => by
    show (((Str.ofString "step" : Str) == Str.ofString "step") && ((z == y) && true)) = true ↔ _
    simp
  | .make z, .make y => by
    show (((Str.ofString "make" : Str) == Str.ofString "make") && ((z == y) && true)) = true ↔ _
    simp
  | .done, .done => by
    show (((Str.ofString "done" : Str) == Str.ofString "done") && true) = true ↔ _
    simp
  | .step z, .make y => by
    have h : evEq (.step z) (.make y) = false := mixF sne1
    exact ⟨fun z => (Bool.false_ne_true (h.symm.trans z)).elim, fun z => nomatch z⟩
  | .step z, .done => by
    have h : evEq (.step z) (.done) = false := mixF sne2
    exact ⟨fun z => (Bool.false_ne_true (h.symm.trans z)).elim, fun z => nomatch z⟩
  | .make z, .step y => by
    have h : evEq (.make z) (.step y) = false := mixF sne3
    exact ⟨fun z => (Bool.false_ne_true (h.symm.trans z)).elim, fun z => nomatch z⟩
  | .make z, .done => by
    have h : evEq (.make z) (.done) = false := mixF sne4
    exact ⟨fun z => (Bool.false_ne_true (h.symm.trans z)).elim, fun z => nomatch z⟩
  | .done, .step y => by
    have h : evEq (.done) (.step y) = false := mixF sne5
    exact ⟨fun z => (Bool.false_ne_true (h.symm.trans z)).elim, fun z => nomatch z⟩
  | .done, .make y => by
    have h : evEq (.done) (.make y) = false := mixF sne6
    exact ⟨fun z => (Bool.false_ne_true (h.symm.trans z)).elim, fun z => nomatch z⟩
theorem ev_ne {d e : Ev} : evEq d e = false ↔ d ≠ e := by
  constructor
  · intro h z; rw [ev_iff.mpr z] at h; cases h
  · intro h
    cases c : evEq d e with
    | false => rfl
    | true => exact absurd (ev_iff.mp c) h
abbrev EvV (K : PySem.W.Frag) (H : Hp) (a : Addr) (e : Ev) : Prop := SqT K H a (evV e)
abbrev EvsV (K : PySem.W.Frag) (H : Hp) (as : List Addr) (es : List Ev) : Prop := Paired (fun a e => EvV K H a e) as es
theorem EvsV.same {K : PySem.W.Frag} {H H' : Hp} {as : List Addr} {es : List Ev} (h : EvsV K H as es) (s : Same H H') : EvsV K H' as es := Paired.mapP h fun _ _ z => s.tup z
theorem EvsV.keep {K : PySem.W.Frag} {H H' : Hp} {as : List Addr} {es : List Ev} (h : EvsV K H as es) (k : ∀ a xs, SqT K H a xs → SqT K H' a xs) : EvsV K H' as es := Paired.mapP h fun _ _ z => k _ _ z
def evOf : Dd → Ev
  | .step z => .step z
  | .make k => .make k
def evs (t : Tr) : List Ev := (dds t).map evOf ++ [.done]
theorem evs_len (t : Tr) : (evs t).length = sz t + 1 := by
  unfold evs
  rw [List.length_append, List.length_map, dds_len]; rfl
theorem evs_of {K : PySem.W.Frag} {H : Hp} {as : List Addr} {a0 : Addr} {t : Tr} (p : Paired (fun a d => DdV K H a d) as (dds t)) (h : SqT K H a0 [.str "done"]) : EvsV K H (as ++ [a0]) (evs t) := by
  refine Paired.app' (paired_mapR p fun a d z => ?_) (.cons h .nil)
  cases d with
  | step z => exact z
  | make k => exact z
def nextW : List Ev → Str
  | [] => ""
  | .step z :: _ => z
  | .make _ :: r => nextW r
  | .done :: r => nextW r
def stpE : Ev → List Str
  | .step z => [z]
  | .make _ => []
  | .done => []
theorem next_flat : ∀ es : List Ev, nextW es = (((es.flatMap stpE)[0]?).getD (Str.ofString "") : Str)
  | [] => rfl
  | .step z :: r => rfl
  | .make _ :: r => by show nextW r = _; rw [next_flat r]; rfl
  | .done :: r => by show nextW r = _; rw [next_flat r]; rfl
theorem stpE_le : ∀ (es : List Ev), (es.flatMap stpE).length ≤ es.length
  | [] => Nat.le_refl _
  | .step z :: r => by have := stpE_le r; simp [stpE] at *; omega
  | .make _ :: r => by have := stpE_le r; simp [stpE] at *; omega
  | .done :: r => by have := stpE_le r; simp [stpE] at *; omega
section
variable {P : Program} {w : World} {K : PySem.W.Frag} {mg : Str → Option Value} {base : Heap} {f : Addr} {fd : FuncData}
theorem kit_sb : PySem.W.kitOne K (.type "str") (.type "bool") = some false := by kernel_rfl
def spTold (K : PySem.W.Frag) : Sp := fun vs H Q _ => ∃ (a b : Addr) (d e : Ev), vs = [.ref a, .ref b] ∧ EvV K H a d ∧ EvV K H b e ∧ Q (.bl (evEq d e)) H
theorem scTold : FnScope ["deed", "told"] ["deed", "told"] (defScope sTold) := ⟨rfl, rfl, rfl, by decide +kernel, rfl, by decide +kernel, by decide +kernel⟩
theorem ok_told (F : Fun K "is_told" "is_told" sTold f fd) (T : Txt mg) : FnOk P w K mg base CX0 1 f fd ["deed", "told"] (spTold K) := by
  refine F.ok scTold (fun vs H Q E h => ?_) (fun cdv A outer s H vs Q E hr h => ?_)
  · obtain ⟨a, b, d, e, rfl, _⟩ := h; rfl
  · obtain ⟨a, b, d, e, rfl, ha, hb, q⟩ := h
    have hu0 := Nat.lt_of_succ_lt (hu_of hr)
    refine ⟨_, pss_one (ps_ret (pe_and (pe_cmpR (op_eqTT hu0) (pv 0) (pv 1) (nomark _))
      (pe_one (pe_not (pe_callB call_isinst rfl T.isi PyProof.Rows.boot_isinstance (pa_cons (pe_ix ix_tup (pv 1) (pe_un un_neg pe_int) (fun _ _ => rfl)) (pa_cons (pe_bltn (v := .ty "bool") rfl T.boo PyProof.Rows.boot_bool rfl) pa_nil))))))), ?_⟩
    refine ⟨_, rfl, _, rfl, a, b, _, _, rfl, rfl, ha, hb, ev_flat d, ev_flat e, evEq d e, rfl, ?_⟩
    refine ite2 (fun c => ?_) (fun c => ?_)
    · rw [c] at q
      cases e with
      | step z => exact ⟨_, rfl, _, rfl, b, _, _, _, rfl, rfl, hb, rfl, .str z, "str", "bool", false, rfl, .str z, kit_sb, false, rfl, q⟩
      | make k => exact ⟨_, rfl, _, rfl, b, _, _, _, rfl, rfl, hb, rfl, .int k, "int", "bool", false, rfl, .int k, kit_ib, false, rfl, q⟩
      | done => exact ⟨_, rfl, _, rfl, b, _, _, _, rfl, rfl, hb, rfl, .str "done", "str", "bool", false, rfl, .str "done", kit_sb, false, rfl, q⟩
    · have c' : evEq d e = false := by cases z : evEq d e with | false => rfl | true => exact absurd z c
      rw [c'] at q
      exact q
def spNextW (K : PySem.W.Frag) : Sp := fun vs H Q _ => ∃ (L : Addr) (as : List Addr) (es : List Ev) (k : Nat), vs = [.ref L, .int (k : Int)] ∧ SqL K H L (as.map V.ref) ∧ EvsV K H as es ∧ es.length ≤ 1000000 ∧ ∀ H', Same H H' → Q (.str (nextW (es.drop k))) H'
theorem scNextW : FnScope ["deeds", "at", "words"] ["deeds", "at"] (defScope sNextW) := ⟨rfl, rfl, rfl, by decide +kernel, rfl, by decide +kernel, by decide +kernel⟩
theorem ok_nextW (F : Fun K "next_word" "next_word" sNextW f fd) (T : Txt mg) : FnOk P w K mg base CX0 1 f fd ["deeds", "at"] (spNextW K) := by
  refine F.ok scNextW (fun vs H Q E h => ?_) (fun cdv A outer s H vs Q E hr h => ?_)
  · obtain ⟨L, as, es, k, rfl, _⟩ := h; rfl
  · obtain ⟨L, as, es, k, rfl, hL, hev, hlen, q⟩ := h
    refine ⟨_, pss_cons (ps_setC (iy := 2) ["deed"] [] scNextW.nd rfl rfl rfl (pi_list (pe_slice sl_list (pv 0) (po_some (pv 1)) po_none)) (caps_of rfl rfl) (by decide +kernel) rfl (by decide +kernel)
        (fun _ _ _ _ _ => pg_name (i := 0) (show (["deed"] : List Str).Nodup by decide +kernel) rfl (Or.inl rfl)) (fun _ _ _ _ _ => pif_one (pt_cmpR op_eq (pe_ix (ix_tupK K) (pv 0) pe_int (fun _ _ => rfl)) pe_str (nomark _))) (fun _ _ _ _ _ => pe_ix (ix_tupK K) (pv 0) pe_int (fun _ _ => rfl)))
      (pss_one (ps_ret (pe_ifExp (pt_truth (pv 2) (fun _ => rfl)) (pe_ix ix_list (pv 2) pe_int (fun _ _ => rfl)) pe_str))), ?_⟩
    refine ⟨_, rfl, _, rfl, (k : Int), rfl, L, _, rfl, hL, fun S hS => ?_⟩
    rw [cut_from, ← List.map_drop]
    have k1 := same_laid hS (.lst ((as.drop k).map V.ref))
    have eS : upd H S (.lst ((as.drop k).map V.ref)) S = some (.lst ((as.drop k).map V.ref)) := upd_same
    generalize upd H S (.lst ((as.drop k).map V.ref)) = H1 at k1 eS
    have ev1 : EvsV K H1 (as.drop k) (es.drop k) := by
      have ll := Paired.length hev
      have h2 := hev.same k1
      by_cases hk : k ≤ es.length
      · have e2 : es = es.take k ++ es.drop k := (List.take_append_drop k es).symm
        rw [e2] at h2
        have := (paired_cut h2).2
        rw [List.length_take, Nat.min_eq_left hk] at this
        exact this
      · rw [List.drop_of_length_le (by omega), List.drop_of_length_le (by omega)]
        exact .nil
    have l1 : (es.drop k).length ≤ 1000000 := by rw [List.length_drop]; omega
    generalize as.drop k = bs at ev1 eS
    generalize es.drop k = ds at ev1 l1 q
    have lb := Paired.length ev1
    refine ⟨S, rfl, ⟨_, SqL.of eS⟩, fun D hD => compG_list (xs := bs.map V.ref) (fun i ys σ2 HA => ys = ((ds.take i).flatMap stpE).map V.str ∧ (∃ y0, σ2 = [y0]) ∧ Same H1 HA ∧ HA D = some (.lst ys))
          ⟨rfl, ⟨none, rfl⟩, same_laid hD _, upd_same⟩ (fun i ys σ2 HA _ h => ?_) (fun i x ys σ2 HA ex h => ?_) (fun ys σ2 HA h => ?_)⟩
    · obtain ⟨_, _, sA, _⟩ := h
      exact SqL.of (sA _ _ eS)
    · obtain ⟨rfl, ⟨y0, rfl⟩, sA, eA⟩ := h
      rw [List.getElem?_map] at ex
      obtain ⟨ad, ead, rfl⟩ := Option.map_eq_some_iff.mp ex
      have bnd : (((ds.take i).flatMap stpE).map V.str).length ≤ 1000000 := by
        rw [List.length_map]
        have := stpE_le (ds.take i)
        rw [List.length_take] at this
        omega
      have li := (List.getElem?_eq_some_iff.mp ead).1
      obtain ⟨d, ed⟩ : ∃ d, ds[i]? = some d := ⟨ds[i]'(by omega), List.getElem?_eq_getElem (by omega)⟩
      obtain ⟨ad', ead', vd⟩ := Paired.at_ ev1 i d ed
      rw [ead] at ead'
      cases ead'
      have etk : (ds.take (i + 1)).flatMap stpE = (ds.take i).flatMap stpE ++ stpE d := by
        rw [List.take_add_one, ed, List.flatMap_append]
        simp
      refine goN ?_
      have vA := sA.tup vd
      cases d with
      | step z =>
        refine ⟨_, rfl, ad, _, _, _, rfl, rfl, vA, rfl, rfl, _, rfl, ?_⟩
        refine iteT ?_
        refine ⟨_, rfl, ad, _, _, _, rfl, rfl, vA, rfl, eA, fits' bnd, ?_, ⟨_, rfl⟩, fun b o hb => ?_, upd_same⟩
        · rw [etk, List.map_append]; rfl
        · rw [upd_ne (fun z => by rw [z, hD] at hb; cases hb)]
          exact sA b o hb
      | make k2 =>
        refine ⟨_, rfl, ad, _, _, _, rfl, rfl, vA, rfl, rfl, _, rfl, ?_⟩
        refine iteF ?_
        refine ⟨?_, ⟨_, rfl⟩, sA, eA⟩
        rw [etk]
        show _ = (_ ++ []).map V.str
        rw [List.append_nil]
      | done =>
        refine ⟨_, rfl, ad, _, _, _, rfl, rfl, vA, rfl, rfl, _, rfl, ?_⟩
        refine iteF ?_
        refine ⟨?_, ⟨_, rfl⟩, sA, eA⟩
        rw [etk]
        show _ = (_ ++ []).map V.str
        rw [List.append_nil]
    · obtain ⟨rfl, _, sA, eA⟩ := h
      rw [List.length_map, List.take_of_length_le (by omega)] at eA
      have q2 := q HA (k1.trans sA)
      rw [next_flat] at q2
      generalize ds.flatMap stpE = ws at eA q2
      refine ⟨_, rfl, _, .inl ⟨_, SqL.of eA, rfl⟩, ?_⟩
      cases ws with
      | nil => exact q2
      | cons z r => exact ⟨_, rfl, D, _, _, .str z, rfl, rfl, SqL.of eA, atI_nat (j := 0) rfl, q2⟩
end
end J9
namespace J9
open PySem L2 M11 K11
section
variable {P : Program} {w : World} {K : PySem.W.Frag} {mg : Str → Option Value} {base : Heap} {f : Addr} {fd : FuncData}
theorem kit_ti : PySem.W.kitOne K (.type "tuple") (.type "int") = some false := by kernel_rfl
theorem kit_is : PySem.W.kitOne K (.type "int") (.type "str") = some false := by kernel_rfl
theorem next_cons_step {ds : List Ev} {i : Nat} {z : Str} (h : ds[i]? = some (.step z)) : nextW (ds.drop i) = z := by
  obtain ⟨hi, e⟩ := List.getElem?_eq_some_iff.mp h
  rw [List.drop_eq_getElem_cons hi, e]
  rfl
theorem next_cons_make {ds : List Ev} {i : Nat} {k : Int} (h : ds[i]? = some (.make k)) : nextW (ds.drop i) = nextW (ds.drop (i + 1)) := by
  obtain ⟨hi, e⟩ := List.getElem?_eq_some_iff.mp h
  rw [List.drop_eq_getElem_cons hi, e]
  rfl
theorem next_cons_done {ds : List Ev} {i : Nat} (h : ds[i]? = some .done) : nextW (ds.drop i) = nextW (ds.drop (i + 1)) := by
  obtain ⟨hi, e⟩ := List.getElem?_eq_some_iff.mp h
  rw [List.drop_eq_getElem_cons hi, e]
  rfl
theorem scLNext : FnScope ["_law_deeds_here", "_law_at", "_law_deed"] ["_law_deeds_here", "_law_at"] (defScope sLNext) := ⟨rfl, rfl, rfl, by decide +kernel, rfl, by decide +kernel, by decide +kernel⟩
theorem ok_lnext (F : Fun K "_law_next" "_law_next" sLNext f fd) (T : Txt mg) : FnOk P w K mg base CX0 1 f fd ["_law_deeds_here", "_law_at"] (spNextW K) := by
  refine F.ok scLNext (fun vs H Q E h => ?_) (fun cdv A outer s H vs Q E hr h => ?_)
  · obtain ⟨L, as, es, k, rfl, _⟩ := h; rfl
  · obtain ⟨L, as, es, k, rfl, hL, hev, hlen, q⟩ := h
    refine ⟨_, pss_cons (ps_for PassesOwn.never rfl (pi_list (pe_slice sl_list (pv 0) (po_some (pv 1)) po_none)) (pg_name (i := 2) scLNext.nd rfl (Or.inl rfl))
        (pss_one (ps_if (pt_cmpR op_eq (pe_ix ix_tup (pv 2) pe_int (fun _ _ => rfl)) pe_str (nomark _)) (pss_one (ps_ret (pe_ix ix_tup (pv 2) pe_int (fun _ _ => rfl)))) pss_nil)))
      (pss_one (ps_ret pe_str)), ?_⟩
    refine ⟨_, rfl, _, rfl, (k : Int), rfl, L, _, rfl, hL, fun S hS => ?_⟩
    rw [cut_from, ← List.map_drop]
    have k1 := same_laid hS (.lst ((as.drop k).map V.ref))
    have eS : upd H S (.lst ((as.drop k).map V.ref)) S = some (.lst ((as.drop k).map V.ref)) := upd_same
    generalize upd H S (.lst ((as.drop k).map V.ref)) = H1 at k1 eS
    have ev1 : EvsV K H1 (as.drop k) (es.drop k) := by
      have ll := Paired.length hev
      have h2 := hev.same k1
      by_cases hk : k ≤ es.length
      · have e2 : es = es.take k ++ es.drop k := (List.take_append_drop k es).symm
        rw [e2] at h2
        have := (paired_cut h2).2
        rw [List.length_take, Nat.min_eq_left hk] at this
        exact this
      · rw [List.drop_of_length_le (by omega), List.drop_of_length_le (by omega)]
        exact .nil
    generalize as.drop k = bs at ev1 eS
    generalize es.drop k = ds at ev1 q
    have lb := Paired.length ev1
    have q1 := q H1 k1
    clear q
    refine ⟨S, rfl, ⟨_, SqL.of eS⟩, for_list (xs := bs.map V.ref) (fun i σ2 HA => HA = H1 ∧ nextW ds = nextW (ds.drop i) ∧ ∃ y2, σ2 = [some (.ref L), some (.int (k : Int)), y2]) ⟨rfl, rfl, _, rfl⟩ (fun i σ2 HA _ h => ?_) (fun i x σ2 HA ex h => ?_) (fun σ2 HA h => ?_)⟩
    · obtain ⟨rfl, _⟩ := h
      exact SqL.of eS
    · obtain ⟨rfl, en, y2, rfl⟩ := h
      rw [List.getElem?_map] at ex
      obtain ⟨ad, ead, rfl⟩ := Option.map_eq_some_iff.mp ex
      have li := (List.getElem?_eq_some_iff.mp ead).1
      obtain ⟨d, ed⟩ : ∃ d, ds[i]? = some d := ⟨ds[i]'(by omega), List.getElem?_eq_getElem (by omega)⟩
      obtain ⟨ad', ead', vA⟩ := Paired.at_ ev1 i d ed
      rw [ead] at ead'
      cases ead'
      refine goN ?_
      cases d with
      | step z =>
        refine ⟨_, rfl, ad, _, _, _, rfl, rfl, vA, rfl, rfl, _, rfl, ?_⟩
        refine iteT ?_
        rw [en, next_cons_step ed] at q1
        exact ⟨_, rfl, ad, _, _, _, rfl, rfl, vA, rfl, q1⟩
      | make k2 =>
        refine ⟨_, rfl, ad, _, _, _, rfl, rfl, vA, rfl, rfl, _, rfl, ?_⟩
        refine iteF ?_
        exact ⟨rfl, en.trans (next_cons_make ed), _, rfl⟩
      | done =>
        refine ⟨_, rfl, ad, _, _, _, rfl, rfl, vA, rfl, rfl, _, rfl, ?_⟩
        refine iteF ?_
        exact ⟨rfl, en.trans (next_cons_done ed), _, rfl⟩
    · obtain ⟨rfl, en, y2, rfl⟩ := h
      rw [List.length_map, List.drop_of_length_le (by omega)] at en
      rw [en] at q1
      exact q1
inductive Te
  | t (t : Tr)
  | k (n : Int)
def TeV (K : PySem.W.Frag) (H : Hp) : Te → V → Prop
  | .t t, v => TrV K H t v
  | .k n, v => v = .int n
theorem TeV.keep {H H' : Hp} (k : ∀ a xs, SqT K H a xs → SqT K H' a xs) : ∀ {e : Te} {v : V}, TeV K H e v → TeV K H' e v
  | .t t, _, h => TrV.keep k t h
  | .k _, _, h => h
def outE : Te → List Ev
  | .t t => (dds t).map evOf
  | .k n => [.make n]
def costE : Te → Nat
  | .t t => 2 * sz t
  | .k _ => 1
def szE : Te → Nat
  | .t t => sz t
  | .k _ => 1
theorem lszE : ∀ l : List Te, l.length ≤ (l.map szE).sum
  | [] => Nat.le_refl _
  | .t x :: r => by
    have := sz_pos x
    have := lszE r
    rw [List.map_cons, List.sum_cons, List.length_cons]
    show _ ≤ sz x + _
    omega
  | .k n :: r => by
    have := lszE r
    rw [List.map_cons, List.sum_cons, List.length_cons]
    show _ ≤ 1 + _
    omega
theorem kids_out : ∀ ts : List Tr, (ts.map Te.t).flatMap outE = (ts.flatMap dds).map evOf
  | [] => rfl
  | t :: r => by
    rw [List.map_cons, List.flatMap_cons, List.flatMap_cons, List.map_append, kids_out r]
    rfl
theorem kids_cost : ∀ ts : List Tr, ((ts.map Te.t).map costE).sum = 2 * (ts.map sz).sum
  | [] => rfl
  | t :: r => by
    rw [List.map_cons, List.map_cons, List.sum_cons, kids_cost r, List.map_cons, List.sum_cons]
    show 2 * sz t + _ = _
    omega
theorem kids_sz : ∀ ts : List Tr, ((ts.map Te.t).map szE).sum = (ts.map sz).sum
  | [] => rfl
  | t :: r => by
    rw [List.map_cons, List.map_cons, List.sum_cons, kids_sz r, List.map_cons, List.sum_cons]
    rfl
def spLDeeds (K : PySem.W.Frag) : Sp := fun vs H Q _ => ∃ (v : V) (t : Tr), vs = [v] ∧ TrV K H t v ∧ sz t ≤ 900000 ∧ ∀ D as H', H D = none → Same H H' → H' D = some (.lst (as.map V.ref)) → EvsV K H' as (evs t) → Q (.ref D) H'
theorem scLDeeds : FnScope ["_law_tree_here", "_law_deeds_here", "_law_todo", "_law_one", "_law_child"] ["_law_tree_here"] (defScope sLDeeds) := ⟨rfl, rfl, rfl, by decide +kernel, rfl, by decide +kernel, by decide +kernel⟩
theorem ok_ldeeds (F : Fun K "_law_deeds" "_law_deeds" sLDeeds f fd) (T : Txt mg) : FnOk P w K mg base CX0 1 f fd ["_law_tree_here"] (spLDeeds K) := by
  refine F.ok scLDeeds (fun vs H Q E h => ?_) (fun cdv A outer s H vs Q E hr h => ?_)
  · obtain ⟨v, t, rfl, _⟩ := h; rfl
  · obtain ⟨v, t, rfl, ht, hsz, q⟩ := h
    have hu0 := Nat.lt_of_succ_lt (hu_of hr)
    refine ⟨_, pss_cons (ps_set (i := 1) scLDeeds.nd rfl (Or.inl rfl) (pe_lst pa_nil))
      (pss_cons (ps_set (i := 2) scLDeeds.nd rfl (Or.inl rfl) (pe_lst (pa_cons (pv 0) pa_nil)))
      (pss_cons (ps_while PassesOwn.never (pt_cmpR (op_ne_nil hu0) (pv 2) (pe_lst pa_nil) (nomark _))
        (pss_cons (ps_set (i := 3) scLDeeds.nd rfl (Or.inl rfl) (pe_bm0 PySem.F.plainAttrs_list PySem.F.slot_list_pop PySem.F.type_list_pop mt_pop (pv 2)))
        (pss_one (ps_if (pt_val (pe_callB call_isinst rfl T.isi PyProof.Rows.boot_isinstance (pa_cons (pv 3) (pa_cons (pe_bltn (v := .ty "str") rfl T.str boot_txt rfl) pa_nil))))
          (pss_one (ps_expr (pe_bm PySem.F.plainAttrs_list PySem.F.slot_list_append PySem.F.type_list_append mt_append (pv 1) (pa_cons (pe_tup (pa_cons pe_str (pa_cons (pv 3) pa_nil))) pa_nil))))
          (pss_one (ps_if (pt_val (pe_callB call_isinst rfl T.isi PyProof.Rows.boot_isinstance (pa_cons (pv 3) (pa_cons (pe_bltn (v := .ty "int") rfl T.int PyProof.Rows.boot_int rfl) pa_nil))))
            (pss_one (ps_expr (pe_bm PySem.F.plainAttrs_list PySem.F.slot_list_append PySem.F.type_list_append mt_append (pv 1) (pa_cons (pe_tup (pa_cons pe_str (pa_cons (pv 3) pa_nil))) pa_nil))))
            (pss_cons (ps_expr (pe_bm PySem.F.plainAttrs_list PySem.F.slot_list_append PySem.F.type_list_append mt_append (pv 2) (pa_cons (pe_ix ix_tup (pv 3) pe_int (fun _ _ => rfl)) pa_nil)))
            (pss_one (ps_for PassesOwn.never rfl (pi_revT rfl T.rev (pa_cons (pe_ix ix_tup (pv 3) pe_int (fun _ _ => rfl)) pa_nil)) (pg_name (i := 4) scLDeeds.nd rfl (Or.inl rfl))
              (pss_one (ps_expr (pe_bm PySem.F.plainAttrs_list PySem.F.slot_list_append PySem.F.type_list_append mt_append (pv 2) (pa_cons (pv 4) pa_nil)))))))))))))
      (pss_one (ps_ret (pe_op op_cat (pv 1) (pe_lst (pa_cons (pe_tup (pa_cons pe_str pa_nil)) pa_nil))))))), ?_⟩
    refine ⟨(by show 0 ≤ sizeLine; decide), fun L hL => ?_⟩
    have fL := hL
    have s1 := same_laid hL (.lst [])
    have e1 : upd H L (.lst []) L = some (.lst []) := upd_same
    generalize upd H L (.lst []) = H1 at s1 e1
    refine ⟨_, rfl, (by show 1 ≤ sizeLine; decide), fun W hW => ?_⟩
    have s2 := s1.trans (same_laid hW (.lst [v]))
    have e2 := same_laid hW (.lst [v]) _ _ e1
    have fW : H W = none := s1.free hW
    have nW : W ≠ L := fun z => by rw [z, e1] at hW; cases hW
    have e3 : upd H1 W (.lst [v]) W = some (.lst [v]) := upd_same
    generalize upd H1 W (.lst [v]) = H2 at s2 e2 e3
    refine ⟨fun m σ H5 => ∃ (as : List Addr) (ds : List Ev) (us : List V) (es : List Te) (y3 y4 : Option V), σ = [some v, some (.ref L), some (.ref W), y3, y4] ∧ Same H H5 ∧ H5 L = some (.lst (as.map V.ref)) ∧ H5 W = some (.lst us) ∧ EvsV K H5 as ds ∧ Paired (fun v e => TeV K H5 e v) us es ∧ ds ++ es.reverse.flatMap outE = (dds t).map evOf ∧ m = (es.map costE).sum ∧ as.length + (es.map szE).sum ≤ sz t,
      ⟨2 * sz t, [], [], [v], [.t t], none, none, rfl, s2, e2, e3, .nil, .cons (show TeV K H2 (.t t) v from TrV.keep (fun _ _ z => s2.tup z) t ht) .nil, by simp [outE], by simp [costE], by simp [szE]⟩, ?_⟩
    rintro m σ H5 ⟨as, ds, us, es, y3, y4, rfl, sm, eL, eW, pd, pr, er, em, ez⟩
    refine ⟨_, rfl, (by show 0 ≤ sizeLine; decide), fun L0 hL0 => ⟨W, L0, _, rfl, rfl, SqL.of (same_laid hL0 _ _ _ eW), SqL.of upd_same, _, rfl, ?_⟩⟩
    have k0 := same_laid hL0 (.lst [])
    have sm := sm.trans k0
    have eL := k0 _ _ eL
    have eW := k0 _ _ eW
    have pd := pd.same k0
    have pr : Paired (fun v e => TeV K (upd H5 L0 (.lst [])) e v) us es := Paired.mapP pr fun v e z => z.keep fun _ _ y => k0.tup y
    generalize upd H5 L0 (.lst []) = H5 at sm eL eW pd pr
    have lp := Paired.length pr
    have ld := Paired.length pd
    have lse := lszE es
    refine ite2 (fun c => ?_) (fun c => ?_)
    · obtain ⟨us', u, es', e0, rfl, rfl, pr', h0'⟩ := paired_last pr (fun z => by rw [z] at c; cases c)
      rw [List.map_append, List.sum_append] at em ez
      simp only [List.map_cons, List.map_nil, List.sum_cons, List.sum_nil, Nat.add_zero] at em ez
      rw [List.reverse_append, List.reverse_singleton] at er
      refine ⟨_, fun _ _ h => h, ?_⟩
      refine ⟨_, rfl, .inl ⟨rfl, _, SqL.of eW⟩, W, _, u, rfl, rfl, eW, pop_last, ?_⟩
      rw [List.dropLast_concat]
      have eL2 : upd H5 W (.lst us') L = some (.lst (as.map V.ref)) := by rw [upd_ne (Ne.symm nW)]; exact eL
      have sm2 : Same H (upd H5 W (.lst us')) := fun b o hb => by rw [upd_ne (fun z => by rw [z, fW] at hb; cases hb)]; exact sm b o hb
      have tk : ∀ a xs, SqT K H5 a xs → SqT K (upd H5 W (.lst us')) a xs := fun a xs z => sqt_upd eW z
      have h1 := h0'.keep tk
      have pr2 : Paired (fun v e => TeV K (upd H5 W (.lst us')) e v) us' es' := Paired.mapP pr' fun v e z => z.keep tk
      have pd2 := pd.keep tk
      have eW2 : upd H5 W (.lst us') W = some (.lst us') := upd_same
      generalize upd H5 W (.lst us') = H6 at eL2 sm2 h1 pr2 eW2 pd2
      have lse2 := lszE es'
      have lp2 := Paired.length pr2
      clear pr pd sm eL eW tk pr' h0' lse lp c
      cases e0 with
      | k n =>
        cases (show u = V.int n from h1)
        have ec : costE (.k n) = 1 := rfl
        have es1 : szE (.k n) = 1 := rfl
        refine ⟨_, rfl, .int n, "int", "str", false, rfl, .int n, kit_is, false, rfl, ?_⟩
        refine iteF ?_
        refine ⟨_, rfl, .int n, "int", "int", true, rfl, .int n, kit_self, true, rfl, ?_⟩
        refine iteT ?_
        refine ⟨_, rfl, .inl ⟨rfl, _, SqL.of eL2⟩, _, rfl, (by show 2 ≤ sizeLine; decide), fun b hb => ?_⟩
        have s7 := same_laid hb (.tup [.str "make", .int n])
        have e8 : SqT K (upd H6 b (.tup [.str "make", .int n])) b [.str "make", .int n] := SqT.of upd_same
        generalize upd H6 b (.tup [.str "make", .int n]) = H7 at s7 e8
        have eL7 := s7 _ _ eL2
        refine ⟨L, _, _, rfl, rfl, eL7, fits' (by rw [List.length_map]; omega), ?_⟩
        have kk : ∀ a xs, SqT K H6 a xs → SqT K (upd H7 L (.lst (as.map V.ref ++ [.ref b]))) a xs := fun a xs z => sqt_upd eL7 (s7.tup z)
        refine ⟨(es'.map costE).sum, by omega, as ++ [b], ds ++ [.make n], us', es', _, _, rfl, fun b o hb => ?_, by rw [upd_same]; simp, by rw [upd_ne nW]; exact s7 _ _ eW2, Paired.snoc (pd2.keep kk) (show EvV K _ b (.make n) from sqt_upd eL7 e8), Paired.mapP pr2 fun v e z => z.keep kk, ?_, rfl, by rw [List.length_append]; simp; omega⟩
        · rw [upd_ne (fun z => by rw [z, fL] at hb; cases hb)]; exact s7 _ _ (sm2 b o hb)
        · rw [← er, List.append_assoc]
          rfl
      | t t0 =>
        have h1 : TrV K H6 t0 u := h1
        have ec : costE (.t t0) = 2 * sz t0 := rfl
        have es1 : szE (.t t0) = sz t0 := rfl
        have sp := sz_pos t0
        cases t0 with
        | w z =>
          unfold TrV at h1
          subst h1
          refine ⟨_, rfl, .str z, "str", "str", true, rfl, .str z, kit_self, true, rfl, ?_⟩
          refine iteT ?_
          refine ⟨_, rfl, .inl ⟨rfl, _, SqL.of eL2⟩, _, rfl, (by show 2 ≤ sizeLine; decide), fun b hb => ?_⟩
          have s7 := same_laid hb (.tup [.str "step", .str z])
          have e8 : SqT K (upd H6 b (.tup [.str "step", .str z])) b [.str "step", .str z] := SqT.of upd_same
          generalize upd H6 b (.tup [.str "step", .str z]) = H7 at s7 e8
          have eL7 := s7 _ _ eL2
          refine ⟨L, _, _, rfl, rfl, eL7, fits' (by rw [List.length_map]; omega), ?_⟩
          have kk : ∀ a xs, SqT K H6 a xs → SqT K (upd H7 L (.lst (as.map V.ref ++ [.ref b]))) a xs := fun a xs z => sqt_upd eL7 (s7.tup z)
          have ew : sz (.w z) = 1 := by unfold sz; rfl
          refine ⟨(es'.map costE).sum, by omega, as ++ [b], ds ++ [.step z], us', es', _, _, rfl, fun b o hb => ?_, by rw [upd_same]; simp, by rw [upd_ne nW]; exact s7 _ _ eW2, Paired.snoc (pd2.keep kk) (show EvV K _ b (.step z) from sqt_upd eL7 e8), Paired.mapP pr2 fun v e z => z.keep kk, ?_, rfl, by rw [List.length_append]; simp; omega⟩
          · rw [upd_ne (fun z => by rw [z, fL] at hb; cases hb)]; exact s7 _ _ (sm2 b o hb)
          · rw [← er, List.append_assoc]
            rfl
        | n k cs =>
          unfold TrV at h1
          obtain ⟨a, p, vs, rfl, ha, hp, hcs⟩ := h1
          have pcs := TrsV.paired cs hcs
          have lcs := Paired.length pcs
          have e7 : sz (.n k cs) = 1 + (cs.toL.map sz).sum := by unfold sz; rw [szs_toL]
          have l1 := lsz cs.toL
          refine ⟨_, rfl, .ref a, "tuple", "str", false, rfl, .tup ha, kit_st, false, rfl, ?_⟩
          refine iteF ?_
          refine ⟨_, rfl, .ref a, "tuple", "int", false, rfl, .tup ha, kit_ti, false, rfl, ?_⟩
          refine iteF ?_
          refine ⟨_, rfl, .inl ⟨rfl, _, SqL.of eW2⟩, _, rfl, a, _, _, _, rfl, rfl, ha, rfl, W, _, _, rfl, rfl, eW2, fits' (by omega), ?_⟩
          have k8 : ∀ a xs, SqT K H6 a xs → SqT K (upd H6 W (.lst (us' ++ [.int k]))) a xs := fun a xs z => sqt_upd eW2 z
          have eW8 : upd H6 W (.lst (us' ++ [.int k])) W = some (.lst (us' ++ [.int k])) := upd_same
          have eL8 : upd H6 W (.lst (us' ++ [.int k])) L = some (.lst (as.map V.ref)) := by rw [upd_ne (Ne.symm nW)]; exact eL2
          have s8 : Same H (upd H6 W (.lst (us' ++ [.int k]))) := fun b o hb => by rw [upd_ne (fun z => by rw [z, fW] at hb; cases hb)]; exact sm2 _ _ hb
          generalize upd H6 W (.lst (us' ++ [.int k])) = H8 at k8 eW8 eL8 s8
          refine ⟨_, rfl, a, _, _, _, rfl, rfl, k8 _ _ ha, rfl, p, vs, rfl, k8 _ _ hp, for_revT (xs := vs) (fun i σ2 HA => ∃ y4', σ2 = [some v, some (.ref L), some (.ref W), some (.ref a), y4'] ∧ Same H HA ∧ HA L = some (.lst (as.map V.ref)) ∧ HA W = some (.lst (us' ++ [.int k] ++ vs.reverse.take i)) ∧ ∀ a xs, SqT K H6 a xs → SqT K HA a xs)
            ⟨_, rfl, s8, eL8, by rw [List.take_zero, List.append_nil]; exact eW8, k8⟩ (fun i σ2 HA _ h => ?_) (fun i x σ2 HA hi ex h => ?_) (fun σ2 HA h => ?_)⟩
          · obtain ⟨_, _, _, _, _, kA⟩ := h
            exact kA _ _ hp
          · obtain ⟨y4', rfl, sA, eLA, eWA, kA⟩ := h
            refine goN ?_
            refine ⟨_, rfl, .inl ⟨rfl, _, SqL.of eWA⟩, _, rfl, W, _, _, rfl, rfl, eWA, fits' (by rw [List.length_append, List.length_append, List.length_take, List.length_reverse, List.length_singleton]; omega), ?_⟩
            have exr : vs.reverse[i]? = some x := by rw [List.getElem?_reverse hi]; exact ex
            refine ⟨_, rfl, fun b o hb => by rw [upd_ne (fun z => by rw [z, fW] at hb; cases hb)]; exact sA _ _ hb, by rw [upd_ne (Ne.symm nW)]; exact eLA, by rw [upd_same, List.take_add_one, exr]; simp, fun a xs z => sqt_upd eWA (kA a xs z)⟩
          · obtain ⟨y4', rfl, sA, eLA, eWA, kA⟩ := h
            rw [List.take_of_length_le (by rw [List.length_reverse]; exact Nat.le_refl _)] at eWA
            refine ⟨(es'.map costE).sum + 1 + 2 * (cs.toL.map sz).sum, by omega, as, ds, _, es' ++ [.k k] ++ (cs.toL.reverse.map Te.t), _, _, rfl, sA, eLA, eWA, pd2.keep kA, ?_, ?_, ?_, ?_⟩
            · refine Paired.app' (Paired.snoc (Paired.mapP pr2 fun v e z => z.keep kA) rfl) ?_
              exact paired_mapR (Paired.rev' (Paired.mapP pcs fun v t z => TrV.keep kA t z)) fun a b z => z
            · rw [← er]
              congr 1
              rw [List.reverse_append, List.reverse_append, ← List.map_reverse, List.reverse_reverse, List.flatMap_append, List.flatMap_append, kids_out, List.flatMap_append]
              show _ ++ (([Te.k k] : List Te).flatMap outE ++ _) = ([Te.t (.n k cs)] : List Te).flatMap outE ++ _
              rw [List.flatMap_singleton, List.flatMap_singleton, ← List.append_assoc]
              congr 1
              show _ = (dds (.n k cs)).map evOf
              rw [dds_n, ddss_toL, List.map_append]
              rfl
            · rw [List.map_append, List.sum_append, List.map_append, List.sum_append, kids_cost, List.map_reverse, List.sum_reverse]
              simp [costE]
            · rw [List.map_append, List.sum_append, List.map_append, List.sum_append, kids_sz, List.map_reverse, List.sum_reverse]
              simp only [List.map_cons, List.map_nil, List.sum_cons, List.sum_nil, Nat.add_zero]
              show _ + (_ + 1 + _) ≤ _
              omega
    · have e0 : us = [] := by
        cases us with
        | nil => rfl
        | cons _ _ => exact absurd rfl c
      subst e0
      cases pr
      rw [List.reverse_nil, List.flatMap_nil, List.append_nil] at er
      subst er
      refine ⟨_, rfl, (by show 1 ≤ sizeLine; decide), fun a0 h0 => ⟨(by show 1 ≤ sizeLine; decide), fun L1 hL1 => ?_⟩⟩
      have k7 := (same_laid h0 (.tup [.str "done"])).trans (same_laid hL1 (.lst [.ref a0]))
      have d1 : SqT K (upd (upd H5 a0 (.tup [.str "done"])) L1 (.lst [.ref a0])) a0 [.str "done"] := (same_laid hL1 _).tup (SqT.of upd_same)
      have e1 : upd (upd H5 a0 (.tup [.str "done"])) L1 (.lst [.ref a0]) L1 = some (.lst [.ref a0]) := upd_same
      generalize upd (upd H5 a0 (.tup [.str "done"])) L1 (.lst [.ref a0]) = H7 at k7 d1 e1
      refine ⟨L, L1, _, _, rfl, rfl, k7 _ _ eL, e1, ?_, fun p hp => ?_⟩
      · rw [List.length_map]
        simp only [List.map_nil, List.sum_nil, Nat.add_zero] at ez
        exact Nat.le_trans (show as.length + 1 ≤ 1000000 by omega) (by decide)
      · have k8 := same_laid hp (.lst (as.map V.ref ++ [.ref a0]))
        refine q p (as ++ [a0]) _ ((sm.trans k7).free hp) ((sm.trans k7).trans k8) (by rw [upd_same]; simp) ?_
        refine Paired.snoc ((pd.same k7).same k8) ?_
        exact k8.tup d1
end
end J9
namespace J9
open PySem L2 M11 K11
theorem hd_iff {rules : List Rule} {x : Str} : x ∈ hd rules ↔ x ∈ K11.hd rules := by
  rw [hd_mem]
  unfold K11.hd
  rw [List.mem_map]
theorem is_kids {rules : List Rule} {k : Int} {cs : Trs} {x : Str} {parts : List Str} (hk : ruAt rules k = some (x, parts)) (hl : cs.toL.length = parts.length) : Is rules (.n k cs) x ↔ ∀ pp ∈ cs.toL.zip parts, Is rules pp.1 pp.2 := by
  constructor
  · intro j pp h
    unfold Is at j
    obtain ⟨parts', hk', hcs⟩ := j
    rw [hk] at hk'
    cases hk'
    obtain ⟨j, hj⟩ := List.getElem?_of_mem h
    obtain ⟨ec, eq⟩ := List.getElem?_zip_eq_some.mp hj
    exact (Iss.paired cs hcs).2 j _ _ ec eq
  · intro h
    unfold Is
    exact ⟨parts, hk, Iss.back cs (by omega) fun j t p e1 e2 => h (t, p) (List.mem_of_getElem? (List.getElem?_zip_eq_some.mpr ⟨e1, e2⟩))⟩
theorem is_out {rules : List Rule} {k : Int} {cs : Trs} {x : Str} (j : Is rules (.n k cs) x) : ∃ parts, ruAt rules k = some (x, parts) ∧ cs.toL.length = parts.length := by
  unfold Is at j
  obtain ⟨parts, hk, hcs⟩ := j
  exact ⟨parts, hk, (Iss.paired cs hcs).1⟩
section
variable {P : Program} {w : World} {K : PySem.W.Frag} {mg : Str → Option Value} {base : Heap} {f : Addr} {fd : FuncData}
def spIsTree (K : PySem.W.Frag) : Sp := fun vs H Q _ => ∃ (R : Addr) (rs : List Addr) (rules : List Rule) (v : V) (t : Tr) (x : Str) (b : Bool), vs = [.ref R, v, .str x] ∧ SqL K H R (rs.map V.ref) ∧ Rules K H rs rules ∧ rules.length ≤ 1000 ∧ TrV K H t v ∧ sz t ≤ 900000 ∧ (b = true ↔ Is rules t x) ∧ ∀ H', Same H H' → Q (.bl b) H'
abbrev NI : List Str := ["_law_rules_here", "_law_tree_here", "_law_name", "_law_heads", "_law_todo", "_law_one", "_law_part_here", "_law_k"]
theorem scIsTree : FnScope NI ["_law_rules_here", "_law_tree_here", "_law_name"] (defScope sIsTree) := ⟨rfl, rfl, rfl, by decide +kernel, rfl, by decide +kernel, by decide +kernel⟩
theorem ok_isTree (F : Fun K "_law_is_tree" "_law_is_tree" sIsTree f fd) (T : Txt mg) : FnOk P w K mg base CX0 1 f fd ["_law_rules_here", "_law_tree_here", "_law_name"] (spIsTree K) := by
  refine F.ok scIsTree (fun vs H Q E h => ?_) (fun cdv A outer s H vs Q E hr h => ?_)
  · obtain ⟨R, rs, rules, v, t, x, b, rfl, _⟩ := h; rfl
  · obtain ⟨R, rs, rules, v, t, x, b, rfl, hR, hrl, hlen, ht, hsz, vd, q⟩ := h
    have hu := hu_of hr
    have hu0 := Nat.lt_of_succ_lt hu
    refine ⟨_, pss_cons (ps_setC (iy := 3) ["_law_head", "_law_parts"] [] scIsTree.nd rfl rfl rfl (pi_list (pv 0)) (caps_of rfl rfl) (by decide +kernel) rfl (by decide +kernel)
        (fun _ _ _ _ _ => pg_tupK (n := 2) K rfl (pgs_cons (pg_name (i := 0) (show (["_law_head", "_law_parts"] : List Str).Nodup by decide +kernel) rfl (Or.inl rfl)) (pgs_cons (pg_name (i := 1) (show (["_law_head", "_law_parts"] : List Str).Nodup by decide +kernel) rfl (Or.inl rfl)) pgs_nil))) (fun _ _ _ _ _ => pif_nil)
        (fun _ _ _ _ _ => pv 0))
      (pss_cons (ps_set (i := 4) scIsTree.nd rfl (Or.inl rfl) (pe_lst (pa_cons (pe_tup (pa_cons (pv 1) (pa_cons (pv 2) pa_nil))) pa_nil)))
      (pss_cons (ps_while PassesOwn.never (pt_cmpR (op_ne_nil hu0) (pv 4) (pe_lst pa_nil) (nomark _))
        (pss_cons (ps_asg (pe_bm0 PySem.F.plainAttrs_list PySem.F.slot_list_pop PySem.F.type_list_pop mt_pop (pv 4)) (pg_tupK (n := 2) K rfl (pgs_cons (pg_name (i := 5) scIsTree.nd rfl (Or.inl rfl)) (pgs_cons (pg_name (i := 6) scIsTree.nd rfl (Or.inl rfl)) pgs_nil))))
        (pss_one (ps_if (pt_val (pe_callB call_isinst rfl T.isi PyProof.Rows.boot_isinstance (pa_cons (pv 5) (pa_cons (pe_bltn (v := .ty "str") rfl T.str boot_txt rfl) pa_nil))))
          (pss_one (ps_if (PW.pt (pw_or (pt_cmpR op_in_seq (pv 6) (pv 3) rfl) (pw_or1 (pt_cmpR op_ne (pv 5) (pv 6) (nomark _))))) (pss_one (ps_ret pe_bl)) pss_nil))
          (pss_one (ps_if (PW.pt (pw_or (pt_cmpR op_notIn_seq (pv 6) (pv 3) rfl) (pw_or1 (pt_not (pt_chain op_le op_lt pe_int (pe_ix ix_tup (pv 5) pe_int (fun _ _ => rfl)) (pe_callB call_len_seq rfl T.len PySem.boot_len (pa_cons (pv 0) pa_nil)))))))
            (pss_one (ps_ret pe_bl))
            (pss_one (ps_if (PW.pt (pw_or (pt_cmpR op_ne (pe_ix ix_tup (pe_ix ix_list (pv 0) (pe_ix ix_tup (pv 5) pe_int (fun _ _ => rfl)) (fun _ _ => rfl)) pe_int (fun _ _ => rfl)) (pv 6) (nomark _)) (pw_or1 (pt_cmpR op_ne (pe_callB call_len_seq rfl T.len PySem.boot_len (pa_cons (pe_ix ix_tup (pe_ix ix_list (pv 0) (pe_ix ix_tup (pv 5) pe_int (fun _ _ => rfl)) (fun _ _ => rfl)) pe_int (fun _ _ => rfl)) pa_nil)) (pe_callB call_len_seq rfl T.len PySem.boot_len (pa_cons (pe_ix ix_tup (pv 5) pe_int (fun _ _ => rfl)) pa_nil)) (nomark _)))))
              (pss_one (ps_ret pe_bl))
              (pss_one (ps_for PassesOwn.never rfl (pi_range1 rfl T.rng (pa_cons (pe_callB call_len_seq rfl T.len PySem.boot_len (pa_cons (pe_ix ix_tup (pv 5) pe_int (fun _ _ => rfl)) pa_nil)) pa_nil)) (pg_name (i := 7) scIsTree.nd rfl (Or.inl rfl))
                (pss_one (ps_expr (pe_bm PySem.F.plainAttrs_list PySem.F.slot_list_append PySem.F.type_list_append mt_append (pv 4) (pa_cons (pe_tup (pa_cons (pe_ix ix_tup (pe_ix ix_tup (pv 5) pe_int (fun _ _ => rfl)) (pv 7) (fun _ _ => rfl)) (pa_cons (pe_ix ix_tup (pe_ix ix_tup (pe_ix ix_list (pv 0) (pe_ix ix_tup (pv 5) pe_int (fun _ _ => rfl)) (fun _ _ => rfl)) pe_int (fun _ _ => rfl)) (pv 7) (fun _ _ => rfl)) pa_nil))) pa_nil))))))))))))))
      (pss_one (ps_ret pe_bl)))), ?_⟩
    have ll := Paired.length hrl
    refine ⟨_, rfl, R, rfl, ⟨_, hR⟩, fun D hD => comp_heads hR hrl (by omega) hD fun H1 s1 eD1 => ?_⟩
    refine goN ?_
    refine ⟨_, rfl, _, rfl, (by show 2 ≤ sizeLine; decide), fun a0 ha0 => ⟨(by show 1 ≤ sizeLine; decide), fun W hW => ?_⟩⟩
    have k3 := (same_laid ha0 (.tup [v, .str x])).trans (same_laid hW (.lst [.ref a0]))
    have v0 : SqT K (upd (upd H1 a0 (.tup [v, .str x])) W (.lst [.ref a0])) a0 [v, .str x] := (same_laid hW _).tup (SqT.of upd_same)
    have eW3 : upd (upd H1 a0 (.tup [v, .str x])) W (.lst [.ref a0]) W = some (.lst [.ref a0]) := upd_same
    have fW1 : H1 W = none := (same_laid ha0 _).free hW
    have fW : H W = none := s1.free fW1
    have nDW : D ≠ W := fun z => by rw [← z, eD1] at fW1; cases fW1
    have s3 := s1.trans k3
    have eD3 := k3 _ _ eD1
    generalize upd (upd H1 a0 (.tup [v, .str x])) W (.lst [.ref a0]) = H3 at k3 v0 eW3 s3 eD3
    refine goN ?_
    refine ⟨fun m σ H5 => ∃ (us : List Addr) (ts : List (Tr × Str)) (y5 y6 y7 : Option V), σ = [some (.ref R), some v, some (.str x), some (.ref D), some (.ref W), y5, y6, y7] ∧ Same H H5 ∧ H5 D = some (.lst ((K11.hd rules).map V.str)) ∧ H5 W = some (.lst (us.map V.ref)) ∧ Paired (fun r (p : Tr × Str) => ∃ v, SqT K H5 r [v, .str p.2] ∧ TrV K H5 p.1 v) us ts ∧
        (b = true ↔ ∀ p ∈ ts, Is rules p.1 p.2) ∧ m = (ts.map fun p => sz p.1).sum ∧ m ≤ sz t,
      ⟨sz t, [a0], [(t, x)], none, none, none, rfl, s3, eD3, eW3, .cons ⟨v, v0, TrV.keep (fun _ _ z => s3.tup z) t ht⟩ .nil, by rw [vd]; simp, by simp, Nat.le_refl _⟩, ?_⟩
    rintro m σ H5 ⟨us, ts, y5, y6, y7, rfl, sm, eD, eW, pr, jd, em, ez⟩
    refine ⟨_, rfl, (by show 0 ≤ sizeLine; decide), fun L0 hL0 => ⟨W, L0, _, rfl, rfl, SqL.of (same_laid hL0 _ _ _ eW), SqL.of upd_same, _, rfl, ?_⟩⟩
    have k0 := same_laid hL0 (.lst [])
    have sm := sm.trans k0
    have eD := k0 _ _ eD
    have eW := k0 _ _ eW
    have pr : Paired (fun r (p : Tr × Str) => ∃ v, SqT K (upd H5 L0 (.lst [])) r [v, .str p.2] ∧ TrV K (upd H5 L0 (.lst [])) p.1 v) us ts := Paired.mapP pr fun r p ⟨v, z1, z2⟩ => ⟨v, k0.tup z1, TrV.keep (fun _ _ y => k0.tup y) p.1 z2⟩
    generalize upd H5 L0 (.lst []) = H5 at sm eD eW pr
    have lp := Paired.length pr
    refine ite2 (fun c => ?_) (fun c => ?_)
    · obtain ⟨us', r, ts', p0, rfl, rfl, pr', v0, h0, t0v⟩ := paired_last pr (fun z => by rw [z] at c; cases c)
      obtain ⟨t0, x0⟩ := p0
      rw [List.map_append, List.sum_append] at em
      simp only [List.map_cons, List.map_nil, List.sum_cons, List.sum_nil, Nat.add_zero] at em
      have sp := sz_pos t0
      refine ⟨_, fun _ _ h => h, ?_⟩
      rw [List.map_append] at eW
      refine ⟨_, rfl, .inl ⟨rfl, _, SqL.of eW⟩, W, _, .ref r, rfl, rfl, eW, pop_last, ?_⟩
      rw [show (us'.map V.ref ++ [r].map V.ref).dropLast = us'.map V.ref from List.dropLast_concat]
      have sm2 : Same H (upd H5 W (.lst (us'.map V.ref))) := fun b o hb => by rw [upd_ne (fun z => by rw [z, fW] at hb; cases hb)]; exact sm b o hb
      have tk : ∀ a xs, SqT K H5 a xs → SqT K (upd H5 W (.lst (us'.map V.ref))) a xs := fun a xs z => sqt_upd eW z
      have h1 := tk _ _ h0
      have t1 := TrV.keep tk t0 t0v
      have pr2 : Paired (fun r (p : Tr × Str) => ∃ v, SqT K (upd H5 W (.lst (us'.map V.ref))) r [v, .str p.2] ∧ TrV K (upd H5 W (.lst (us'.map V.ref))) p.1 v) us' ts' := Paired.mapP pr' fun r p ⟨v, z1, z2⟩ => ⟨v, tk _ _ z1, TrV.keep tk p.1 z2⟩
      have eW2 : upd H5 W (.lst (us'.map V.ref)) W = some (.lst (us'.map V.ref)) := upd_same
      have eD2 : upd H5 W (.lst (us'.map V.ref)) D = some (.lst ((K11.hd rules).map V.str)) := by rw [upd_ne nDW]; exact eD
      generalize upd H5 W (.lst (us'.map V.ref)) = H6 at sm2 h1 t1 pr2 eW2 eD2
      refine ⟨r, _, rfl, h1, rfl, _, _, rfl, _, _, rfl, rfl, ?_⟩
      have j0 : b = true ↔ Is rules t0 x0 ∧ ∀ p ∈ ts', Is rules p.1 p.2 := by
        rw [jd]
        constructor
        · exact fun j => ⟨j _ (List.mem_append.mpr (.inr (List.mem_singleton.mpr rfl))), fun p hp => j p (List.mem_append.mpr (.inl hp))⟩
        · rintro ⟨h1, h2⟩ p hp
          rcases List.mem_append.mp hp with h | h
          · exact h2 p h
          · rw [List.mem_singleton.mp h]; exact h1
      have qF : ¬ Is rules t0 x0 → Q (.bl false) H6 := fun h => by
        have hb : b = false := by
          cases hb : b with
          | false => rfl
          | true => exact absurd (j0.mp hb).1 h
        rw [hb] at q
        exact q H6 sm2
      cases t0 with
      | w z =>
        unfold TrV at t1
        subst t1
        refine ⟨_, rfl, .str z, "str", "str", true, rfl, .str z, kit_self, true, rfl, ?_⟩
        refine iteT ?_
        refine ⟨_, rfl, _, rfl, D, _, rfl, .inl (SqL.of eD2), rfl, flat_strs _, _, rfl, ?_⟩
        rw [inV_str]
        refine ite2 (fun c1 => ?_) (fun c1 => ?_)
        · have hx0 : x0 ∈ K11.hd rules := of_decide_eq_true c1
          refine iteT ?_
          exact qF (fun j => by unfold Is at j; exact j.2 (hd_iff.mpr (j.1 ▸ hx0)))
        · have nx0 : x0 ∉ K11.hd rules := fun z => c1 (decide_eq_true z)
          refine ⟨_, rfl, _, rfl, rfl, _, rfl, ?_⟩
          refine ite2 (fun c3 => ?_) (fun c3 => ?_)
          · exact qF (fun j => by unfold Is at j; rw [j.1] at c3; simp at c3)
          · have ezx : z = x0 := by
              by_cases c4 : z = x0
              · exact c4
              · exact absurd (by simp [c4]) c3
            have e7 : sz (.w z) = 1 := by unfold sz; rfl
            refine ⟨(ts'.map fun p => sz p.1).sum, by omega, us', ts', _, _, _, rfl, sm2, eD2, eW2, pr2, ?_, rfl, by omega⟩
            rw [j0]
            exact ⟨fun h => h.2, fun h => ⟨by unfold Is; exact ⟨ezx.symm, fun y => nx0 (ezx ▸ hd_iff.mp y)⟩, h⟩⟩
      | n k cs =>
        unfold TrV at t1
        obtain ⟨a, p, vs, rfl, ha, hp, hvs⟩ := t1
        have pcs := TrsV.paired cs hvs
        have lcs := Paired.length pcs
        have hrl6 := hrl.same sm2
        refine ⟨_, rfl, .ref a, "tuple", "str", false, rfl, .tup ha, kit_st, false, rfl, ?_⟩
        refine iteF ?_
        refine ⟨_, rfl, _, rfl, D, _, rfl, .inl (SqL.of eD2), rfl, flat_strs _, _, rfl, ?_⟩
        rw [inV_str]
        show if (!decide (x0 ∈ K11.hd rules)) = true then _ else _
        refine ite2 (fun c1 => ?_) (fun c1 => ?_)
        · have nx0 : x0 ∉ K11.hd rules := by simpa using c1
          refine iteT ?_
          exact qF (fun j => by
            obtain ⟨parts, e, _⟩ := is_out j
            obtain ⟨jj, _, e2⟩ := ruAt_some e
            exact nx0 (hd_iff.mp (hd_mem.mpr ⟨_, List.mem_of_getElem? e2, rfl⟩)))
        · refine ⟨_, rfl, a, _, _, _, rfl, rfl, ha, rfl, _, _, rfl, rfl, _, rfl, ?_⟩
          have bad : ¬ (0 ≤ k ∧ k < (rules.length : Int)) → ¬ Is rules (.n k cs) x0 := fun h j => by
            obtain ⟨parts, e, _⟩ := is_out j
            obtain ⟨jj, rfl, e2⟩ := ruAt_some e
            have := (List.getElem?_eq_some_iff.mp e2).1
            exact h ⟨by omega, by omega⟩
          refine ite2 (fun c2 => ?_) (fun c2 => ?_)
          rotate_left
          · refine ⟨_, rfl, ?_⟩
            exact qF (bad fun y => c2 (decide_eq_true y.1))
          have k0' : 0 ≤ k := of_decide_eq_true c2
          refine ⟨_, rfl, R, _, rfl, .inl (sm2.seq hR), _, _, rfl, rfl, _, rfl, ?_⟩
          rw [List.length_map]
          by_cases c3 : k < (rs.length : Int)
          rotate_left
          · rw [decide_eq_false c3]
            exact qF (bad fun y => c3 (by rw [ll]; exact y.2))
          rw [decide_eq_true c3]
          refine iteF ?_
          obtain ⟨jj, rfl⟩ : ∃ jj : Nat, k = (jj : Int) := ⟨k.toNat, by omega⟩
          obtain ⟨ru, hj⟩ : ∃ ru, rules[jj]? = some ru := ⟨rules[jj]'(by omega), List.getElem?_eq_getElem (by omega)⟩
          obtain ⟨rr, er, p2, v1, v2⟩ := Paired.at_ hrl6 jj _ hj
          have atk : atI (rs.map V.ref) (jj : Int) = some (.ref rr) := atI_nat (by rw [List.getElem?_map, er]; rfl)
          have hR6 := sm2.seq hR
          have hk : ruAt rules (jj : Int) = some ru := by rw [ruAt_nat]; exact hj
          refine ⟨_, rfl, _, rfl, a, _, _, _, rfl, rfl, ha, rfl, R, _, _, _, rfl, rfl, hR6, atk, rr, _, _, _, rfl, rfl, v1, rfl, _, rfl, rfl, _, rfl, ?_⟩
          refine ite2 (fun c4 => ?_) (fun c4 => ?_)
          · refine iteT ?_
            exact qF (fun j => by
              obtain ⟨parts, e, _⟩ := is_out j
              rw [hk] at e
              cases e
              simp at c4)
          have ex0 : ru.1 = x0 := by
            by_cases c5 : ru.1 = x0
            · exact c5
            · exact absurd (by simp [c5]) c4
          refine ⟨_, rfl, _, rfl, a, _, _, _, rfl, rfl, ha, rfl, R, _, _, _, rfl, rfl, hR6, atk, rr, _, _, _, rfl, rfl, v1, rfl, p2, _, rfl, .inr v2, _, rfl, a, _, _, _, rfl, rfl, ha, rfl, p, _, rfl, .inr hp, rfl, _, rfl, ?_⟩
          rw [List.length_map]
          refine ite2 (fun c5 => ?_) (fun c5 => ?_)
          · exact qF (fun j => by
              obtain ⟨parts, e, le⟩ := is_out j
              rw [hk] at e
              have e2 : ru.2 = parts := by rw [Option.some.inj e]
              rw [← e2] at le
              have : vs.length = ru.2.length := by omega
              rw [this] at c5
              simp at c5)
          have lvp : vs.length = ru.2.length := by
            by_cases c6 : vs.length = ru.2.length
            · exact c6
            · exact absurd (by simp; omega) c5
          obtain ⟨x1, parts⟩ := ru
          cases (show x1 = x0 from ex0)
          have lvp : vs.length = parts.length := lvp
          have e7 : sz (.n (jj : Int) cs) = 1 + (cs.toL.map sz).sum := by unfold sz; rw [szs_toL]
          have l1 := lsz cs.toL
          have l2 := lsz (ts'.map (·.1))
          have l3 := Paired.length pr2
          rw [List.length_map, List.map_map] at l2
          have l2' : ts'.length ≤ (ts'.map fun p => sz p.1).sum := l2
          refine ⟨_, rfl, a, _, _, _, rfl, rfl, ha, rfl, p, _, rfl, .inr hp, (vs.length : Int), rfl, by omega, by omega, for_range (n := vs.length) (fun i σ HA => ∃ (us2 : List Addr) (y7' : Option V), σ = [some (.ref R), some v, some (.str x), some (.ref D), some (.ref W), some (.ref a), some (.str x0), y7'] ∧ Same H HA ∧ HA D = some (.lst ((K11.hd rules).map V.str)) ∧ HA W = some (.lst ((us' ++ us2).map V.ref)) ∧ us2.length = i ∧ (∀ a xs, SqT K H6 a xs → SqT K HA a xs) ∧ Paired (fun r (p : Tr × Str) => ∃ v, SqT K HA r [v, .str p.2] ∧ TrV K HA p.1 v) us2 ((cs.toL.zip parts).take i)) ⟨[], _, rfl, sm2, eD2, by rw [List.append_nil]; exact eW2, rfl, fun _ _ z => z, .nil⟩ ?_ ?_⟩
          · rintro i σ HA hi ⟨us2, y7', rfl, sA, eDA, eWA, l2A, kA, pA⟩
            refine goN ?_
            have hRA := sA.seq hR
            obtain ⟨tc, etc⟩ : ∃ tc, cs.toL[i]? = some tc := ⟨cs.toL[i]'(by omega), List.getElem?_eq_getElem (by omega)⟩
            obtain ⟨u, eu, tu⟩ := Paired.at_ pcs i _ etc
            obtain ⟨y, ey⟩ : ∃ y, parts[i]? = some y := ⟨parts[i]'(by omega), List.getElem?_eq_getElem (by omega)⟩
            have at1 : atI vs (0 + (i : Int)) = some u := by rw [Int.zero_add]; exact atI_nat eu
            have at2 : atI (parts.map V.str) (0 + (i : Int)) = some (.str y) := by rw [Int.zero_add]; exact atI_nat (by rw [List.getElem?_map, ey]; rfl)
            refine ⟨_, rfl, .inl ⟨rfl, _, SqL.of eWA⟩, _, rfl, a, _, _, _, rfl, rfl, kA _ _ ha, rfl, _, rfl, p, _, _, _, rfl, rfl, kA _ _ hp, at1, _, rfl, _, rfl, a, _, _, _, rfl, rfl, kA _ _ ha, rfl, R, _, _, _, rfl, rfl, hRA, atk, rr, _, _, _, rfl, rfl, kA _ _ v1, rfl, _, rfl, p2, _, _, _, rfl, rfl, kA _ _ v2, at2, (by show 2 ≤ sizeLine; decide), fun nd hnd => ?_⟩
            have kB := same_laid hnd (.tup [u, .str y])
            have vB : SqT K (upd HA nd (.tup [u, .str y])) nd [u, .str y] := SqT.of upd_same
            generalize upd HA nd (.tup [u, .str y]) = HB at kB vB
            have eWB := kB _ _ eWA
            refine ⟨W, _, _, rfl, rfl, eWB, fits' (by rw [List.length_map, List.length_append]; omega), ?_⟩
            have kC : ∀ a xs, SqT K HA a xs → SqT K (upd HB W (.lst ((us' ++ us2).map V.ref ++ [.ref nd]))) a xs := fun a xs z => sqt_upd eWB (kB.tup z)
            have ez2 : (cs.toL.zip parts)[i]? = some (tc, y) := List.getElem?_zip_eq_some.mpr ⟨etc, ey⟩
            refine ⟨us2 ++ [nd], _, rfl, fun b o hb => by rw [upd_ne (fun z => by rw [z, fW] at hb; cases hb)]; exact kB _ _ (sA b o hb), by rw [upd_ne nDW]; exact kB _ _ eDA, by rw [upd_same]; simp, by rw [List.length_append, l2A]; rfl, fun a xs z => kC a xs (kA a xs z), ?_⟩
            rw [List.take_add_one, ez2]
            exact Paired.snoc (Paired.mapP pA fun r p ⟨v, z1, z2⟩ => ⟨v, kC _ _ z1, TrV.keep kC p.1 z2⟩) ⟨u, sqt_upd eWB vB, TrV.keep (fun a xs z => kC a xs (kA a xs z)) tc tu⟩
          · rintro σ HA ⟨us2, y7', rfl, sA, eDA, eWA, l2A, kA, pA⟩
            rw [List.take_of_length_le (by rw [List.length_zip]; omega)] at pA
            have sumz : ((cs.toL.zip parts).map fun p => sz p.1).sum = (cs.toL.map sz).sum := by
              have : ((cs.toL.zip parts).map fun p => sz p.1) = ((cs.toL.zip parts).map Prod.fst).map sz := by rw [List.map_map]; rfl
              rw [this, List.map_fst_zip (by omega)]
            refine ⟨(ts'.map fun p => sz p.1).sum + (cs.toL.map sz).sum, by omega, us' ++ us2, ts' ++ cs.toL.zip parts, _, _, _, rfl, sA, eDA, eWA, Paired.app' (Paired.mapP pr2 fun r p ⟨v, z1, z2⟩ => ⟨v, kA _ _ z1, TrV.keep kA p.1 z2⟩) pA, ?_, by rw [List.map_append, List.sum_append, sumz], by omega⟩
            rw [j0, is_kids hk (by omega)]
            constructor
            · rintro ⟨h1, h2⟩ pp hpp
              rcases List.mem_append.mp hpp with h | h
              · exact h2 pp h
              · exact h1 pp h
            · exact fun h => ⟨fun pp hp => h pp (List.mem_append.mpr (.inr hp)), fun pp hp => h pp (List.mem_append.mpr (.inl hp))⟩
    · have e0 : us = [] := by
        cases us with
        | nil => rfl
        | cons _ _ => exact absurd rfl c
      subst e0
      cases pr
      have hb : b = true := jd.mpr fun p hp => by cases hp
      rw [hb] at q
      exact q H5 sm
end
end J9
namespace J9
open PySem L2 M11 K11
def Pp (es es' : List Ev) (word : Str) (one other : Ev) : Prop := ∃ k d e, es[k]? = some d ∧ es'[k]? = some e ∧ d ≠ e ∧ (∀ j, j < k → es[j]? = es'[j]?) ∧ nextW (es.drop k) = word ∧ nextW (es'.drop k) = word ∧ d = one ∧ e = other
theorem pp_at {es es' : List Ev} {word : Str} {one other : Ev} {k : Nat} {d e : Ev} (h1 : es[k]? = some d) (h2 : es'[k]? = some e) (ne : d ≠ e) (pre : ∀ j, j < k → es[j]? = es'[j]?) :
    Pp es es' word one other ↔ (nextW (es.drop k) = word ∧ nextW (es'.drop k) = word) ∧ d = one ∧ e = other := by
  constructor
  · rintro ⟨k2, d2, e2, a1, a2, an, ap, aw, aw2, ao, ao2⟩
    have ek : k2 = k := by
      rcases Nat.lt_trichotomy k2 k with h | h | h
      · have := pre k2 h
        rw [a1, a2] at this
        exact absurd (Option.some.inj this) an
      · exact h
      · have := ap k h
        rw [h1, h2] at this
        exact absurd (Option.some.inj this) ne
    subst ek
    rw [h1] at a1
    rw [h2] at a2
    cases a1
    cases a2
    exact ⟨⟨aw, aw2⟩, ao, ao2⟩
  · rintro ⟨⟨aw, aw2⟩, ao, ao2⟩
    exact ⟨k, d, e, h1, h2, ne, pre, aw, aw2, ao, ao2⟩
theorem pp_no {es es' : List Ev} {word : Str} {one other : Ev} {m : Nat} (hm : m = min es.length es'.length) (pre : ∀ j, j < m → es[j]? = es'[j]?) : ¬ Pp es es' word one other := by
  rintro ⟨k, d, e, a1, a2, an, _⟩
  have l1 := (List.getElem?_eq_some_iff.mp a1).1
  have l2 := (List.getElem?_eq_some_iff.mp a2).1
  have := pre k (by omega)
  rw [a1, a2] at this
  exact an (Option.some.inj this)
def PaperP (rules : List Rule) (x : Str) (t1 t2 : Tr) (word : Str) (one other : Ev) : Prop := Is rules t1 x ∧ Is rules t2 x ∧ Pp (evs t1) (evs t2) word one other
theorem bool_no {b : Bool} {p : Prop} (h : b = true ↔ p) (n : ¬ p) : b = false := by
  cases b with
  | false => rfl
  | true => exact absurd (h.mp rfl) n
theorem bool_of {b c : Bool} {p : Prop} (h : b = true ↔ p) (h2 : c = true ↔ p) : b = c := Bool.eq_iff_iff.mpr (h.trans h2.symm)
theorem min_if (a b : Nat) : (if (b : Int) < (a : Int) then (b : Int) else (a : Int)) = ((min a b : Nat) : Int) := by
  split <;> omega
section
variable {P : Program} {w : World} {K : PySem.W.Frag} {mg : Str → Option Value} {base : Heap} {f : Addr} {fd : FuncData}
theorem boot_min : bootBuiltins "min" = some (.builtin "min") := by decide +kernel
theorem ev_at {H : Hp} {as : List Addr} {es : List Ev} (h : EvsV K H as es) {i : Nat} (hi : i < es.length) : ∃ a d, as[i]? = some a ∧ es[i]? = some d ∧ EvV K H a d ∧ atI (as.map V.ref) (0 + (i : Int)) = some (.ref a) := by
  have e : es[i]? = some (es[i]'hi) := List.getElem?_eq_getElem hi
  obtain ⟨a, ea, va⟩ := Paired.at_ h i _ e
  exact ⟨a, _, ea, e, va, by rw [Int.zero_add]; exact atI_nat (by rw [List.getElem?_map, ea]; rfl)⟩
def spParting (K : PySem.W.Frag) : Sp := fun vs H Q _ => ∃ (v1 v2 : V) (t1 t2 : Tr), vs = [v1, v2] ∧ TrV K H t1 v1 ∧ TrV K H t2 v2 ∧ sz t1 ≤ 900000 ∧ sz t2 ≤ 900000 ∧
  ∀ (p a b : Addr) (word : Str) (d e : Ev) (H' : Hp), Same H H' → SqT K H' p [.str word, .ref a, .ref b] → EvV K H' a d → EvV K H' b e → Q (.ref p) H'
abbrev NP : List Str := ["_law_first", "_law_second", "_law_mine", "_law_others", "_law_at"]
theorem scParting : FnScope NP ["_law_first", "_law_second"] (defScope sParting) := ⟨rfl, rfl, rfl, by decide +kernel, rfl, by decide +kernel, by decide +kernel⟩
theorem ok_parting (F : Fun K "_law_parting" "_law_parting" sParting f fd) (T : Txt mg) (GD : CalleeD P w K mg base 1 "_law_deeds" ["_law_tree_here"] (spLDeeds K)) (GN : CalleeD P w K mg base 1 "_law_next" ["_law_deeds_here", "_law_at"] (spNextW K)) : FnOk P w K mg base CX0 2 f fd ["_law_first", "_law_second"] (spParting K) := by
  refine F.ok scParting (fun vs H Q E h => ?_) (fun cdv A outer s H vs Q E hr h => ?_)
  · obtain ⟨v1, v2, t1, t2, rfl, _⟩ := h; rfl
  · obtain ⟨v1, v2, t1, t2, rfl, h1, h2, z1, z2, q⟩ := h
    have hu0 := Nat.lt_of_succ_lt (hu_of hr)
    refine ⟨_, pss_cons (ps_set (i := 2) scParting.nd rfl (Or.inl rfl) (pe_fn GD hr rfl (pa_cons (pv 0) pa_nil)))
      (pss_cons (ps_set (i := 3) scParting.nd rfl (Or.inl rfl) (pe_fn GD hr rfl (pa_cons (pv 1) pa_nil)))
      (pss_cons (ps_for PassesOwn.never rfl (pi_range1 rfl T.rng (pa_cons (pe_callB (call_min2 rfl) rfl T.min boot_min (pa_cons (pe_callB call_len_seq rfl T.len PySem.boot_len (pa_cons (pv 2) pa_nil)) (pa_cons (pe_callB call_len_seq rfl T.len PySem.boot_len (pa_cons (pv 3) pa_nil)) pa_nil))) pa_nil)) (pg_name (i := 4) scParting.nd rfl (Or.inl rfl))
        (pss_one (ps_if (pt_cmpR (op_neTT hu0) (pe_ix ix_list (pv 2) (pv 4) (fun _ _ => rfl)) (pe_ix ix_list (pv 3) (pv 4) (fun _ _ => rfl)) (nomark _))
          (pss_one (ps_ret (pe_tup (pa_cons (pe_fn GN hr rfl (pa_cons (pv 2) (pa_cons (pv 4) pa_nil))) (pa_cons (pe_ix ix_list (pv 2) (pv 4) (fun _ _ => rfl)) (pa_cons (pe_ix ix_list (pv 3) (pv 4) (fun _ _ => rfl)) pa_nil)))))) pss_nil)))
      (pss_one (ps_ret (pe_tup (pa_cons pe_str (pa_cons (pe_tup (pa_cons pe_str (pa_cons pe_str pa_nil))) (pa_cons (pe_tup (pa_cons pe_str (pa_cons pe_int pa_nil))) pa_nil)))))))), ?_⟩
    refine ⟨_, rfl, v1, t1, rfl, h1, z1, fun D1 as1 H1 f1 s1 e1 p1 => ?_⟩
    refine goN ?_
    refine ⟨_, rfl, v2, t2, rfl, TrV.keep (fun _ _ z => s1.tup z) t2 h2, z2, fun D2 as2 H2 f2 s2 e2 p2 => ?_⟩
    refine goN ?_
    have s02 := s1.trans s2
    have e12 := s2 _ _ e1
    have p12 := p1.same s2
    have l1 := Paired.length p12
    have l2 := Paired.length p2
    have n1 := evs_len t1
    have n2 := evs_len t2
    refine ⟨_, rfl, D1, _, rfl, .inl (SqL.of e12), _, rfl, D2, _, rfl, .inl (SqL.of e2), _, _, rfl, ?_⟩
    rw [List.length_map, List.length_map, min_if]
    refine ⟨((min as1.length as2.length : Nat) : Int), rfl, by omega, by omega, for_range (n := min as1.length as2.length) (fun i σ HA => HA = H2 ∧ ∃ y4, σ = [some v1, some v2, some (.ref D1), some (.ref D2), y4]) ⟨rfl, _, rfl⟩ ?_ ?_⟩
    · rintro i σ HA hi ⟨rfl, y4, rfl⟩
      refine goN ?_
      obtain ⟨a, d, ea, ed, va, ata⟩ := ev_at p12 (i := i) (by omega)
      obtain ⟨b, e, eb, ee, vb, atb⟩ := ev_at p2 (i := i) (by omega)
      refine ⟨_, rfl, _, rfl, D1, _, _, _, rfl, rfl, SqL.of e12, ata, _, rfl, _, rfl, D2, _, _, _, rfl, rfl, SqL.of e2, atb, a, b, _, _, rfl, rfl, va, vb, ev_flat d, ev_flat e, _, rfl, ?_⟩
      refine ite2 (fun c => ?_) (fun c => ?_)
      · refine ⟨_, rfl, _, rfl, D1, as1, _, i, (by show [V.ref D1, V.int (0 + (i : Int))] = _; rw [Int.zero_add]), SqL.of e12, p12, by omega, fun H3 s3 => ?_⟩
        refine ⟨_, rfl, _, rfl, D1, _, _, _, rfl, rfl, SqL.of (s3 _ _ e12), ata, _, rfl, _, rfl, D2, _, _, _, rfl, rfl, SqL.of (s3 _ _ e2), atb, (by show 3 ≤ sizeLine; decide), fun nd hnd => ?_⟩
        have k4 := same_laid hnd (.tup [.str (nextW ((evs t1).drop i)), .ref a, .ref b])
        exact q nd a b _ d e _ ((s02.trans s3).trans k4) (SqT.of upd_same) (k4.tup (s3.tup va)) (k4.tup (s3.tup vb))
      · exact ⟨rfl, _, rfl⟩
    · rintro σ HA ⟨rfl, y4, rfl⟩
      refine ⟨(by show 2 ≤ sizeLine; decide), fun a ha => ⟨(by show 2 ≤ sizeLine; decide), fun b hb => ⟨(by show 3 ≤ sizeLine; decide), fun nd hnd => ?_⟩⟩⟩
      have k1 := same_laid ha (.tup [.str "step", .str "a"])
      have va : SqT K (upd HA a (.tup [.str "step", .str "a"])) a [.str "step", .str "a"] := SqT.of upd_same
      generalize upd HA a (.tup [.str "step", .str "a"]) = HB at k1 va hb hnd
      have k2 := same_laid hb (.tup [.str "make", .int 0])
      have vb : SqT K (upd HB b (.tup [.str "make", .int 0])) b [.str "make", .int 0] := SqT.of upd_same
      generalize upd HB b (.tup [.str "make", .int 0]) = HC at k2 vb hnd
      have k3 := same_laid hnd (.tup [.str "a", .ref a, .ref b])
      exact q nd a b _ (.step "a") (.make 0) _ ((s02.trans k1).trans (k2.trans k3)) (SqT.of upd_same) (k3.tup (k2.tup va)) (k3.tup vb)
def spIsPaper (K : PySem.W.Frag) : Sp := fun vs H Q _ => ∃ (R p a b : Addr) (rs : List Addr) (rules : List Rule) (ru0 : Rule) (v1 v2 : V) (t1 t2 : Tr) (word : Str) (one other : Ev) (r : Bool), vs = [.ref R, .ref p, .str word, .ref a, .ref b] ∧ SqL K H R (rs.map V.ref) ∧ Rules K H rs rules ∧ rules.length ≤ 1000 ∧ rules[0]? = some ru0 ∧
  SqT K H p [v1, v2] ∧ TrV K H t1 v1 ∧ TrV K H t2 v2 ∧ sz t1 ≤ 900000 ∧ sz t2 ≤ 900000 ∧ EvV K H a one ∧ EvV K H b other ∧ (r = true ↔ PaperP rules ru0.1 t1 t2 word one other) ∧ ∀ H', Same H H' → Q (.bl r) H'
abbrev NA : List Str := ["_law_rules_here", "_law_paper", "_law_word", "_law_one", "_law_other", "_law_first", "_law_second", "_law_mine", "_law_others", "_law_at"]
theorem scIsPaper : FnScope NA ["_law_rules_here", "_law_paper", "_law_word", "_law_one", "_law_other"] (defScope sIsPaper) := ⟨rfl, rfl, rfl, by decide +kernel, rfl, by decide +kernel, by decide +kernel⟩
theorem ok_isPaper (F : Fun K "_law_is_paper" "_law_is_paper" sIsPaper f fd) (T : Txt mg) (GI : CalleeD P w K mg base 1 "_law_is_tree" ["_law_rules_here", "_law_tree_here", "_law_name"] (spIsTree K)) (GD : CalleeD P w K mg base 1 "_law_deeds" ["_law_tree_here"] (spLDeeds K)) (GN : CalleeD P w K mg base 1 "_law_next" ["_law_deeds_here", "_law_at"] (spNextW K)) : FnOk P w K mg base CX0 2 f fd ["_law_rules_here", "_law_paper", "_law_word", "_law_one", "_law_other"] (spIsPaper K) := by
  refine F.ok scIsPaper (fun vs H Q E h => ?_) (fun cdv A outer s H vs Q E hr h => ?_)
  · obtain ⟨R, p, a, b, rs, rules, ru0, v1, v2, t1, t2, word, one, other, r, rfl, _⟩ := h; rfl
  · obtain ⟨R, p, a, b, rs, rules, ru0, v1, v2, t1, t2, word, one, other, r, rfl, hR, hrl, hlen, hr0, hp, h1, h2, z1, z2, ha, hb, hrr, q⟩ := h
    have hu0 := Nat.lt_of_succ_lt (hu_of hr)
    refine ⟨_, pss_cons (ps_asg (pv 1) (pg_tupK (n := 2) K rfl (pgs_cons (pg_name (i := 5) scIsPaper.nd rfl (Or.inl rfl)) (pgs_cons (pg_name (i := 6) scIsPaper.nd rfl (Or.inl rfl)) pgs_nil))))
      (pss_cons (ps_if (PW.pt (pw_or (pt_not (pt_val (pe_fn GI hr rfl (pa_cons (pv 0) (pa_cons (pv 5) (pa_cons (pe_ix ix_tup (pe_ix ix_list (pv 0) pe_int (fun _ _ => rfl)) pe_int (fun _ _ => rfl)) pa_nil)))))) (pw_or1 (pt_not (pt_val (pe_fn GI hr rfl (pa_cons (pv 0) (pa_cons (pv 6) (pa_cons (pe_ix ix_tup (pe_ix ix_list (pv 0) pe_int (fun _ _ => rfl)) pe_int (fun _ _ => rfl)) pa_nil))))))))) (pss_one (ps_ret pe_bl)) pss_nil)
      (pss_cons (ps_set (i := 7) scIsPaper.nd rfl (Or.inl rfl) (pe_fn GD hr rfl (pa_cons (pv 5) pa_nil)))
      (pss_cons (ps_set (i := 8) scIsPaper.nd rfl (Or.inl rfl) (pe_fn GD hr rfl (pa_cons (pv 6) pa_nil)))
      (pss_cons (ps_for PassesOwn.never rfl (pi_range1 rfl T.rng (pa_cons (pe_callB (call_min2 rfl) rfl T.min boot_min (pa_cons (pe_callB call_len_seq rfl T.len PySem.boot_len (pa_cons (pv 7) pa_nil)) (pa_cons (pe_callB call_len_seq rfl T.len PySem.boot_len (pa_cons (pv 8) pa_nil)) pa_nil))) pa_nil)) (pg_name (i := 9) scIsPaper.nd rfl (Or.inl rfl))
        (pss_one (ps_if (pt_cmpR (op_neTT hu0) (pe_ix ix_list (pv 7) (pv 9) (fun _ _ => rfl)) (pe_ix ix_list (pv 8) (pv 9) (fun _ _ => rfl)) (nomark _))
          (pss_cons (ps_if (PW.pt (pw_or (pt_cmpR op_ne (pe_fn GN hr rfl (pa_cons (pv 7) (pa_cons (pv 9) pa_nil))) (pv 2) (nomark _)) (pw_or1 (pt_cmpR op_ne (pe_fn GN hr rfl (pa_cons (pv 8) (pa_cons (pv 9) pa_nil))) (pv 2) (nomark _))))) (pss_one (ps_ret pe_bl)) pss_nil)
          (pss_one (ps_ret (pe_and (pe_cmpR (op_eqTT hu0) (pe_ix ix_list (pv 7) (pv 9) (fun _ _ => rfl)) (pv 3) (nomark _)) (pe_one (pe_cmpR (op_eqTT hu0) (pe_ix ix_list (pv 8) (pv 9) (fun _ _ => rfl)) (pv 4) (nomark _)))))))
          pss_nil)))
      (pss_one (ps_ret pe_bl)))))), ?_⟩
    obtain ⟨r0, er0, p0, w1, w2⟩ := Paired.at_ hrl 0 ru0 hr0
    have at0 : atI (rs.map V.ref) 0 = some (.ref r0) := atI_nat (j := 0) (by rw [List.getElem?_map, er0]; rfl)
    refine ⟨_, rfl, p, _, rfl, hp, rfl, _, _, rfl, _, _, rfl, rfl, ?_⟩
    have d1 := Classical.propDecidable (Is rules t1 ru0.1)
    have d2 := Classical.propDecidable (Is rules t2 ru0.1)
    refine ⟨_, rfl, _, rfl, _, rfl, R, _, _, _, rfl, rfl, hR, at0, r0, _, _, _, rfl, rfl, w1, rfl, R, rs, rules, v1, t1, ru0.1, @decide _ d1, rfl, hR, hrl, hlen, h1, z1, decide_eq_true_iff, fun H1 s1 => ⟨_, rfl, ?_⟩⟩
    by_cases c1 : Is rules t1 ru0.1
    rotate_left
    · rw [decide_eq_false c1]
      refine iteT ?_
      refine iteT ?_
      rw [bool_no hrr (fun z => c1 z.1)] at q
      exact q H1 s1
    rw [decide_eq_true c1]
    refine iteF ?_
    refine ⟨_, rfl, _, rfl, _, rfl, R, _, _, _, rfl, rfl, s1.seq hR, at0, r0, _, _, _, rfl, rfl, s1.tup w1, rfl, R, rs, rules, v2, t2, ru0.1, @decide _ d2, rfl, s1.seq hR, hrl.same s1, hlen, TrV.keep (fun _ _ z => s1.tup z) t2 h2, z2, decide_eq_true_iff, fun H2 s2 => ⟨_, rfl, ?_⟩⟩
    have s12 := s1.trans s2
    by_cases c2 : Is rules t2 ru0.1
    rotate_left
    · rw [decide_eq_false c2]
      refine iteT ?_
      rw [bool_no hrr (fun z => c2 z.2.1)] at q
      exact q H2 s12
    rw [decide_eq_true c2]
    refine iteF ?_
    have hrp : r = true ↔ Pp (evs t1) (evs t2) word one other := hrr.trans ⟨fun z => z.2.2, fun z => ⟨c1, c2, z⟩⟩
    refine ⟨_, rfl, v1, t1, rfl, TrV.keep (fun _ _ z => s12.tup z) t1 h1, z1, fun D1 as1 H3 f1 s3 e1 p1 => ?_⟩
    refine goN ?_
    have s13 := s12.trans s3
    refine ⟨_, rfl, v2, t2, rfl, TrV.keep (fun _ _ z => s13.tup z) t2 h2, z2, fun D2 as2 H4 f2 s4 e2 p2 => ?_⟩
    refine goN ?_
    have s04 := s13.trans s4
    have e12 := s4 _ _ e1
    have p12 := p1.same s4
    have l1 := Paired.length p12
    have l2 := Paired.length p2
    have n1 := evs_len t1
    have n2 := evs_len t2
    refine ⟨_, rfl, D1, _, rfl, .inl (SqL.of e12), _, rfl, D2, _, rfl, .inl (SqL.of e2), _, _, rfl, ?_⟩
    rw [List.length_map, List.length_map, min_if]
    refine ⟨((min as1.length as2.length : Nat) : Int), rfl, by omega, by omega, for_range (n := min as1.length as2.length) (fun i σ HA => HA = H4 ∧ (∀ j, j < i → (evs t1)[j]? = (evs t2)[j]?) ∧ ∃ y9, σ = [some (.ref R), some (.ref p), some (.str word), some (.ref a), some (.ref b), some v1, some v2, some (.ref D1), some (.ref D2), y9]) ⟨rfl, fun j hj => absurd hj (by omega), _, rfl⟩ ?_ ?_⟩
    · rintro i σ HA hi ⟨rfl, pre, y9, rfl⟩
      refine goN ?_
      obtain ⟨a1, d, ea, ed, va, ata⟩ := ev_at p12 (i := i) (by omega)
      obtain ⟨b1, e, eb, ee, vb, atb⟩ := ev_at p2 (i := i) (by omega)
      refine ⟨_, rfl, _, rfl, D1, _, _, _, rfl, rfl, SqL.of e12, ata, _, rfl, _, rfl, D2, _, _, _, rfl, rfl, SqL.of e2, atb, a1, b1, _, _, rfl, rfl, va, vb, ev_flat d, ev_flat e, _, rfl, ?_⟩
      show if (!evEq d e) = true then _ else _
      refine ite2 (fun c => ?_) (fun c => ?_)
      · have nde : d ≠ e := ev_ne.mp (by simpa using c)
        have hpa := hrp.trans (pp_at (word := word) (one := one) (other := other) ed ee nde pre)
        refine ⟨_, rfl, _, rfl, D1, as1, _, i, (by show [V.ref D1, V.int (0 + (i : Int))] = _; rw [Int.zero_add]), SqL.of e12, p12, by omega, fun H5 s5 => ?_⟩
        refine ⟨_, rfl, rfl, _, rfl, ?_⟩
        have s05 := s04.trans s5
        by_cases c3 : nextW ((evs t1).drop i) = word
        rotate_left
        · rw [show (!decide (V.str (nextW ((evs t1).drop i)) = V.str word)) = true by simp [c3]]
          refine iteT ?_
          refine iteT ?_
          rw [bool_no hpa (fun z => c3 z.1.1)] at q
          exact q H5 s05
        rw [show (!decide (V.str (nextW ((evs t1).drop i)) = V.str word)) = false by simp [c3]]
        refine iteF ?_
        refine ⟨_, rfl, _, rfl, D2, as2, _, i, (by show [V.ref D2, V.int (0 + (i : Int))] = _; rw [Int.zero_add]), SqL.of (s5 _ _ e2), p2.same s5, by omega, fun H6 s6 => ?_⟩
        refine ⟨_, rfl, rfl, _, rfl, ?_⟩
        have s06 := s05.trans s6
        have s56 := s5.trans s6
        by_cases c4 : nextW ((evs t2).drop i) = word
        rotate_left
        · rw [show (!decide (V.str (nextW ((evs t2).drop i)) = V.str word)) = true by simp [c4]]
          refine iteT ?_
          rw [bool_no hpa (fun z => c4 z.1.2)] at q
          exact q H6 s06
        rw [show (!decide (V.str (nextW ((evs t2).drop i)) = V.str word)) = false by simp [c4]]
        refine iteF ?_
        refine ⟨_, rfl, _, rfl, D1, _, _, _, rfl, rfl, SqL.of (s56 _ _ e12), ata, _, rfl, a1, a, _, _, rfl, rfl, s56.tup va, s06.tup ha, ev_flat d, ev_flat one, evEq d one, rfl, ?_⟩
        refine ite2 (fun c5 => ?_) (fun c5 => ?_)
        · refine ⟨_, rfl, _, rfl, D2, _, _, _, rfl, rfl, SqL.of (s56 _ _ e2), atb, _, rfl, b1, b, _, _, rfl, rfl, s56.tup vb, s06.tup hb, ev_flat e, ev_flat other, ?_⟩
          show Q (.bl (evEq e other)) H6
          have : evEq e other = r := bool_of (p := (nextW ((evs t1).drop i) = word ∧ nextW ((evs t2).drop i) = word) ∧ d = one ∧ e = other) (ev_iff.trans ⟨fun z => ⟨⟨c3, c4⟩, ev_iff.mp c5, z⟩, fun z => z.2.2⟩) hpa
          rw [this]
          exact q H6 s06
        · rw [bool_no hpa (fun z => c5 (ev_iff.mpr z.2.1))] at q
          exact q H6 s06
      · have ede : d = e := by
          cases z : evEq d e with
          | true => exact ev_iff.mp z
          | false => rw [z] at c; exact absurd rfl c
        refine ⟨rfl, fun j hj => ?_, _, rfl⟩
        by_cases hji : j < i
        · exact pre j hji
        · have : j = i := by omega
          subst this
          rw [ed, ee, ede]
    · rintro σ HA ⟨rfl, pre, y9, rfl⟩
      have hno := pp_no (word := word) (one := one) (other := other) (m := min as1.length as2.length) (by rw [l1, l2]) pre
      rw [bool_no hrp hno] at q
      exact q HA s04
end
end J9
namespace J9
open PySem L2 M11 K11
theorem cutG_take (vs : List V) (k : Nat) : cutV vs none (some (k : Int)) = vs.take k := by
  unfold cutV
  rw [HT.sIx_nat, HT.sIx_none, List.drop_zero, Nat.sub_zero]
  by_cases h : k ≤ vs.length
  · rw [Nat.min_eq_left h]
  · rw [Nat.min_eq_right (by omega), List.take_length, List.take_of_length_le (by omega)]
theorem cutG_drop (vs : List V) (k : Nat) : cutV vs (some (k : Int)) none = vs.drop k := by
  unfold cutV
  rw [HT.sIx_nat, HT.sIx_none]
  by_cases h : k ≤ vs.length
  · rw [Nat.min_eq_left h, List.take_of_length_le (by rw [List.length_drop]; omega)]
  · rw [Nat.min_eq_right (by omega), Nat.sub_self, List.take_zero, List.drop_eq_nil_of_le (by omega)]
theorem Paired.take' {α β : Type} {F : α → β → Prop} : ∀ {xs : List α} {ys : List β} (k : Nat), Paired F xs ys → Paired F (xs.take k) (ys.take k)
  | _, _, 0, _ => by rw [List.take_zero, List.take_zero]; exact .nil
  | _, _, _ + 1, .nil => .nil
  | _, _, k + 1, .cons a b => .cons a (Paired.take' k b)
theorem Paired.drop' {α β : Type} {F : α → β → Prop} : ∀ {xs : List α} {ys : List β} (k : Nat), Paired F xs ys → Paired F (xs.drop k) (ys.drop k)
  | _, _, 0, h => h
  | _, _, _ + 1, .nil => .nil
  | _, _, k + 1, .cons a b => Paired.drop' k b
theorem sum_split (ts : List Tr) (k : Nat) : ((ts.take k).map sz).sum + ((ts.drop k).map sz).sum = (ts.map sz).sum := by
  rw [← List.sum_append, ← List.map_append, List.take_append_drop]
theorem drop_one {ts : List Tr} {k : Nat} {t : Tr} (h : ts[k]? = some t) : ts.drop k = t :: ts.drop (k + 1) := by
  obtain ⟨l, e⟩ := List.getElem?_eq_some_iff.mp h
  rw [List.drop_eq_getElem_cons l, e]
def Trs.ofL : List Tr → Trs
  | [] => .nil
  | t :: r => .cons t (Trs.ofL r)
theorem toL_ofL : ∀ ts : List Tr, (Trs.ofL ts).toL = ts
  | [] => rfl
  | t :: r => by show t :: (Trs.ofL r).toL = _; rw [toL_ofL r]
theorem ofL_trsV {K : PySem.W.Frag} {H : Hp} : ∀ {vs : List V} {ts : List Tr}, Paired (fun v t => TrV K H t v) vs ts → TrsV K H (Trs.ofL ts) vs
  | _, _, .nil => by unfold Trs.ofL TrsV; rfl
  | _, _, .cons h t => by unfold Trs.ofL TrsV; exact ⟨_, _, rfl, h, ofL_trsV t⟩
theorem sum_mem {t : Tr} : ∀ {l : List Tr}, t ∈ l → sz t ≤ (l.map sz).sum
  | x :: r, h => by
    rw [List.map_cons, List.sum_cons]
    rcases List.mem_cons.mp h with e | e
    · rw [e]; omega
    · have := sum_mem e
      omega
def isN : Tr → Bool
  | .w _ => false
  | .n _ _ => true
theorem isN_not {t : Tr} (h : isN t = true) : ∀ z, t ≠ .w z := fun z e => by rw [e] at h; cases h
def inn (ts : List Tr) (i : Nat) : List Nat := (List.range i).filter fun k => (ts[k]?.map isN).getD false
theorem inn_mem {ts : List Tr} {i k : Nat} (h : k ∈ inn ts i) : ∃ t, ts[k]? = some t ∧ isN t = true := by
  unfold inn at h
  obtain ⟨_, h2⟩ := List.mem_filter.mp h
  cases e : ts[k]? with
  | none => rw [e] at h2; cases h2
  | some t => rw [e] at h2; exact ⟨t, rfl, h2⟩
theorem inn_succ {ts : List Tr} {i : Nat} {t : Tr} (e : ts[i]? = some t) : inn ts (i + 1) = inn ts i ++ (if isN t = true then [i] else []) := by
  unfold inn
  rw [List.range_succ, List.filter_append, List.filter_cons, List.filter_nil, e]
  rfl
theorem inn_len (ts : List Tr) (i : Nat) : (inn ts i).length ≤ i := by
  unfold inn
  exact Nat.le_trans (List.length_filter_le _ _) (by rw [List.length_range]; exact Nat.le_refl _)
section
variable {P : Program} {w : World} {K : PySem.W.Frag} {mg : Str → Option Value} {base : Heap} {f : Addr} {fd : FuncData}
theorem kit_stt : PySem.W.kitOne K (.type "str") (.type "tuple") = some false := by kernel_rfl
def spBent (K : PySem.W.Frag) (n : Nat) : Sp := fun vs H Q _ => ∃ (v : V) (t : Tr) (c : Int), vs = [v, .int c] ∧ TrV K H t v ∧ (∀ z, t ≠ .w z) ∧ dp t < n ∧ sz t ≤ 400000 ∧ ∀ (v' : V) (t' : Tr) (H' : Hp), Same H H' → TrV K H' t' v' → sz t' ≤ sz t + 1 → Q v' H'
abbrev NB : List Str := ["_law_tree_here", "_law_cell", "_law_k", "_law_inner", "_law_way"]
theorem scBent : FnScope NB ["_law_tree_here", "_law_cell"] (defScope sBent) := ⟨rfl, rfl, rfl, by decide +kernel, rfl, by decide +kernel, by decide +kernel⟩
theorem ok_bent (F : Fun K "_law_bent_tree" "_law_bent_tree" sBent f fd) (T : Txt mg) (b1 : Binds K fd ["_law_tree_here", "_law_cell"] []) (m1 : mg "_law_bent_tree" = some (.ref f)) : ∀ n, FnOk P w K mg base CX0 n f fd ["_law_tree_here", "_law_cell"] (spBent K n)
  | 0 => ⟨fun vs H Q E ⟨_, _, _, e, _⟩ => by rw [e]; rfl, fun A outer s H args us vs Q E _ _ _ _ ⟨_, _, _, _, _, _, h, _⟩ => absurd h (Nat.not_lt_zero _)⟩
  | n + 1 => by
    have G : CalleeD P w K mg base n "_law_bent_tree" ["_law_tree_here", "_law_cell"] (spBent K n) := ⟨f, fd, ok_bent F T b1 m1 n, b1, F.kp, m1⟩
    refine F.ok scBent (fun vs H Q E h => ?_) (fun cdv A outer s H vs Q E hr h => ?_)
    · obtain ⟨_, _, _, rfl, _⟩ := h; rfl
    · obtain ⟨v, t, c, rfl, ht, hnw, hdp, hsz, q⟩ := h
      have hu := Nat.lt_of_succ_lt (hu_of hr)
      refine ⟨_, pss_cons (ps_setC (iy := 3) ["_law_k"] [(0, "_law_tree_here")] scBent.nd rfl rfl rfl (pi_range1 rfl T.rng (pa_cons (pe_callB call_len_seq rfl T.len PySem.boot_len (pa_cons (pe_ix ix_tup (pv 0) pe_int (fun _ _ => rfl)) pa_nil)) pa_nil)) (caps_of rfl rfl) (by decide +kernel) rfl (by decide +kernel)
          (fun _ _ _ _ _ => pg_name (i := 0) (show (["_law_k", "_law_tree_here"] : List Str).Nodup by decide +kernel) rfl (Or.inl rfl)) (fun _ _ _ _ _ => pif_one (pt_val (pe_callB (call_isinstK K) rfl T.isi PyProof.Rows.boot_isinstance (pa_cons (pe_ix (ix_tupK K) (pe_ix (ix_tupK K) (pv 1) pe_int (fun _ _ => rfl)) (pv 0) (fun _ _ => rfl)) (pa_cons (pe_bltn (v := .ty "tuple") rfl T.tup PyProof.Rows.boot_tuple rfl) pa_nil))))) (fun _ _ _ _ _ => pv 0))
        (pss_cons (ps_cutS (ps_if (PW.pt (pw_and (pt_cmpR (op_ne_nil hu) (pv 3) (pe_lst pa_nil) (nomark _)) (pw_and1 (pt_cmpR op_gt (pe_op op_mod (pv 1) pe_int) pe_int (nomark _)))))
          (pss_cons (ps_set (i := 2) scBent.nd rfl (Or.inl rfl) (pe_ix ix_list (pv 3) (pe_op op_mod (pe_op op_fdiv (pv 1) pe_int) (pe_callB call_len_seq rfl T.len PySem.boot_len (pa_cons (pv 3) pa_nil))) (fun _ _ => rfl)))
          (pss_one (ps_ret (pe_tup (pa_cons (pe_ix ix_tup (pv 0) pe_int (fun _ _ => rfl)) (pa_cons (pe_op op_catG (pe_op op_catG (pe_slice sl_tupG (pe_ix ix_tup (pv 0) pe_int (fun _ _ => rfl)) po_none (po_some (pv 2))) (pe_tup (pa_cons (pe_fn G hr rfl (pa_cons (pe_ix ix_tup (pe_ix ix_tup (pv 0) pe_int (fun _ _ => rfl)) (pv 2) (fun _ _ => rfl)) (pa_cons (pe_op op_fdiv (pv 1) pe_int) pa_nil))) pa_nil))) (pe_slice sl_tupG (pe_ix ix_tup (pv 0) pe_int (fun _ _ => rfl)) (po_some (pe_op op_add (pv 2) pe_int)) po_none)) pa_nil)))))) pss_nil))
        (pss_cons (ps_set (i := 4) scBent.nd rfl (Or.inl rfl) (pe_op op_mod (pe_op op_fdiv (pv 1) pe_int) pe_int))
        (pss_cons (ps_if (pt_cmpR op_eq (pv 4) pe_int (nomark _)) (pss_one (ps_ret (pe_tup (pa_cons (pe_ix ix_tup (pv 0) pe_int (fun _ _ => rfl)) (pa_cons (pe_slice sl_tupG (pe_ix ix_tup (pv 0) pe_int (fun _ _ => rfl)) (po_some pe_int) po_none) pa_nil))))) pss_nil)
        (pss_cons (ps_if (pt_cmpR op_eq (pv 4) pe_int (nomark _)) (pss_one (ps_ret (pe_tup (pa_cons (pe_op op_add (pe_ix ix_tup (pv 0) pe_int (fun _ _ => rfl)) pe_int) (pa_cons (pe_ix ix_tup (pv 0) pe_int (fun _ _ => rfl)) pa_nil))))) pss_nil)
        (pss_cons (ps_if (pt_cmpR op_eq (pv 4) pe_int (nomark _)) (pss_one (ps_ret (pe_tup (pa_cons (pe_op op_sub (pe_ix ix_tup (pv 0) pe_int (fun _ _ => rfl)) pe_int) (pa_cons (pe_ix ix_tup (pv 0) pe_int (fun _ _ => rfl)) pa_nil))))) pss_nil)
        (pss_one (ps_ret (pe_tup (pa_cons (pe_ix ix_tup (pv 0) pe_int (fun _ _ => rfl)) (pa_cons (pe_op op_catG (pe_ix ix_tup (pv 0) pe_int (fun _ _ => rfl)) (pe_tup (pa_cons pe_str pa_nil))) pa_nil)))))))))), ?_⟩
      cases t with
      | w z => exact absurd rfl (hnw z)
      | n k cs =>
        unfold TrV at ht
        obtain ⟨a, p, vs, rfl, ha, hp, hcs⟩ := ht
        have pcs := TrsV.paired cs hcs
        have lcs := Paired.length pcs
        have e7 : sz (.n k cs) = 1 + (cs.toL.map sz).sum := by unfold sz; rw [szs_toL]
        have e8 : dp (.n k cs) = 1 + dps cs := by unfold dp; rfl
        have lcl := lsz cs.toL
        have dpm : ∀ t ∈ cs.toL, dp t ≤ dps cs := fun t h => dps_le cs t h
        have fin : ∀ (k' : Int) (T0 p' : Addr) (vs' : List V) (ts' : List Tr) (H' : Hp), Same H H' → SqT K H' T0 [.int k', .ref p'] → SqT K H' p' vs' → Paired (fun v t => TrV K H' t v) vs' ts' → (ts'.map sz).sum ≤ (cs.toL.map sz).sum + 1 → Q (.ref T0) H' := fun k' T0 p' vs' ts' H' s' h1 h2 h3 h4 =>
          q (.ref T0) (.n k' (Trs.ofL ts')) H' s' (by unfold TrV; exact ⟨T0, p', vs', rfl, h1, h2, ofL_trsV h3⟩) (by
            have e9 : sz (.n k' (Trs.ofL ts')) = 1 + (ts'.map sz).sum := by unfold sz; rw [szs_toL, toL_ofL]
            omega)
        have ka : ∀ {H' : Hp}, Same H H' → Paired (fun v t => TrV K H' t v) vs cs.toL := fun s' => Paired.mapP pcs fun v t z => TrV.keep (fun a xs z => s'.tup z) t z
        have fitS : ∀ j : Nat, j ≤ 1000000 → j ≤ sizeLine := fun j h => fits (by omega)
        refine ⟨_, rfl, a, _, _, _, rfl, rfl, ha, rfl, p, _, rfl, .inr hp, _, rfl, by omega, by omega, fun D hD => ?_⟩
        rw [Int.toNat_natCast]
        refine compG_range (fun j ys σ2 H7 => ys = (inn cs.toL j).map (fun k : Nat => V.int (k : Int)) ∧ (∃ y0, σ2 = [y0, some (.ref a)]) ∧ Same H H7 ∧ H7 D = some (.lst ys)) ⟨rfl, ⟨none, rfl⟩, same_laid hD _, upd_same⟩ (fun j ys σ2 H7 hj h => ?_) (fun ys σ2 H7 h => ?_)
        · obtain ⟨rfl, ⟨y0, rfl⟩, sm, eD⟩ := h
          obtain ⟨tc, etc⟩ : ∃ tc, cs.toL[j]? = some tc := ⟨cs.toL[j]'(by omega), List.getElem?_eq_getElem (by omega)⟩
          obtain ⟨u, eu, tu⟩ := Paired.at_ pcs j tc etc
          have atj : atI vs (0 + (j : Int)) = some u := by rw [Int.zero_add]; exact atI_nat eu
          have ks1 := inn_succ etc
          have kl := inn_len cs.toL j
          refine goN ?_
          cases tc with
          | w z =>
            unfold TrV at tu
            subst tu
            refine ⟨_, rfl, a, _, _, _, rfl, rfl, sm.tup ha, rfl, _, rfl, p, _, _, _, rfl, rfl, sm.tup hp, atj, .str z, "str", "tuple", false, rfl, .str z, kit_stt, false, rfl, ?_⟩
            refine iteF ?_
            rw [ks1, if_neg (show ¬ isN (.w z) = true from Bool.false_ne_true), List.append_nil]
            exact ⟨rfl, ⟨_, rfl⟩, sm, eD⟩
          | n k2 cs2 =>
            unfold TrV at tu
            obtain ⟨a2, p2, vs2, rfl, ha2, _, _⟩ := tu
            refine ⟨_, rfl, a, _, _, _, rfl, rfl, sm.tup ha, rfl, _, rfl, p, _, _, _, rfl, rfl, sm.tup hp, atj, .ref a2, "tuple", "tuple", true, rfl, .tup (sm.tup ha2), kit_self, true, rfl, ?_⟩
            refine iteT ?_
            rw [ks1, if_pos (show isN (.n k2 cs2) = true from rfl), List.map_append]
            refine ⟨_, rfl, eD, fits' (by rw [List.length_map]; omega), ?_, ⟨_, rfl⟩, ?_, upd_same⟩
            · rw [Int.zero_add]; rfl
            · intro b o hb
              rw [upd_ne (fun z => by rw [z, hD] at hb; cases hb)]
              exact sm b o hb
        · obtain ⟨rfl, _, s1, eD1⟩ := h
          refine goN ?_
          have himem : ∀ k ∈ inn cs.toL vs.length, ∃ t, cs.toL[k]? = some t ∧ isN t = true := fun k hk => inn_mem hk
          have hilen := inn_len cs.toL vs.length
          generalize inn cs.toL vs.length = ks at eD1 himem hilen
          refine ⟨fun σ H5 => σ = [some (.ref a), some (.int c), none, some (.ref D), none] ∧ Same H H5, ?_, ?_⟩
          · refine ⟨_, rfl, (by show 0 ≤ sizeLine; decide), fun L0 hL0 => ?_⟩
            have s2 := s1.trans (same_laid hL0 (.lst []))
            have eD2 := same_laid hL0 (.lst []) _ _ eD1
            have eL2 : upd H7 L0 (.lst []) L0 = some (.lst []) := upd_same
            generalize upd H7 L0 (.lst []) = H2 at s2 eD2 eL2
            have ha2 := s2.tup ha
            have hp2 := s2.tup hp
            refine ⟨D, L0, _, rfl, rfl, SqL.of eD2, SqL.of eL2, _, rfl, ?_⟩
            refine ite2 (fun cE => ?_) (fun cE => ?_)
            rotate_left
            · refine iteF ?_
              exact ⟨rfl, s2⟩
            have kpos : 0 < ks.length := by
              cases ks with
              | nil => cases cE
              | cons _ _ => exact Nat.succ_pos _
            refine ⟨_, rfl, _, _, rfl, rfl, (by show (0 : Int) < 3; decide), _, _, rfl, rfl, _, rfl, ?_⟩
            refine ite2 (fun _ => ?_) (fun _ => ?_)
            rotate_left
            · exact ⟨rfl, s2⟩
            obtain ⟨ai, hai, ati⟩ := atMK (zs := ks) (m := (ks.length : Int)) rfl (by omega) (c / 3)
            obtain ⟨ta, eta, hN⟩ := himem ai hai
            refine ⟨_, rfl, _, rfl, _, _, rfl, rfl, ⟨by decide, by decide⟩, _, rfl, D, _, rfl, .inl (SqL.of eD2), _, _, rfl, rfl, (by rw [List.length_map]; omega), D, _, _, _, rfl, rfl, SqL.of eD2, (by rw [List.length_map]; exact ati), ?_⟩
            refine goN ?_
            have hl := (List.getElem?_eq_some_iff.mp eta).1
            obtain ⟨va, eva, hva⟩ := Paired.at_ pcs ai ta eta
            have ata : atI vs (ai : Int) = some va := atI_nat eva
            have c1 : (ai : Int) + 1 = ((ai + 1 : Nat) : Int) := by omega
            have su1 := sum_split cs.toL ai
            have su2 := drop_one eta
            have su3 : ((cs.toL.drop ai).map sz).sum = sz ta + ((cs.toL.drop (ai + 1)).map sz).sum := by rw [su2, List.map_cons, List.sum_cons]
            have hta := dpm ta (List.mem_of_getElem? eta)
            have szm : sz ta ≤ (cs.toL.map sz).sum := sum_mem (List.mem_of_getElem? eta)
            refine ⟨_, rfl, a, _, _, _, rfl, rfl, ha2, rfl, _, rfl, a, _, _, _, rfl, rfl, ha2, rfl, _, rfl, _, rfl, p, vs, rfl, hp2, fun pA HA sA vA => ?_⟩
            rw [cutG_take] at vA
            have sA0 := s2.trans sA
            refine ⟨_, rfl, a, _, _, _, rfl, rfl, sA0.tup ha, rfl, _, rfl, p, _, _, _, rfl, rfl, sA0.tup hp, ata, _, rfl, _, _, rfl, rfl, ⟨by decide, by decide⟩, va, ta, _, rfl, TrV.keep (fun a xs z => sA0.tup z) ta hva, isN_not hN, by omega, by omega, fun vb tb HE sE hvb szb => ?_⟩
            have s1E := sA0.trans sE
            refine ⟨(by show 1 ≤ sizeLine; decide), fun pB hpB => ?_⟩
            have sG := same_laid hpB (.tup [vb])
            have vB : SqT K (upd HE pB (.tup [vb])) pB [vb] := SqT.of upd_same
            generalize upd HE pB (.tup [vb]) = HG at sG vB
            refine ⟨pA, pB, _, _, rfl, rfl, sG.tup (sE.tup vA), vB, fitS _ (by rw [List.length_take]; simp; omega), fun pC HH sH vC => ?_⟩
            have s1H := (s1E.trans sG).trans sH
            refine ⟨_, rfl, a, _, _, _, rfl, rfl, s1H.tup ha, rfl, _, rfl, _, _, rfl, rfl, _, rfl, p, vs, rfl, s1H.tup hp, fun pD HI sI vD => ?_⟩
            rw [c1, cutG_drop] at vD
            refine ⟨pC, pD, _, _, rfl, rfl, sI.tup vC, vD, fitS _ (by rw [List.length_append, List.length_take, List.length_drop]; simp; omega), fun pE HJ sJ vE => ⟨(by show 2 ≤ sizeLine; decide), fun T0 hT0 => ?_⟩⟩
            have sT := same_laid hT0 (.tup [.int k, .ref pE])
            have sEr := (((sG.trans sH).trans sI).trans sJ).trans sT
            have s0 := s1E.trans sEr
            refine fin k T0 pE _ ((cs.toL.take ai ++ [tb]) ++ cs.toL.drop (ai + 1)) _ s0 (SqT.of upd_same) (sT.tup vE) (Paired.app' (Paired.app' (Paired.take' ai (ka s0)) (.cons (TrV.keep (fun a xs z => sEr.tup z) tb hvb) .nil)) (Paired.drop' (ai + 1) (ka s0))) ?_
            rw [List.map_append, List.sum_append, List.map_append, List.sum_append]; simp only [List.map_cons, List.map_nil, List.sum_cons, List.sum_nil]; omega
          rintro σ H5 ⟨rfl, s5⟩
          have ha5 := s5.tup ha
          have hp5 := s5.tup hp
          refine ⟨_, rfl, _, _, rfl, rfl, ⟨by decide, by decide⟩, _, _, rfl, rfl, (by show (0 : Int) < 4; decide), ?_⟩
          refine goN ?_
          refine ⟨_, rfl, rfl, _, rfl, ?_⟩
          refine ite2 (fun _ => ?_) (fun _ => ?_)
          · refine ⟨_, rfl, a, _, _, _, rfl, rfl, ha5, rfl, _, rfl, a, _, _, _, rfl, rfl, ha5, rfl, _, rfl, p, vs, rfl, hp5, fun pA HA sA vA => ⟨(by show 2 ≤ sizeLine; decide), fun T0 hT0 => ?_⟩⟩
            rw [show cutV vs (some 1) none = vs.drop 1 from cutG_drop vs 1] at vA
            have sT := same_laid hT0 (.tup [.int k, .ref pA])
            have s0 := (s5.trans sA).trans sT
            have su := sum_split cs.toL 1
            exact fin k T0 pA _ (cs.toL.drop 1) _ s0 (SqT.of upd_same) (sT.tup vA) (Paired.drop' 1 (ka s0)) (by omega)
          refine ⟨_, rfl, rfl, _, rfl, ?_⟩
          refine ite2 (fun _ => ?_) (fun _ => ?_)
          · refine ⟨_, rfl, a, _, _, _, rfl, rfl, ha5, rfl, _, _, rfl, rfl, _, rfl, a, _, _, _, rfl, rfl, ha5, rfl, (by show 2 ≤ sizeLine; decide), fun T0 hT0 => ?_⟩
            have sT := same_laid hT0 (.tup [.int (k + 7), .ref p])
            have s0 := s5.trans sT
            exact fin (k + 7) T0 p vs cs.toL _ s0 (SqT.of upd_same) (s0.tup hp) (ka s0) (by omega)
          refine ⟨_, rfl, rfl, _, rfl, ?_⟩
          refine ite2 (fun _ => ?_) (fun _ => ?_)
          · refine ⟨_, rfl, a, _, _, _, rfl, rfl, ha5, rfl, _, _, rfl, rfl, _, rfl, a, _, _, _, rfl, rfl, ha5, rfl, (by show 2 ≤ sizeLine; decide), fun T0 hT0 => ?_⟩
            have sT := same_laid hT0 (.tup [.int (k - 9), .ref p])
            have s0 := s5.trans sT
            exact fin (k - 9) T0 p vs cs.toL _ s0 (SqT.of upd_same) (s0.tup hp) (ka s0) (by omega)
          refine ⟨_, rfl, a, _, _, _, rfl, rfl, ha5, rfl, _, rfl, a, _, _, _, rfl, rfl, ha5, rfl, (by show 1 ≤ sizeLine; decide), fun pB hpB => ?_⟩
          have sG := same_laid hpB (.tup [.str "a"])
          have vB : SqT K (upd H5 pB (.tup [.str "a"])) pB [.str "a"] := SqT.of upd_same
          generalize upd H5 pB (.tup [.str "a"]) = HG at sG vB
          refine ⟨p, pB, _, _, rfl, rfl, sG.tup hp5, vB, fitS _ (by simp; omega), fun pC HH sH vC => ⟨(by show 2 ≤ sizeLine; decide), fun T0 hT0 => ?_⟩⟩
          have sT := same_laid hT0 (.tup [.int k, .ref pC])
          have s0 := ((s5.trans sG).trans sH).trans sT
          refine fin k T0 pC _ (cs.toL ++ [.w "a"]) _ s0 (SqT.of upd_same) (sT.tup vC) (Paired.app' (ka s0) (.cons (by unfold TrV; rfl) .nil)) ?_
          have ez : sz (.w "a") = 1 := by unfold sz; rfl
          rw [List.map_append, List.sum_append]; simp only [List.map_cons, List.map_nil, List.sum_cons, List.sum_nil]; omega
end
end J9
namespace J9
open PySem L2 M11 K11
mutual
def up : K11.Tr → Tr
  | .w z => .w z
  | .n k cs => .n (k : Int) (ups cs)
def ups : K11.Trs → Trs
  | .nil => .nil
  | .cons t r => .cons (up t) (ups r)
end
mutual
theorem up_sz : ∀ t : K11.Tr, sz (up t) = K11.sz t
  | .w z => by unfold up sz K11.sz; rfl
  | .n k cs => by unfold up sz K11.sz; rw [ups_sz cs]
theorem ups_sz : ∀ ts : K11.Trs, szs (ups ts) = K11.szs ts
  | .nil => by unfold ups szs K11.szs; rfl
  | .cons t r => by unfold ups szs K11.szs; rw [up_sz t, ups_sz r]
end
mutual
theorem up_dp : ∀ t : K11.Tr, dp (up t) = K11.dp t
  | .w z => by unfold up dp K11.dp; rfl
  | .n k cs => by unfold up dp K11.dp; rw [ups_dp cs]
theorem ups_dp : ∀ ts : K11.Trs, dps (ups ts) = K11.dps ts
  | .nil => by unfold ups dps K11.dps; rfl
  | .cons t r => by unfold ups dps K11.dps; rw [up_dp t, ups_dp r]
end
mutual
theorem up_V {K : PySem.W.Frag} {H : Hp} : ∀ (t : K11.Tr) {v : V}, K11.TrV K H t v → TrV K H (up t) v
  | .w z, v, h => by
    unfold K11.TrV at h
    unfold up TrV
    exact h
  | .n k cs, v, h => by
    unfold K11.TrV at h
    obtain ⟨a, p, vs, e, h1, h2, h3⟩ := h
    unfold up TrV
    exact ⟨a, p, vs, e, h1, h2, ups_V cs h3⟩
theorem ups_V {K : PySem.W.Frag} {H : Hp} : ∀ (ts : K11.Trs) {vs : List V}, K11.TrsV K H ts vs → TrsV K H (ups ts) vs
  | .nil, vs, h => by
    unfold K11.TrsV at h
    unfold ups TrsV
    exact h
  | .cons t r, vs, h => by
    unfold K11.TrsV at h
    obtain ⟨v, vs', e, h1, h2⟩ := h
    unfold ups TrsV
    exact ⟨v, vs', e, up_V t h1, ups_V r h2⟩
end
theorem up_not {t : K11.Tr} (h : ∀ z, t ≠ .w z) : ∀ z, up t ≠ .w z := fun z e => by
  cases t with
  | w y => exact h y rfl
  | n k cs => unfold up at e; cases e
section
variable {P : Program} {w : World} {K : PySem.W.Frag} {mg : Str → Option Value} {base : Heap} {f : Addr} {fd : FuncData}
def spWordsIn (K : PySem.W.Frag) : Sp := fun vs H Q _ => ∃ (R : Addr) (rs : List Addr) (rules : List Rule), vs = [.ref R] ∧ SqL K H R (rs.map V.ref) ∧ Rules K H rs rules ∧ Small rules ∧
  ∀ (D : Addr) (zs : List Str) (H' : Hp), Same H H' → H' D = some (.lst (zs.map V.str)) → 3 ≤ zs.length → zs.length ≤ 100 → Q (.ref D) H'
abbrev NW : List Str := ["_law_rules_here", "_law_head", "_law_parts", "_law_heads", "_law_words", "_law_part_here"]
theorem scWordsIn : FnScope NW ["_law_rules_here"] (defScope sWordsIn) := ⟨rfl, rfl, rfl, by decide +kernel, rfl, by decide +kernel, by decide +kernel⟩
theorem ok_wordsIn (F : Fun K "_law_words_in" "_law_words_in" sWordsIn f fd) (T : Txt mg) : FnOk P w K mg base CX0 1 f fd ["_law_rules_here"] (spWordsIn K) := by
  refine F.ok scWordsIn (fun vs H Q E h => ?_) (fun cdv A outer s H vs Q E hr h => ?_)
  · obtain ⟨R, rs, rules, rfl, _⟩ := h; rfl
  · obtain ⟨R, rs, rules, rfl, hR, hrl, hsm, q⟩ := h
    have hsm1 := hsm.one
    have hsm2 := hsm.most
    refine ⟨_, pss_cons (ps_setC (iy := 3) ["_law_head", "_law_parts"] [] scWordsIn.nd rfl rfl rfl (pi_list (pv 0)) (caps_of rfl rfl) (by decide +kernel) rfl (by decide +kernel)
        (fun _ _ _ _ _ => pg_tupK (n := 2) K rfl (pgs_cons (pg_name (i := 0) (show (["_law_head", "_law_parts"] : List Str).Nodup by decide +kernel) rfl (Or.inl rfl)) (pgs_cons (pg_name (i := 1) (show (["_law_head", "_law_parts"] : List Str).Nodup by decide +kernel) rfl (Or.inl rfl)) pgs_nil))) (fun _ _ _ _ _ => pif_nil)
        (fun _ _ _ _ _ => pv 0))
      (pss_cons (ps_set (i := 4) scWordsIn.nd rfl (Or.inl rfl) (pe_lst pa_nil))
      (pss_cons (ps_for PassesOwn.never rfl (pi_list (pv 0)) (pg_tupK (n := 2) K rfl (pgs_cons (pg_name (i := 1) scWordsIn.nd rfl (Or.inl rfl)) (pgs_cons (pg_name (i := 2) scWordsIn.nd rfl (Or.inl rfl)) pgs_nil)))
        (pss_one (ps_for PassesOwn.never rfl (pi_tup (pv 2)) (pg_name (i := 5) scWordsIn.nd rfl (Or.inl rfl))
          (pss_one (ps_if (PW.pt (pw_and (pt_cmpR op_notIn_seq (pv 5) (pv 3) rfl) (pw_and1 (pt_cmpR op_notIn_seq (pv 5) (pv 4) rfl))))
            (pss_one (ps_expr (pe_bm PySem.F.plainAttrs_list PySem.F.slot_list_append PySem.F.type_list_append mt_append (pv 4) (pa_cons (pv 5) pa_nil)))) pss_nil)))))
      (pss_one (ps_ret (pe_op op_cat (pv 4) (pe_slice sl_list (pe_lst (pa_cons pe_str (pa_cons pe_str (pa_cons pe_str pa_nil)))) po_none (po_some (pe_callB (call_max2 rfl) rfl T.max boot_max (pa_cons pe_int (pa_cons (pe_op op_sub pe_int (pe_callB call_len_seq rfl T.len PySem.boot_len (pa_cons (pv 4) pa_nil))) pa_nil)))))))))), ?_⟩
    refine ⟨_, rfl, R, rfl, ⟨_, hR⟩, fun D hD => comp_heads hR hrl (by omega) hD fun H1 s1 eD => ?_⟩
    refine goN ?_
    refine ⟨(by show 0 ≤ sizeLine; decide), fun L hL => ?_⟩
    have s2 := s1.trans (same_laid hL (.lst []))
    have eD2 := same_laid hL (.lst []) _ _ eD
    have nL : D ≠ L := fun z => by rw [← z, eD] at hL; cases hL
    have fL : H L = none := s1.free hL
    have e2 : upd H1 L (.lst []) L = some (.lst []) := upd_same
    generalize upd H1 L (.lst []) = H2 at s2 eD2 e2
    refine goN ?_
    have ll := Paired.length hrl
    refine ⟨_, rfl, R, rfl, ⟨_, s2.seq hR⟩, for_list (xs := rs.map V.ref) (fun i σ H3 => ∃ (es : List Str) (y1 y2 y5 : Option V), σ = [some (.ref R), y1, y2, some (.ref D), some (.ref L), y5] ∧ Same H H3 ∧ H3 D = some (.lst ((K11.hd rules).map V.str)) ∧ H3 L = some (.lst (es.map V.str)) ∧ es.length ≤ 4 * i) ⟨[], _, _, _, rfl, s2, eD2, e2, by simp⟩ ?_ ?_ ?_⟩
    · rintro i σ H3 _ ⟨es, y1, y2, y5, rfl, s3, _⟩
      exact s3.seq hR
    · rintro i x σ H3 ex ⟨es, y1, y2, y5, rfl, s3, eD3, eL3, hel⟩
      rw [List.getElem?_map] at ex
      obtain ⟨r, er, rfl⟩ := Option.map_eq_some_iff.mp ex
      have li := (List.getElem?_eq_some_iff.mp er).1
      obtain ⟨ru, e1, p, v1, v2⟩ := hrl.get er
      have hru := hsm.few ru (List.mem_of_getElem? e1)
      refine ⟨r, _, rfl, s3.tup v1, rfl, _, _, rfl, _, _, rfl, rfl, ?_⟩
      refine ⟨_, rfl, p, rfl, ⟨_, s3.tup v2⟩, for_tup (xs := ru.2.map V.str) (fun j σ H4 => ∃ (es' : List Str) (y5 : Option V), σ = [some (.ref R), some (.str ru.1), some (.ref p), some (.ref D), some (.ref L), y5] ∧ Same H H4 ∧ H4 D = some (.lst ((K11.hd rules).map V.str)) ∧ H4 L = some (.lst (es'.map V.str)) ∧ es'.length ≤ 4 * i + j) ⟨es, _, rfl, s3, eD3, eL3, by omega⟩ ?_ ?_ ?_⟩
      · rintro j σ H4 _ ⟨es', y5, rfl, s4, _⟩
        exact s4.tup v2
      · rintro j x2 σ H4 ex2 ⟨es', y5, rfl, s4, eD4, eL4, hel'⟩
        rw [List.getElem?_map] at ex2
        obtain ⟨z, ez, rfl⟩ := Option.map_eq_some_iff.mp ex2
        have lj := (List.getElem?_eq_some_iff.mp ez).1
        refine goN ?_
        refine ⟨_, rfl, _, rfl, D, _, rfl, .inl (SqL.of eD4), rfl, flat_strs _, _, rfl, ?_⟩
        refine ite2 (fun _ => ?_) (fun _ => ?_)
        rotate_left
        · refine iteF ?_
          exact ⟨es', _, rfl, s4, eD4, eL4, by omega⟩
        refine ⟨_, rfl, _, rfl, L, _, rfl, .inl (SqL.of eL4), rfl, flat_strs _, _, rfl, ?_⟩
        refine ite2 (fun _ => ?_) (fun _ => ?_)
        rotate_left
        · exact ⟨es', _, rfl, s4, eD4, eL4, by omega⟩
        refine ⟨_, rfl, .inl ⟨rfl, _, SqL.of eL4⟩, _, rfl, L, _, _, rfl, rfl, eL4, fits' (by rw [List.length_map]; omega), ?_⟩
        refine ⟨es' ++ [z], _, rfl, fun b o hb => by rw [upd_ne (fun z => by rw [z, fL] at hb; cases hb)]; exact s4 b o hb, by rw [upd_ne nL]; exact eD4, by rw [upd_same, List.map_append]; rfl, by rw [List.length_append, List.length_singleton]; omega⟩
      · rintro σ H4 ⟨es', y5, rfl, s4, eD4, eL4, hel'⟩
        rw [List.length_map] at hel'
        exact ⟨es', _, _, _, rfl, s4, eD4, eL4, by omega⟩
    · rintro σ H3 ⟨es, y1, y2, y5, rfl, s3, eD3, eL3, hel⟩
      rw [List.length_map] at hel
      refine ⟨_, rfl, (by show 3 ≤ sizeLine; decide), fun Z hZ => ?_⟩
      have k4 := same_laid hZ (.lst (([ "zz", "w", "wz" ] : List Str).map V.str))
      have eZ : upd H3 Z (.lst (([ "zz", "w", "wz" ] : List Str).map V.str)) Z = some (.lst (([ "zz", "w", "wz" ] : List Str).map V.str)) := upd_same
      have eL4 := k4 _ _ eL3
      refine ⟨_, rfl, L, _, rfl, .inl (SqL.of eL4), _, _, rfl, rfl, _, _, rfl, _, rfl, Z, _, rfl, SqL.of eZ, fun Y hY => ?_⟩
      have emax : (if 3 - ((es.map V.str).length : Int) > 0 then 3 - ((es.map V.str).length : Int) else 0) = ((3 - es.length : Nat) : Int) := by rw [List.length_map]; split <;> omega
      rw [emax, cut_take]
      have k5 := same_laid hY (.lst (((["zz", "w", "wz"] : List Str).take (3 - es.length)).map V.str))
      have eY : upd (upd H3 Z (.lst (([ "zz", "w", "wz" ] : List Str).map V.str))) Y (.lst (((["zz", "w", "wz"] : List Str).take (3 - es.length)).map V.str)) Y = some (.lst (((["zz", "w", "wz"] : List Str).take (3 - es.length)).map V.str)) := upd_same
      have l3 : ((["zz", "w", "wz"] : List Str).take (3 - es.length)).length = 3 - es.length := by rw [List.length_take]; show min (3 - es.length) 3 = _; omega
      refine ⟨L, Y, _, _, rfl, rfl, k5 _ _ eL4, eY, fits (by rw [List.length_map, List.length_map, l3]; omega), fun p hp => ?_⟩
      have k6 := same_laid hp (.lst (es.map V.str ++ ((["zz", "w", "wz"] : List Str).take (3 - es.length)).map V.str))
      exact q p (es ++ (["zz", "w", "wz"] : List Str).take (3 - es.length)) _ (s3.trans (k4.trans (k5.trans k6))) (by rw [upd_same, List.map_append]) (by rw [List.length_append, l3]; omega) (by rw [List.length_append, l3]; omega)
end
end J9
namespace J9
open PySem L2 M11 K11
section
variable {P : Program} {w : World} {K : PySem.W.Frag} {mg : Str → Option Value} {base : Heap} {f : Addr} {fd : FuncData}
def spCase (K : PySem.W.Frag) : Sp := fun vs H Q _ => ∃ (R B : Addr) (rs : List Addr) (rules : List Rule) (b : List (Str × Nat)) (c : Int), vs = [.ref R, .ref B, .int c] ∧ SqL K H R (rs.map V.ref) ∧ Rules K H rs rules ∧ Small rules ∧ H B = some (.dK (bk b)) ∧ Ranked rules (K11.hd rules) b ∧ (∀ z ∈ K11.hd rules, z ∈ kys b) ∧ b.length ≤ 5 ∧
  ∀ (T0 p a b : Addr) (v1 v2 : V) (t1 t2 : Tr) (word : Str) (one other : Ev) (H' : Hp), Same H H' → SqT K H' T0 [.ref p, .str word, .ref a, .ref b] → SqT K H' p [v1, v2] → TrV K H' t1 v1 → TrV K H' t2 v2 → sz t1 ≤ 200000 → sz t2 ≤ 200000 → EvV K H' a one → EvV K H' b other → Q (.ref T0) H'
abbrev NC : List Str := ["_law_rules_here", "_law_best", "_law_cell", "_law_name", "_law_first", "_law_second", "_law_word", "_law_one", "_law_other", "_law_way"]
theorem scCase : FnScope NC ["_law_rules_here", "_law_best", "_law_cell"] (defScope sCase) := ⟨rfl, rfl, rfl, by decide +kernel, rfl, by decide +kernel, by decide +kernel⟩
def Cs (K : PySem.W.Frag) (H : Hp) (R B : Addr) (c : Int) (x : Str) (wy : Int) (b5 b6 : Bool) (σ : St) (H5 : Hp) : Prop := ∃ (v1 v2 : V) (t1 t2 : Tr) (word : Str) (a b : Addr) (one other : Ev), σ = [some (.ref R), some (.ref B), some (.int c), some (.str x), some v1, some v2, some (.str word), some (.ref a), some (.ref b), some (.int wy)] ∧ Same H H5 ∧ TrV K H5 t1 v1 ∧ TrV K H5 t2 v2 ∧ (b5 = true → (∀ z, t1 ≠ .w z) ∧ dp t1 < 10) ∧ (b6 = true → (∀ z, t2 ≠ .w z) ∧ dp t2 < 10) ∧ sz t1 ≤ 200000 ∧ sz t2 ≤ 200000 ∧ (b5 = true → sz t1 ≤ 100000) ∧ (b6 = true → sz t2 ≤ 100000) ∧ EvV K H5 a one ∧ EvV K H5 b other
theorem ok_case (F : Fun K "_law_case" "_law_case" sCase f fd) (T : Txt mg) (GT : CalleeD P w K mg base 10 "_law_tree" ["_law_rules_here", "_law_best", "_law_name", "_law_cell", "_law_room"] (spTree K)) (GP : CalleeD P w K mg base 10 "_law_parting" ["_law_first", "_law_second"] (spParting K)) (GW : CalleeD P w K mg base 10 "_law_words_in" ["_law_rules_here"] (spWordsIn K)) (GB : CalleeD P w K mg base 10 "_law_bent_tree" ["_law_tree_here", "_law_cell"] (spBent K 10)) :
    FnOk P w K mg base CX0 11 f fd ["_law_rules_here", "_law_best", "_law_cell"] (spCase K) := by
  refine F.ok scCase (fun vs H Q E h => ?_) (fun cdv A outer s H vs Q E hr h => ?_)
  · obtain ⟨R, B, rs, rules, b, c, rfl, _⟩ := h; rfl
  · obtain ⟨R, B, rs, rules, b, c, rfl, hR, hrl, hsm, hB, hrk, hky, hb5, q⟩ := h
    have hsm1 := hsm.one
    have hsm2 := hsm.most
    refine ⟨_, (pss_cons (ps_set (i := 3) scCase.nd rfl (Or.inl rfl) (pe_ix ix_tup (pe_ix ix_list (pv 0) (pe_op op_mod (pe_op op_mod (pe_op op_fdiv (pv 2) pe_int) pe_int) (pe_callB call_len_seq rfl T.len PySem.boot_len (pa_cons (pv 0) pa_nil))) (fun _ _ => rfl)) pe_int (fun _ _ => rfl)))
      (pss_cons (ps_cutS (ps_if (pt_cmpR op_gt (pe_op op_mod (pv 2) pe_int) pe_int (nomark _)) (pss_one (ps_set (i := 3) scCase.nd rfl (Or.inl rfl) (pe_ix ix_tup (pe_ix ix_list (pv 0) pe_int (fun _ _ => rfl)) pe_int (fun _ _ => rfl)))) pss_nil))
      (pss_cons (ps_set (i := 4) scCase.nd rfl (Or.inl rfl) (pe_fn GT hr rfl (pa_cons (pv 0) (pa_cons (pv 1) (pa_cons (pe_ix ix_list (pe_lst (pa_cons (pe_ix ix_tup (pe_ix ix_list (pv 0) pe_int (fun _ _ => rfl)) pe_int (fun _ _ => rfl)) (pa_cons (pv 3) pa_nil))) (pe_op op_mod (pe_op op_fdiv (pv 2) pe_int) pe_int) (fun _ _ => rfl)) (pa_cons (pe_op op_fdiv (pv 2) pe_int) (pa_cons (pe_op op_add pe_int (pe_op op_mod (pe_op op_fdiv (pv 2) pe_int) pe_int)) pa_nil)))))))
      (pss_cons (ps_set (i := 5) scCase.nd rfl (Or.inl rfl) (pe_fn GT hr rfl (pa_cons (pv 0) (pa_cons (pv 1) (pa_cons (pv 3) (pa_cons (pe_op op_fdiv (pv 2) pe_int) (pa_cons (pe_op op_add pe_int (pe_op op_mod (pe_op op_fdiv (pv 2) pe_int) pe_int)) pa_nil)))))))
      (pss_cons (ps_asg (pe_fn GP hr rfl (pa_cons (pv 4) (pa_cons (pv 5) pa_nil))) (pg_tupK (n := 3) K rfl (pgs_cons (pg_name (i := 6) scCase.nd rfl (Or.inl rfl)) (pgs_cons (pg_name (i := 7) scCase.nd rfl (Or.inl rfl)) (pgs_cons (pg_name (i := 8) scCase.nd rfl (Or.inl rfl)) pgs_nil)))))
      (pss_cons (ps_set (i := 9) scCase.nd rfl (Or.inl rfl) (pe_op op_mod (pe_op op_fdiv (pv 2) pe_int) pe_int))
      (pss_cons (ps_cutS (ps_if (pt_cmpR op_eq (pv 9) pe_int (nomark _)) (pss_one (ps_set (i := 6) scCase.nd rfl (Or.inl rfl) (pe_ix ix_list (pe_op op_cat (pe_slice sl_list (pe_fn GW hr rfl (pa_cons (pv 0) pa_nil)) po_none (po_some pe_int)) (pe_lst (pa_cons pe_str pa_nil))) (pe_op op_mod (pe_op op_fdiv (pv 2) pe_int) pe_int) (fun _ _ => rfl)))) pss_nil))
      (pss_cons (ps_cutS (ps_if (pt_cmpR op_eq (pv 9) pe_int (nomark _)) (pss_one (ps_par (i := 7) (j := 8) rfl scCase.nd rfl rfl (by decide) rfl rfl (pa_cons (pv 8) (pa_cons (pv 7) pa_nil)) rfl)) pss_nil))
      (pss_cons (ps_cutS (ps_if (pt_cmpR op_eq (pv 9) pe_int (nomark _)) (pss_one (ps_set (i := 7) scCase.nd rfl (Or.inl rfl) (pe_ix ix_list (pe_lst (pa_cons (pe_tup (pa_cons pe_str (pa_cons (pe_ix ix_list (pe_fn GW hr rfl (pa_cons (pv 0) pa_nil)) pe_int (fun _ _ => rfl)) pa_nil))) (pa_cons (pe_tup (pa_cons pe_str (pa_cons pe_int pa_nil))) (pa_cons (pe_tup (pa_cons pe_str (pa_cons pe_int pa_nil))) (pa_cons (pe_tup (pa_cons pe_str pa_nil)) pa_nil))))) (pe_op op_mod (pe_op op_fdiv (pv 2) pe_int) pe_int) (fun _ _ => rfl)))) pss_nil))
      (pss_cons (ps_cutS (ps_if (pt_cmpR op_eq (pv 9) pe_int (nomark _)) (pss_one (ps_set (i := 8) scCase.nd rfl (Or.inl rfl) (pe_ix ix_list (pe_lst (pa_cons (pe_tup (pa_cons pe_str (pa_cons (pe_ix ix_list (pe_fn GW hr rfl (pa_cons (pv 0) pa_nil)) pe_int (fun _ _ => rfl)) pa_nil))) (pa_cons (pe_tup (pa_cons pe_str (pa_cons pe_int pa_nil))) (pa_cons (pe_tup (pa_cons pe_str (pa_cons pe_int pa_nil))) (pa_cons (pe_tup (pa_cons pe_str pa_nil)) pa_nil))))) (pe_op op_mod (pe_op op_fdiv (pv 2) pe_int) pe_int) (fun _ _ => rfl)))) pss_nil))
      (pss_cons (ps_cutS (ps_if (pt_cmpR op_eq (pv 9) pe_int (nomark _)) (pss_one (ps_set (i := 4) scCase.nd rfl (Or.inl rfl) (pe_fn GB hr rfl (pa_cons (pv 4) (pa_cons (pe_op op_fdiv (pv 2) pe_int) pa_nil))))) pss_nil))
      (pss_cons (ps_cutS (ps_if (pt_cmpR op_eq (pv 9) pe_int (nomark _)) (pss_one (ps_set (i := 5) scCase.nd rfl (Or.inl rfl) (pe_fn GB hr rfl (pa_cons (pv 5) (pa_cons (pe_op op_fdiv (pv 2) pe_int) pa_nil))))) pss_nil))
      (pss_one (ps_ret (pe_tup (pa_cons (pe_tup (pa_cons (pv 4) (pa_cons (pv 5) pa_nil))) (pa_cons (pv 6) (pa_cons (pv 7) (pa_cons (pv 8) pa_nil))))))))))))))))))), ?_⟩
    have ll := Paired.length hrl
    obtain ⟨ru0, e0⟩ : ∃ ru0, rules[0]? = some ru0 := ⟨rules[0]'(by omega), List.getElem?_eq_getElem (by omega)⟩
    obtain ⟨r0, er0, p0, w1, w2⟩ := Paired.at_ hrl 0 ru0 e0
    have at0 : atI (rs.map V.ref) 0 = some (.ref r0) := atI_nat (j := 0) (by rw [List.getElem?_map, er0]; rfl)
    have hx0 : ru0.1 ∈ K11.hd rules := List.mem_map.mpr ⟨ru0, List.mem_of_getElem? e0, rfl⟩
    obtain ⟨j, hj, hjr⟩ : ∃ j : Nat, c / 7 % 6 % ((rs.map V.ref).length : Int) = (j : Int) ∧ j < rules.length := by
      rw [List.length_map]
      have h1 := Int.emod_lt_of_pos (c / 7 % 6) (show (0 : Int) < (rs.length : Int) by omega)
      have h2 := Int.emod_nonneg (c / 7 % 6) (show (rs.length : Int) ≠ 0 by omega)
      exact ⟨(c / 7 % 6 % (rs.length : Int)).toNat, by omega, by omega⟩
    obtain ⟨ruj, ej⟩ : ∃ ruj, rules[j]? = some ruj := ⟨rules[j]'hjr, List.getElem?_eq_getElem hjr⟩
    obtain ⟨rj, erj, pj, wj1, wj2⟩ := Paired.at_ hrl j ruj ej
    have atj : atI (rs.map V.ref) (c / 7 % 6 % ((rs.map V.ref).length : Int)) = some (.ref rj) := by rw [hj]; exact atI_nat (by rw [List.getElem?_map, erj]; rfl)
    have hxj : ruj.1 ∈ K11.hd rules := List.mem_map.mpr ⟨ruj, List.mem_of_getElem? ej, rfl⟩
    refine ⟨_, rfl, _, rfl, _, _, rfl, rfl, ⟨by decide, by decide⟩, _, _, rfl, rfl, (by show (0 : Int) < 6; decide), _, rfl, R, _, rfl, .inl hR, _, _, rfl, rfl, (by rw [List.length_map]; omega), R, _, _, _, rfl, rfl, hR, atj, rj, _, _, _, rfl, rfl, wj1, rfl, ?_⟩
    refine goN ?_
    refine ⟨fun σ H5 => H5 = H ∧ ∃ x ∈ K11.hd rules, σ = [some (.ref R), some (.ref B), some (.int c), some (.str x), none, none, none, none, none, none], ?_, ?_⟩
    · refine ⟨_, rfl, _, _, rfl, rfl, (by show (0 : Int) < 6; decide), _, _, rfl, rfl, _, rfl, ?_⟩
      refine ite2 (fun _ => ?_) (fun _ => ?_)
      · refine ⟨_, rfl, R, _, _, _, rfl, rfl, hR, at0, r0, _, _, _, rfl, rfl, w1, rfl, ?_⟩
        exact ⟨rfl, ru0.1, hx0, rfl⟩
      · exact ⟨rfl, ruj.1, hxj, rfl⟩
    rintro σ H5 ⟨rfl, x, hx, rfl⟩
    refine ⟨_, rfl, _, rfl, _, rfl, R, _, _, _, rfl, rfl, hR, at0, r0, _, _, _, rfl, rfl, w1, rfl, _, rfl, (by show 2 ≤ sizeLine; decide), fun L hL => ?_⟩
    have k1 := same_laid hL (.lst [.str ru0.1, .str x])
    have eL : upd H5 L (.lst [.str ru0.1, .str x]) L = some (.lst [.str ru0.1, .str x]) := upd_same
    generalize upd H5 L (.lst [.str ru0.1, .str x]) = H1 at k1 eL
    obtain ⟨y, hy, aty⟩ : ∃ y ∈ K11.hd rules, atI [V.str ru0.1, V.str x] (c / 12 % 2) = some (.str y) := by
      have h : c / 12 % 2 = 0 ∨ c / 12 % 2 = 1 := by omega
      rcases h with h | h
      · exact ⟨ru0.1, hx0, by rw [h]; rfl⟩
      · exact ⟨x, hx, by rw [h]; rfl⟩
    obtain ⟨l1, hl1⟩ : ∃ l : Nat, 1 + c / 6 % 3 = (l : Int) := ⟨(1 + c / 6 % 3).toNat, by omega⟩
    obtain ⟨l2, hl2⟩ : ∃ l : Nat, 1 + c / 18 % 3 = (l : Int) := ⟨(1 + c / 18 % 3).toNat, by omega⟩
    refine ⟨_, rfl, _, _, rfl, rfl, ⟨by decide, by decide⟩, _, _, rfl, rfl, (by show (0 : Int) < 2; decide), L, _, _, _, rfl, rfl, SqL.of eL, aty, _, rfl, _, _, rfl, rfl, ⟨by decide, by decide⟩, _, rfl, _, _, rfl, rfl, ⟨by decide, by decide⟩, _, _, rfl, rfl, (by show (0 : Int) < 3; decide), _, _, rfl, rfl, ?_⟩
    refine ⟨R, B, rs, rules, b, y, _, l1, (by show [_, _, _, _, V.int (1 + c / 6 % 3)] = _; rw [hl1]), by omega, k1.seq hR, hrl.same k1, hsm, k1 _ _ hB, hrk, hky, hb5, hy, fun v1 t1 H2 s2 tv1 fit1 dp1 sz1 nw1 => ?_⟩
    refine goN ?_
    have s02 := k1.trans s2
    refine ⟨_, rfl, _, rfl, _, rfl, _, rfl, _, _, rfl, rfl, ⟨by decide, by decide⟩, _, rfl, _, _, rfl, rfl, ⟨by decide, by decide⟩, _, _, rfl, rfl, (by show (0 : Int) < 3; decide), _, _, rfl, rfl, ?_⟩
    refine ⟨R, B, rs, rules, b, x, _, l2, (by show [_, _, _, _, V.int (1 + c / 18 % 3)] = _; rw [hl2]), by omega, s02.seq hR, hrl.same s02, hsm, s02 _ _ hB, hrk, hky, hb5, hx, fun v2 t2 H3 s3 tv2 fit2 dp2 sz2 nw2 => ?_⟩
    refine goN ?_
    have s03 := s02.trans s3
    have u1 := TrV.keep (fun _ _ z => s3.tup z) _ (up_V t1 tv1)
    have u2 := up_V t2 tv2
    have z1 := up_sz t1
    have z2 := up_sz t2
    have g1 := up_dp t1
    have g2 := up_dp t2
    have n1 := up_not nw1
    have n2 := up_not nw2
    generalize up t1 = t1 at u1 z1 g1 n1
    generalize up t2 = t2 at u2 z2 g2 n2
    refine ⟨_, rfl, _, rfl, v1, v2, t1, t2, rfl, u1, u2, by omega, by omega, fun p a b word one other H4 s4 h4 ha hb => ?_⟩
    refine ⟨p, _, rfl, h4, rfl, _, _, rfl, _, _, rfl, _, _, rfl, rfl, ?_⟩
    have s04 := s03.trans s4
    refine ⟨_, rfl, _, _, rfl, rfl, ⟨by decide, by decide⟩, _, _, rfl, rfl, (by show (0 : Int) < 8; decide), ?_⟩
    refine goN ?_
    have s6 := s04
    have h1 := TrV.keep (fun _ _ z => s4.tup z) t1 u1
    have h2 := TrV.keep (fun _ _ z => s4.tup z) t2 u2
    have c1 : true = true → (∀ z, t1 ≠ .w z) ∧ dp t1 < 10 := fun _ => ⟨n1, by omega⟩
    have c2 : true = true → (∀ z, t2 ≠ .w z) ∧ dp t2 < 10 := fun _ => ⟨n2, by omega⟩
    have d1 : sz t1 ≤ 200000 := by omega
    have d2 : sz t2 ≤ 200000 := by omega
    have d3 : true = true → sz t1 ≤ 100000 := fun _ => by omega
    have d4 : true = true → sz t2 ≤ 100000 := fun _ => by omega
    clear k1 eL s2 s3 s4 h4 s02 s03 s04 u1 u2 n1 n2 tv1 tv2 nw1 nw2 hj atj ej erj wj1 wj2 hxj aty hy hL
    have hw4 : c / 24 % 4 = 0 ∨ c / 24 % 4 = 1 ∨ c / 24 % 4 = 2 ∨ c / 24 % 4 = 3 := by omega
    refine ⟨Cs K H5 R B c x (c / 3 % 8) true true, ?_, ?_⟩
    · refine ⟨_, rfl, rfl, _, rfl, ?_⟩
      refine ite2 (fun _ => ?_) (fun _ => ?_)
      rotate_left
      · exact ⟨v1, v2, t1, t2, word, a, b, one, other, rfl, s6, h1, h2, c1, c2, d1, d2, d3, d4, ha, hb⟩
      refine ⟨_, rfl, R, rs, rules, rfl, s6.seq hR, hrl.same s6, hsm, fun D zs H6 t6 eD l3 l100 => ?_⟩
      refine ⟨(3 : Int), rfl, D, _, rfl, SqL.of eD, fun Y hY => ?_⟩
      rw [show cutV (zs.map V.str) none (some (3 : Int)) = (zs.take 3).map V.str from cut_take zs 3]
      have k7 := same_laid hY (.lst ((zs.take 3).map V.str))
      have eY : upd H6 Y (.lst ((zs.take 3).map V.str)) Y = some (.lst ((zs.take 3).map V.str)) := upd_same
      generalize upd H6 Y (.lst ((zs.take 3).map V.str)) = H7 at k7 eY
      refine ⟨(by show 1 ≤ sizeLine; decide), fun Z hZ => ?_⟩
      have k8 := same_laid hZ (.lst [.str ""])
      have eZ : upd H7 Z (.lst [.str ""]) Z = some (.lst [.str ""]) := upd_same
      generalize upd H7 Z (.lst [.str ""]) = H8 at k8 eZ
      have lt3 : (zs.take 3).length = 3 := by rw [List.length_take]; omega
      refine ⟨Y, Z, _, _, rfl, rfl, k8 _ _ eY, eZ, fits (by rw [List.length_map, lt3]; decide), fun X hX => ?_⟩
      have k9 := same_laid hX (.lst ((zs.take 3).map V.str ++ [.str ""]))
      have eX : upd H8 X (.lst ((zs.take 3).map V.str ++ [.str ""])) X = some (.lst ((zs.take 3 ++ ([""] : List Str)).map V.str)) := by rw [upd_same, List.map_append]; rfl
      generalize upd H8 X (.lst ((zs.take 3).map V.str ++ [.str ""])) = H9 at k9 eX
      obtain ⟨z, _, atz⟩ := atM (zs := zs.take 3 ++ ([""] : List Str)) (m := 4) (by rw [List.length_append, lt3]; rfl) (by decide) (c / 24)
      refine ⟨_, rfl, _, _, rfl, rfl, ⟨by decide, by decide⟩, _, _, rfl, rfl, (by show (0 : Int) < 4; decide), X, _, _, _, rfl, rfl, SqL.of eX, atz, ?_⟩
      have kk := t6.trans (k7.trans (k8.trans k9))
      exact ⟨v1, v2, t1, t2, z, a, b, one, other, rfl, s6.trans kk, TrV.keep (fun _ _ z => kk.tup z) t1 h1, TrV.keep (fun _ _ z => kk.tup z) t2 h2, c1, c2, d1, d2, d3, d4, kk.tup ha, kk.tup hb⟩
    clear h1 h2 c1 c2 d1 d2 d3 d4 ha hb s6
    intro σ H6 cs0
    refine ⟨Cs K H5 R B c x (c / 3 % 8) true true, ?_, ?_⟩
    · obtain ⟨v1, v2, t1, t2, word, a, b, one, other, rfl, s6, h1, h2, c1, c2, d1, d2, d3, d4, ha, hb⟩ := cs0
      refine ⟨_, rfl, rfl, _, rfl, ?_⟩
      refine ite2 (fun _ => ?_) (fun _ => ?_)
      · refine ⟨_, rfl, _, rfl, _, _, rfl, ?_⟩
        exact ⟨v1, v2, t1, t2, word, b, a, other, one, rfl, s6, h1, h2, c1, c2, d1, d2, d3, d4, hb, ha⟩
      · exact ⟨v1, v2, t1, t2, word, a, b, one, other, rfl, s6, h1, h2, c1, c2, d1, d2, d3, d4, ha, hb⟩
    clear cs0
    intro σ H6 cs0
    refine ⟨Cs K H5 R B c x (c / 3 % 8) true true, ?_, ?_⟩
    · obtain ⟨v1, v2, t1, t2, word, a, b, one, other, rfl, s6, h1, h2, c1, c2, d1, d2, d3, d4, ha, hb⟩ := cs0
      refine ⟨_, rfl, rfl, _, rfl, ?_⟩
      refine ite2 (fun _ => ?_) (fun _ => ?_)
      rotate_left
      · exact ⟨v1, v2, t1, t2, word, a, b, one, other, rfl, s6, h1, h2, c1, c2, d1, d2, d3, d4, ha, hb⟩
      refine ⟨_, rfl, R, rs, rules, rfl, s6.seq hR, hrl.same s6, hsm, fun D zs H7 t7 eD l3 l100 => ?_⟩
      obtain ⟨z, ez⟩ : ∃ z, zs[0]? = some z := ⟨zs[0]'(by omega), List.getElem?_eq_getElem (by omega)⟩
      refine ⟨D, _, _, .str z, rfl, rfl, SqL.of eD, atI_nat (j := 0) (by rw [List.getElem?_map, ez]; rfl), (by show 2 ≤ sizeLine; decide), fun a1 f1 => ?_⟩
      have k1 := same_laid f1 (.tup [.str "step", .str z])
      have q1 : EvV K (upd H7 a1 (.tup [.str "step", .str z])) a1 (.step z) := SqT.of upd_same
      generalize upd H7 a1 (.tup [.str "step", .str z]) = H8 at k1 q1
      refine ⟨(by show 2 ≤ sizeLine; decide), fun a2 f2 => ?_⟩
      have k2 := same_laid f2 (.tup [.str "make", .int 0])
      have q2 : EvV K (upd H8 a2 (.tup [.str "make", .int 0])) a2 (.make 0) := SqT.of upd_same
      generalize upd H8 a2 (.tup [.str "make", .int 0]) = H9 at k2 q2
      refine ⟨(by show 2 ≤ sizeLine; decide), fun a3 f3 => ?_⟩
      have k3 := same_laid f3 (.tup [.str "make", .int 1])
      have q3 : EvV K (upd H9 a3 (.tup [.str "make", .int 1])) a3 (.make 1) := SqT.of upd_same
      generalize upd H9 a3 (.tup [.str "make", .int 1]) = H10 at k3 q3
      refine ⟨(by show 1 ≤ sizeLine; decide), fun a4 f4 => ?_⟩
      have k4 := same_laid f4 (.tup [.str "done"])
      have q4 : EvV K (upd H10 a4 (.tup [.str "done"])) a4 .done := SqT.of upd_same
      generalize upd H10 a4 (.tup [.str "done"]) = H11 at k4 q4
      refine ⟨(by show 4 ≤ sizeLine; decide), fun Y hY => ?_⟩
      have k5 := same_laid hY (.lst [.ref a1, .ref a2, .ref a3, .ref a4])
      have eY : upd H11 Y (.lst [.ref a1, .ref a2, .ref a3, .ref a4]) Y = some (.lst [.ref a1, .ref a2, .ref a3, .ref a4]) := upd_same
      generalize upd H11 Y (.lst [.ref a1, .ref a2, .ref a3, .ref a4]) = H12 at k5 eY
      have kk := t7.trans (k1.trans (k2.trans (k3.trans (k4.trans k5))))
      obtain ⟨an, en, atn, hn⟩ : ∃ an en, atI [V.ref a1, V.ref a2, V.ref a3, V.ref a4] (c / 24 % 4) = some (.ref an) ∧ EvV K H12 an en := by
        rcases hw4 with h | h | h | h
        · exact ⟨a1, _, by rw [h]; rfl, (k2.trans (k3.trans (k4.trans k5))).tup q1⟩
        · exact ⟨a2, _, by rw [h]; rfl, (k3.trans (k4.trans k5)).tup q2⟩
        · exact ⟨a3, _, by rw [h]; rfl, (k4.trans k5).tup q3⟩
        · exact ⟨a4, _, by rw [h]; rfl, k5.tup q4⟩
      refine ⟨_, rfl, _, _, rfl, rfl, ⟨by decide, by decide⟩, _, _, rfl, rfl, (by show (0 : Int) < 4; decide), Y, _, _, _, rfl, rfl, SqL.of eY, atn, ?_⟩
      exact ⟨v1, v2, t1, t2, word, an, b, en, other, rfl, s6.trans kk, TrV.keep (fun _ _ z => kk.tup z) t1 h1, TrV.keep (fun _ _ z => kk.tup z) t2 h2, c1, c2, d1, d2, d3, d4, hn, kk.tup hb⟩
    clear cs0
    intro σ H6 cs0
    refine ⟨Cs K H5 R B c x (c / 3 % 8) true true, ?_, ?_⟩
    · obtain ⟨v1, v2, t1, t2, word, a, b, one, other, rfl, s6, h1, h2, c1, c2, d1, d2, d3, d4, ha, hb⟩ := cs0
      refine ⟨_, rfl, rfl, _, rfl, ?_⟩
      refine ite2 (fun _ => ?_) (fun _ => ?_)
      rotate_left
      · exact ⟨v1, v2, t1, t2, word, a, b, one, other, rfl, s6, h1, h2, c1, c2, d1, d2, d3, d4, ha, hb⟩
      refine ⟨_, rfl, R, rs, rules, rfl, s6.seq hR, hrl.same s6, hsm, fun D zs H7 t7 eD l3 l100 => ?_⟩
      obtain ⟨z, ez⟩ : ∃ z, zs[1]? = some z := ⟨zs[1]'(by omega), List.getElem?_eq_getElem (by omega)⟩
      refine ⟨D, _, _, .str z, rfl, rfl, SqL.of eD, atI_nat (j := 1) (by rw [List.getElem?_map, ez]; rfl), (by show 2 ≤ sizeLine; decide), fun a1 f1 => ?_⟩
      have k1 := same_laid f1 (.tup [.str "step", .str z])
      have q1 : EvV K (upd H7 a1 (.tup [.str "step", .str z])) a1 (.step z) := SqT.of upd_same
      generalize upd H7 a1 (.tup [.str "step", .str z]) = H8 at k1 q1
      refine ⟨(by show 2 ≤ sizeLine; decide), fun a2 f2 => ?_⟩
      have k2 := same_laid f2 (.tup [.str "make", .int 0])
      have q2 : EvV K (upd H8 a2 (.tup [.str "make", .int 0])) a2 (.make 0) := SqT.of upd_same
      generalize upd H8 a2 (.tup [.str "make", .int 0]) = H9 at k2 q2
      refine ⟨(by show 2 ≤ sizeLine; decide), fun a3 f3 => ?_⟩
      have k3 := same_laid f3 (.tup [.str "make", .int 1])
      have q3 : EvV K (upd H9 a3 (.tup [.str "make", .int 1])) a3 (.make 1) := SqT.of upd_same
      generalize upd H9 a3 (.tup [.str "make", .int 1]) = H10 at k3 q3
      refine ⟨(by show 1 ≤ sizeLine; decide), fun a4 f4 => ?_⟩
      have k4 := same_laid f4 (.tup [.str "done"])
      have q4 : EvV K (upd H10 a4 (.tup [.str "done"])) a4 .done := SqT.of upd_same
      generalize upd H10 a4 (.tup [.str "done"]) = H11 at k4 q4
      refine ⟨(by show 4 ≤ sizeLine; decide), fun Y hY => ?_⟩
      have k5 := same_laid hY (.lst [.ref a1, .ref a2, .ref a3, .ref a4])
      have eY : upd H11 Y (.lst [.ref a1, .ref a2, .ref a3, .ref a4]) Y = some (.lst [.ref a1, .ref a2, .ref a3, .ref a4]) := upd_same
      generalize upd H11 Y (.lst [.ref a1, .ref a2, .ref a3, .ref a4]) = H12 at k5 eY
      have kk := t7.trans (k1.trans (k2.trans (k3.trans (k4.trans k5))))
      obtain ⟨an, en, atn, hn⟩ : ∃ an en, atI [V.ref a1, V.ref a2, V.ref a3, V.ref a4] (c / 24 % 4) = some (.ref an) ∧ EvV K H12 an en := by
        rcases hw4 with h | h | h | h
        · exact ⟨a1, _, by rw [h]; rfl, (k2.trans (k3.trans (k4.trans k5))).tup q1⟩
        · exact ⟨a2, _, by rw [h]; rfl, (k3.trans (k4.trans k5)).tup q2⟩
        · exact ⟨a3, _, by rw [h]; rfl, (k4.trans k5).tup q3⟩
        · exact ⟨a4, _, by rw [h]; rfl, k5.tup q4⟩
      refine ⟨_, rfl, _, _, rfl, rfl, ⟨by decide, by decide⟩, _, _, rfl, rfl, (by show (0 : Int) < 4; decide), Y, _, _, _, rfl, rfl, SqL.of eY, atn, ?_⟩
      exact ⟨v1, v2, t1, t2, word, a, an, one, en, rfl, s6.trans kk, TrV.keep (fun _ _ z => kk.tup z) t1 h1, TrV.keep (fun _ _ z => kk.tup z) t2 h2, c1, c2, d1, d2, d3, d4, kk.tup ha, hn⟩
    clear cs0
    intro σ H6 cs0
    refine ⟨Cs K H5 R B c x (c / 3 % 8) false true, ?_, ?_⟩
    · obtain ⟨v1, v2, t1, t2, word, a, b, one, other, rfl, s6, h1, h2, c1, c2, d1, d2, d3, d4, ha, hb⟩ := cs0
      refine ⟨_, rfl, rfl, _, rfl, ?_⟩
      refine ite2 (fun _ => ?_) (fun _ => ?_)
      · have z1 := d3 rfl
        refine ⟨_, rfl, _, rfl, _, _, rfl, rfl, ⟨by decide, by decide⟩, v1, t1, _, rfl, h1, (c1 rfl).1, (c1 rfl).2, by omega, fun v' t' H7 s7 h7 z7 => ?_⟩
        exact ⟨v', v2, t', t2, word, a, b, one, other, rfl, s6.trans s7, h7, TrV.keep (fun _ _ z => s7.tup z) t2 h2, fun z => (by cases z), c2, by omega, d2, fun z => (by cases z), d4, s7.tup ha, s7.tup hb⟩
      · exact ⟨v1, v2, t1, t2, word, a, b, one, other, rfl, s6, h1, h2, fun z => (by cases z), c2, d1, d2, fun z => (by cases z), d4, ha, hb⟩
    clear cs0
    intro σ H6 cs0
    refine ⟨Cs K H5 R B c x (c / 3 % 8) false false, ?_, ?_⟩
    · obtain ⟨v1, v2, t1, t2, word, a, b, one, other, rfl, s6, h1, h2, c1, c2, d1, d2, d3, d4, ha, hb⟩ := cs0
      refine ⟨_, rfl, rfl, _, rfl, ?_⟩
      refine ite2 (fun _ => ?_) (fun _ => ?_)
      · have z1 := d4 rfl
        refine ⟨_, rfl, _, rfl, _, _, rfl, rfl, ⟨by decide, by decide⟩, v2, t2, _, rfl, h2, (c2 rfl).1, (c2 rfl).2, by omega, fun v' t' H7 s7 h7 z7 => ?_⟩
        exact ⟨v1, v', t1, t', word, a, b, one, other, rfl, s6.trans s7, TrV.keep (fun _ _ z => s7.tup z) t1 h1, h7, fun z => (by cases z), fun z => (by cases z), d1, by omega, fun z => (by cases z), fun z => (by cases z), s7.tup ha, s7.tup hb⟩
      · exact ⟨v1, v2, t1, t2, word, a, b, one, other, rfl, s6, h1, h2, fun z => (by cases z), fun z => (by cases z), d1, d2, fun z => (by cases z), fun z => (by cases z), ha, hb⟩
    clear cs0
    rintro σ H6 ⟨v1, v2, t1, t2, word, a, b, one, other, rfl, s6, h1, h2, c1, c2, d1, d2, d3, d4, ha, hb⟩
    refine ⟨_, rfl, _, rfl, (by show 2 ≤ sizeLine; decide), fun p hp => ?_⟩
    have k7 := same_laid hp (.tup [v1, v2])
    have vp : SqT K (upd H6 p (.tup [v1, v2])) p [v1, v2] := SqT.of upd_same
    generalize upd H6 p (.tup [v1, v2]) = H7 at k7 vp
    refine ⟨_, rfl, _, rfl, _, rfl, (by show 4 ≤ sizeLine; decide), fun T0 hT0 => ?_⟩
    have k8 := same_laid hT0 (.tup [.ref p, .str word, .ref a, .ref b])
    have kk := k7.trans k8
    exact q T0 p a b v1 v2 t1 t2 word one other _ (s6.trans kk) (SqT.of upd_same) (k8.tup vp) (TrV.keep (fun _ _ z => kk.tup z) t1 h1) (TrV.keep (fun _ _ z => kk.tup z) t2 h2) d1 d2 (kk.tup ha) (kk.tup hb)
end
end J9
namespace J9
open PySem L2 M11 K11
noncomputable def isB (rules : List Rule) (t : Tr) (x : Str) : Bool := @decide (Is rules t x) (Classical.propDecidable _)
theorem isB_iff {rules : List Rule} {t : Tr} {x : Str} : isB rules t x = true ↔ Is rules t x := by
  unfold isB
  exact @decide_eq_true_iff _ (Classical.propDecidable _)
def dif (es es' : List Ev) (k : Nat) : Bool := match es[k]?, es'[k]? with
  | some d, some e => !evEq d e
  | _, _ => false
def difs (es es' : List Ev) (i : Nat) : List Nat := (List.range i).filter (dif es es')
theorem difs_succ {es es' : List Ev} {i : Nat} : difs es es' (i + 1) = difs es es' i ++ (if dif es es' i = true then [i] else []) := by
  unfold difs
  rw [List.range_succ, List.filter_append, List.filter_cons, List.filter_nil]
theorem difs_len (es es' : List Ev) (i : Nat) : (difs es es' i).length ≤ i := by
  unfold difs
  exact Nat.le_trans (List.length_filter_le _ _) (by rw [List.length_range]; exact Nat.le_refl _)
theorem dif_eq {es es' : List Ev} {j : Nat} (h : dif es es' j = false) (hj : j < min es.length es'.length) : es[j]? = es'[j]? := by
  have e1 : es[j]? = some (es[j]'(by omega)) := List.getElem?_eq_getElem (by omega)
  have e2 : es'[j]? = some (es'[j]'(by omega)) := List.getElem?_eq_getElem (by omega)
  unfold dif at h
  rw [e1, e2] at h
  have h : (!evEq (es[j]'(by omega)) (es'[j]'(by omega))) = false := h
  have h2 : es[j]'(by omega) = es'[j]'(by omega) := ev_iff.mp (by simpa using h)
  rw [e1, e2, h2]
theorem difs_nil {es es' : List Ev} {m : Nat} (h : difs es es' m = []) : ∀ j, j < m → dif es es' j = false := fun j hj => by
  cases c : dif es es' j with
  | false => rfl
  | true =>
    have : j ∈ difs es es' m := List.mem_filter.mpr ⟨List.mem_range.mpr hj, c⟩
    rw [h] at this
    cases this
theorem difs_cons {es es' : List Ev} : ∀ {m k : Nat} {r : List Nat}, difs es es' m = k :: r → k < m ∧ dif es es' k = true ∧ ∀ j, j < k → dif es es' j = false
  | 0, k, r, h => by cases h
  | m + 1, k, r, h => by
    rw [difs_succ] at h
    cases c : difs es es' m with
    | nil =>
      rw [c, List.nil_append] at h
      by_cases d : dif es es' m = true
      · rw [if_pos d] at h
        cases h
        exact ⟨Nat.lt_succ_self _, d, difs_nil c⟩
      · rw [if_neg d] at h
        cases h
    | cons k2 r2 =>
      rw [c, List.cons_append] at h
      cases h
      obtain ⟨h1, h2, h3⟩ := difs_cons c
      exact ⟨Nat.lt_succ_of_lt h1, h2, h3⟩
section
variable {P : Program} {w : World} {K : PySem.W.Frag} {mg : Str → Option Value} {base : Heap} {f : Addr} {fd : FuncData}
theorem scPaper : FnScope ["rules", "paper", "word", "one", "other", "deeds", "others", "apart"] ["rules", "paper", "word", "one", "other"] (defScope sPaper) := ⟨rfl, rfl, rfl, by decide +kernel, rfl, by decide +kernel, by decide +kernel⟩
theorem ok_paper (F : Fun K "paper_stands" "paper_stands" sPaper f fd) (T : Txt mg) (GS : CalleeD P w K mg base 4 "tree_stands" ["rules", "tree", "name"] (spStand K)) (GD : CalleeD P w K mg base 4 "deeds_of_tree" ["tree"] (spDeeds K)) (GO : CalleeD P w K mg base 4 "is_told" ["deed", "told"] (spTold K)) (GN : CalleeD P w K mg base 4 "next_word" ["deeds", "at"] (spNextW K)) : FnOk P w K mg base CX0 5 f fd ["rules", "paper", "word", "one", "other"] (spIsPaper K) := by
  refine F.ok scPaper (fun vs H Q E h => ?_) (fun cdv A outer s H vs Q E hr h => ?_)
  · obtain ⟨R, p, a, b, rs, rules, ru0, v1, v2, t1, t2, word, one, other, r, rfl, _⟩ := h; rfl
  · obtain ⟨R, p, a, b, rs, rules, ru0, v1, v2, t1, t2, word, one, other, r, rfl, hR, hrl, hlen, hr0, hp, h1, h2, z1, z2, ha, hb, hrr, q⟩ := h
    have hu := hu_of hr
    have hu0 := Nat.lt_of_succ_lt hu
    refine ⟨_, pss_cons (ps_if (PW.pt (pw_or (pt_not (pt_truth (pv 0) (fun _ => rfl))) (pw_or1 (pt_not (pt_val (pe_callB (call_allB rfl) rfl T.all boot_all (pa_cons (pe_compG ["tree"] [(0, "rules")] rfl (pi_tup (pv 1)) (caps_of rfl rfl) (by decide +kernel) rfl (by decide +kernel)
          (fun _ _ _ _ _ => pg_name (i := 0) (show (["tree", "rules"] : List Str).Nodup by decide +kernel) rfl (Or.inl rfl)) (fun _ _ _ _ _ => pif_nil)
          (fun _ _ _ _ _ => pe_fn GS hr rfl (pa_cons (pv 1) (pa_cons (pv 0) (pa_cons (pe_ix (ix_tupK K) (pe_ix (ix_listK K) (pv 1) pe_int (fun _ _ => rfl)) pe_int (fun _ _ => rfl)) pa_nil))))) pa_nil))))))) (pss_one (ps_ret pe_bl)) pss_nil)
      (pss_cons (ps_set (i := 5) scPaper.nd rfl (Or.inl rfl) (pe_fn GD hr rfl (pa_cons (pe_ix ix_tup (pv 1) pe_int (fun _ _ => rfl)) pa_nil)))
      (pss_cons (ps_set (i := 6) scPaper.nd rfl (Or.inl rfl) (pe_fn GD hr rfl (pa_cons (pe_ix ix_tup (pv 1) pe_int (fun _ _ => rfl)) pa_nil)))
      (pss_cons (ps_setC (iy := 7) ["at", "pair"] [] scPaper.nd rfl rfl rfl (pi_enumZ rfl T.enu rfl T.zip (pa_cons (pv 5) (pa_cons (pv 6) pa_nil))) (caps_of rfl rfl) (by decide +kernel) rfl (by decide +kernel)
          (fun _ _ _ _ _ => pg_tupK (n := 2) K rfl (pgs_cons (pg_name (i := 0) (show (["at", "pair"] : List Str).Nodup by decide +kernel) rfl (Or.inl rfl)) (pgs_cons (pg_name (i := 1) (show (["at", "pair"] : List Str).Nodup by decide +kernel) rfl (Or.inl rfl)) pgs_nil)))
          (fun _ _ _ _ _ => pif_one (pt_cmpR (op_neTTK K hu0) (pe_ix (ix_tupK K) (pv 1) pe_int (fun _ _ => rfl)) (pe_ix (ix_tupK K) (pv 1) pe_int (fun _ _ => rfl)) (nomark _))) (fun _ _ _ _ _ => pv 0))
      (pss_cons (ps_if (PW.pt (pw_or (pt_not (pt_truth (pv 7) (fun _ => rfl))) (pw_or (pt_not (pt_val (pe_fn GO hr rfl (pa_cons (pe_ix ix_list (pv 5) (pe_ix ix_list (pv 7) pe_int (fun _ _ => rfl)) (fun _ _ => rfl)) (pa_cons (pv 3) pa_nil))))) (pw_or1 (pt_not (pt_val (pe_fn GO hr rfl (pa_cons (pe_ix ix_list (pv 6) (pe_ix ix_list (pv 7) pe_int (fun _ _ => rfl)) (fun _ _ => rfl)) (pa_cons (pv 4) pa_nil))))))))) (pss_one (ps_ret pe_bl)) pss_nil)
      (pss_one (ps_ret (pe_and (pe_cmpR op_eq (pe_fn GN hr rfl (pa_cons (pv 5) (pa_cons (pe_ix ix_list (pv 7) pe_int (fun _ _ => rfl)) pa_nil))) (pv 2) (nomark _)) (pe_one (pe_cmpR op_eq (pe_fn GN hr rfl (pa_cons (pv 6) (pa_cons (pe_ix ix_list (pv 7) pe_int (fun _ _ => rfl)) pa_nil))) (pv 2) (nomark _)))))))))), ?_⟩
    have ll := Paired.length hrl
    have l0 := (List.getElem?_eq_some_iff.mp hr0).1
    obtain ⟨r0, er0, p0, w1, w2⟩ := Paired.at_ hrl 0 ru0 hr0
    have at0 : atI (rs.map V.ref) 0 = some (.ref r0) := atI_nat (j := 0) (by rw [List.getElem?_map, er0]; rfl)
    have hx0 : ru0.1 ∈ hd rules := hd_mem.mpr ⟨ru0, List.mem_of_getElem? hr0, rfl⟩
    have eR : (rs.map V.ref).isEmpty = false := by
      cases rs with
      | nil => simp at ll; omega
      | cons a r => rfl
    refine ⟨_, rfl, true, .inl ⟨_, hR, by rw [eR]; rfl⟩, ?_⟩
    refine iteF ?_
    have pvt : Paired (fun v t => TrV K H t v) [v1, v2] [t1, t2] := .cons h1 (.cons h2 .nil)
    have szt : ∀ t ∈ [t1, t2], sz t ≤ 900000 := fun t ht => by
      rcases List.mem_cons.mp ht with rfl | ht
      · exact z1
      · rw [List.mem_singleton.mp ht]; exact z2
    refine ⟨_, rfl, p, rfl, ⟨_, hp⟩, fun D hD => compG_tup (xs := [v1, v2]) (fun i zs σ2 H2 => zs = ([t1, t2].take i).map (fun t => V.bl (isB rules t ru0.1)) ∧ (∃ y0, σ2 = [y0, some (.ref R)]) ∧ Same H H2 ∧ H2 D = some (.lst zs)) ⟨rfl, ⟨none, rfl⟩, same_laid hD _, upd_same⟩ (fun i zs σ2 H2 _ h => ?_) (fun i x zs σ2 H2 ex h => ?_) (fun zs σ2 H2 h => ?_)⟩
    · obtain ⟨_, _, sm, _⟩ := h
      exact sm.tup hp
    · obtain ⟨rfl, ⟨y0, rfl⟩, sm, eD⟩ := h
      have li := (List.getElem?_eq_some_iff.mp ex).1
      obtain ⟨t, et⟩ : ∃ t, [t1, t2][i]? = some t := ⟨[t1, t2][i]'(show i < [t1, t2].length from li), List.getElem?_eq_getElem (l := [t1, t2]) (show i < [t1, t2].length from li)⟩
      obtain ⟨x', ex', hx'⟩ := Paired.at_ pvt i t et
      rw [ex] at ex'
      cases ex'
      refine goN ?_
      refine goT ?_
      refine ⟨_, rfl, _, rfl, _, rfl, R, _, _, _, rfl, rfl, sm.seq hR, at0, r0, _, _, _, rfl, rfl, sm.tup w1, rfl, R, rs, rules, x, t, ru0.1, isB rules t ru0.1, rfl, sm.seq hR, hrl.same sm, hlen, TrV.keep (fun _ _ z => sm.tup z) t hx', Nat.le_trans (szt t (List.mem_of_getElem? et)) (by decide), hx0, isB_iff, fun H3 s3 => ?_⟩
      refine ⟨s3 _ _ eD, fits' (by rw [List.length_map, List.length_take]; show min i 2 ≤ _; omega), ?_, ⟨_, rfl⟩, fun b o hb => ?_, upd_same⟩
      · rw [List.take_add_one, et, List.map_append]
        rfl
      · rw [upd_ne (fun z => by rw [z, hD] at hb; cases hb)]
        exact s3 _ _ (sm b o hb)
    obtain ⟨rfl, _, s2, eD⟩ := h
    refine ⟨D, [isB rules t1 ru0.1, isB rules t2 ru0.1], rfl, SqL.of (by rw [eD]; rfl), _, rfl, ?_⟩
    by_cases c1 : Is rules t1 ru0.1
    rotate_left
    · have e1 : isB rules t1 ru0.1 = false := bool_no isB_iff c1
      rw [e1]
      refine iteT ?_
      rw [bool_no hrr (fun z => c1 z.1)] at q
      exact q H2 s2
    by_cases c2 : Is rules t2 ru0.1
    rotate_left
    · have e1 : isB rules t1 ru0.1 = true := isB_iff.mpr c1
      have e2 : isB rules t2 ru0.1 = false := bool_no isB_iff c2
      rw [e1, e2]
      refine iteT ?_
      rw [bool_no hrr (fun z => c2 z.2.1)] at q
      exact q H2 s2
    rw [isB_iff.mpr c1, isB_iff.mpr c2]
    refine iteF ?_
    have hrp : r = true ↔ Pp (evs t1) (evs t2) word one other := hrr.trans ⟨fun z => z.2.2, fun z => ⟨c1, c2, z⟩⟩
    refine ⟨_, rfl, p, _, _, _, rfl, rfl, s2.tup hp, rfl, v1, t1, rfl, TrV.keep (fun _ _ z => s2.tup z) t1 h1, z1, fun D1 as1' a1' H3 f1 s3 e1 pd1 dn1 => ?_⟩
    refine goN ?_
    have p1 := evs_of pd1 dn1
    generalize as1' ++ [a1'] = as1 at e1 p1
    have s03 := s2.trans s3
    refine ⟨_, rfl, p, _, _, _, rfl, rfl, s03.tup hp, rfl, v2, t2, rfl, TrV.keep (fun _ _ z => s03.tup z) t2 h2, z2, fun D2 as2' a2' H4 f2 s4 e2 pd2 dn2 => ?_⟩
    refine goN ?_
    have p2 := evs_of pd2 dn2
    generalize as2' ++ [a2'] = as2 at e2 p2
    have s04 := s03.trans s4
    have e12 := s4 _ _ e1
    have p12 := p1.same s4
    have l1 := Paired.length p12
    have l2 := Paired.length p2
    have n1 := evs_len t1
    have n2 := evs_len t2
    refine ⟨_, rfl, _, rfl, D1, D2, _, _, rfl, SqL.of e12, SqL.of e2, fun D3 hD3 => compG_enumZ (xs := as1.map V.ref) (ys := as2.map V.ref) (fun i zs σ2 HA => zs = (difs (evs t1) (evs t2) i).map (fun k : Nat => V.int (k : Int)) ∧ (∃ y0 y1, σ2 = [y0, y1]) ∧ Same H4 HA ∧ HA D3 = some (.lst zs)) ⟨rfl, ⟨none, none, rfl⟩, same_laid hD3 _, upd_same⟩ (fun i zs σ2 HA _ h => ?_) (fun i x y zs σ2 HA t u ex ey h ht hu nut => ?_) (fun zs σ2 HA h => ?_)⟩
    · obtain ⟨_, _, sA, _⟩ := h
      exact ⟨SqL.of (sA _ _ e12), SqL.of (sA _ _ e2)⟩
    · obtain ⟨rfl, ⟨y0, y1, rfl⟩, sA, eA⟩ := h
      rw [List.getElem?_map] at ex ey
      obtain ⟨ad, ead, rfl⟩ := Option.map_eq_some_iff.mp ex
      obtain ⟨bd, ebd, rfl⟩ := Option.map_eq_some_iff.mp ey
      have li1 := (List.getElem?_eq_some_iff.mp ead).1
      have li2 := (List.getElem?_eq_some_iff.mp ebd).1
      obtain ⟨a1, d, ea, ed, va, _⟩ := ev_at p12 (i := i) (by omega)
      obtain ⟨b1, e, eb, ee, vb, _⟩ := ev_at p2 (i := i) (by omega)
      rw [ead] at ea
      rw [ebd] at eb
      cases ea
      cases eb
      have kB := (same_laid ht (.tup [.ref ad, .ref bd])).trans (same_laid (show upd HA t (.tup [.ref ad, .ref bd]) u = none by rw [upd_ne nut]; exact hu) (.tup [.int (i : Int), .ref t]))
      have vt : SqT K (upd (upd HA t (.tup [.ref ad, .ref bd])) u (.tup [.int (i : Int), .ref t])) t [.ref ad, .ref bd] := SqT.of (by rw [upd_ne (Ne.symm nut)]; exact upd_same)
      have vu : SqT K (upd (upd HA t (.tup [.ref ad, .ref bd])) u (.tup [.int (i : Int), .ref t])) u [.int (i : Int), .ref t] := SqT.of upd_same
      generalize upd (upd HA t (.tup [.ref ad, .ref bd])) u (.tup [.int (i : Int), .ref t]) = HB at kB vt vu
      have sB := sA.trans kB
      have eB := kB _ _ eA
      have dl := difs_len (evs t1) (evs t2) i
      have hd : dif (evs t1) (evs t2) i = !evEq d e := by unfold dif; rw [ed, ee]
      refine ⟨u, _, rfl, vu, rfl, _, _, rfl, _, _, rfl, rfl, ?_⟩
      refine ⟨_, rfl, t, _, _, _, rfl, rfl, vt, rfl, _, rfl, t, _, _, _, rfl, rfl, vt, rfl, ad, bd, _, _, rfl, rfl, sB.tup va, sB.tup vb, ev_flat d, ev_flat e, _, rfl, ?_⟩
      show if (!evEq d e) = true then _ else _
      refine ite2 (fun cc => ?_) (fun cc => ?_)
      · rw [difs_succ, hd, if_pos cc, List.map_append]
        refine ⟨_, rfl, eB, fits' (by rw [List.length_map]; omega), rfl, ⟨_, _, rfl⟩, ?_, upd_same⟩
        intro b o hb
        rw [upd_ne (fun z => by rw [z, hD3] at hb; cases hb)]
        exact sB b o hb
      · rw [difs_succ, hd, if_neg cc, List.append_nil]
        exact ⟨rfl, ⟨_, _, rfl⟩, sB, eB⟩
    obtain ⟨rfl, _, sA, eA⟩ := h
    rw [List.length_map, List.length_map, l1, l2] at eA
    refine goN ?_
    have s0A := s04.trans sA
    cases hdf : difs (evs t1) (evs t2) (min (evs t1).length (evs t2).length) with
    | nil =>
      rw [hdf] at eA
      refine ⟨_, rfl, false, .inl ⟨_, SqL.of eA, rfl⟩, ?_⟩
      refine iteT ?_
      refine iteT ?_
      have hno := pp_no (word := word) (one := one) (other := other) rfl fun j hj => dif_eq (difs_nil hdf j hj) hj
      rw [bool_no hrp hno] at q
      exact q HA s0A
    | cons k rr =>
      rw [hdf] at eA
      obtain ⟨hk, hdk, hpre⟩ := difs_cons hdf
      refine ⟨_, rfl, true, .inl ⟨_, SqL.of eA, rfl⟩, ?_⟩
      refine iteF ?_
      obtain ⟨a1, d, ea, ed, va, ata⟩ := ev_at p12 (i := k) (by omega)
      obtain ⟨b1, e, eb, ee, vb, atb⟩ := ev_at p2 (i := k) (by omega)
      rw [Int.zero_add] at ata atb
      have nde : d ≠ e := by
        unfold dif at hdk
        rw [ed, ee] at hdk
        have hdk : (!evEq d e) = true := hdk
        exact ev_ne.mp (by simpa using hdk)
      have hpa := hrp.trans (pp_at (word := word) (one := one) (other := other) ed ee nde fun j hj => dif_eq (hpre j hj) (by omega))
      have atk : atI (V.int (k : Int) :: rr.map (fun k : Nat => V.int (k : Int))) 0 = some (.int (k : Int)) := atI_nat (j := 0) rfl
      have eA : HA D3 = some (.lst (V.int (k : Int) :: rr.map (fun k : Nat => V.int (k : Int)))) := eA
      have e1A := sA _ _ e12
      have e2A := sA _ _ e2
      refine ⟨_, rfl, _, rfl, D3, _, _, _, rfl, rfl, SqL.of eA, atk, D1, _, _, _, rfl, rfl, SqL.of e1A, ata, _, rfl, a1, a, d, one, rfl, sA.tup va, s0A.tup ha, _, rfl, ?_⟩
      cases c3 : evEq d one with
      | false =>
        refine iteT ?_
        refine iteT ?_
        rw [bool_no hpa (fun z => ev_ne.mp c3 z.2.1)] at q
        exact q HA s0A
      | true =>
        refine iteF ?_
        refine ⟨_, rfl, _, rfl, D3, _, _, _, rfl, rfl, SqL.of eA, atk, D2, _, _, _, rfl, rfl, SqL.of e2A, atb, _, rfl, b1, b, e, other, rfl, sA.tup vb, s0A.tup hb, _, rfl, ?_⟩
        cases c4 : evEq e other with
        | false =>
          refine iteT ?_
          rw [bool_no hpa (fun z => ev_ne.mp c4 z.2.2)] at q
          exact q HA s0A
        | true =>
          refine iteF ?_
          refine ⟨_, rfl, _, rfl, D3, _, _, _, rfl, rfl, SqL.of eA, atk, D1, as1, _, k, rfl, SqL.of e1A, p12.same sA, by omega, fun H5 s5 => ?_⟩
          have s05 := s0A.trans s5
          refine ⟨_, rfl, rfl, _, rfl, ?_⟩
          refine ite2 (fun c5 => ?_) (fun c5 => ?_)
          · have c5' : nextW ((evs t1).drop k) = word := by simpa using c5
            refine ⟨_, rfl, _, rfl, D3, _, _, _, rfl, rfl, SqL.of (s5 _ _ eA), atk, D2, as2, _, k, rfl, SqL.of (s5 _ _ e2A), (p2.same sA).same s5, by omega, fun H6 s6 => ?_⟩
            refine ⟨_, rfl, rfl, ?_⟩
            have : decide (V.str (nextW ((evs t2).drop k)) = V.str word) = r := bool_of (p := (nextW ((evs t1).drop k) = word ∧ nextW ((evs t2).drop k) = word) ∧ d = one ∧ e = other) (decide_eq_true_iff.trans ⟨fun z => ⟨⟨c5', by cases z; rfl⟩, ev_iff.mp c3, ev_iff.mp c4⟩, fun z => by rw [z.1.2]⟩) hpa
            rw [this]
            exact q H6 (s05.trans s6)
          · have c5' : ¬ nextW ((evs t1).drop k) = word := by simpa using c5
            rw [bool_no hpa (fun z => c5' z.1.1)] at q
            exact q H5 s05
end
end J9
namespace J9
open PySem L2 M11 K11
section
variable {P : Program} {w : World} {K : PySem.W.Frag} {mg : Str → Option Value} {base : Heap} {f : Addr} {fd : FuncData}
def spLaw (K : PySem.W.Frag) : Sp := fun vs H Q _ => ∃ (a : Addr) (ns : List Int), vs = [.ref a] ∧ SqL K H a (ns.map V.int) ∧ ns.length ≤ 63 ∧ ∀ H', Q (.bl true) H'
abbrev NLw : List Str := ["_law_script", "_law_rules_here", "_law_best", "_law_k", "_law_cell", "_law_paper", "_law_word", "_law_one", "_law_other", "_law_found"]
theorem scLaw : FnScope NLw ["_law_script"] (defScope sLaw) := ⟨rfl, rfl, rfl, by decide +kernel, rfl, by decide +kernel, by decide +kernel⟩
theorem ok_law (F : Fun K "law" "law" sLaw f fd) (T : Txt mg) (GC : CalleeD P w K mg base 11 "_law_cell_at" ["_law_script", "_law_k"] (spCell K)) (GU : CalleeD P w K mg base 11 "_law_rules" ["_law_script", "_law_at"] (spRules K)) (GR : CalleeD P w K mg base 11 "_law_ranks" ["_law_rules_here"] (spRanks K))
    (GE : CalleeD P w K mg base 11 "_law_case" ["_law_rules_here", "_law_best", "_law_cell"] (spCase K)) (GS : CalleeD P w K mg base 11 "paper_stands" ["rules", "paper", "word", "one", "other"] (spIsPaper K)) (GI : CalleeD P w K mg base 11 "_law_is_paper" ["_law_rules_here", "_law_paper", "_law_word", "_law_one", "_law_other"] (spIsPaper K)) :
    FnOk P w K mg base CX0 12 f fd ["_law_script"] (spLaw K) := by
  refine F.ok scLaw (fun vs H Q E h => ?_) (fun cdv A outer s H vs Q E hr h => ?_)
  · obtain ⟨a, ns, rfl, _⟩ := h; rfl
  · obtain ⟨a, ns, rfl, hS, hl, q⟩ := h
    refine ⟨_, pss_cons (ps_set (i := 1) scLaw.nd rfl (Or.inl rfl) (pe_fn GU hr rfl (pa_cons (pv 0) (pa_cons pe_int pa_nil))))
      (pss_cons (ps_set (i := 2) scLaw.nd rfl (Or.inl rfl) (pe_fn GR hr rfl (pa_cons (pv 1) pa_nil)))
      (pss_cons (ps_for PassesOwn.never rfl (pi_range1 rfl T.rng (pa_cons pe_int pa_nil)) (pg_name (i := 3) scLaw.nd rfl (Or.inl rfl))
        (pss_cons (ps_set (i := 4) scLaw.nd rfl (Or.inl rfl) (pe_op op_add (pe_fn GC hr rfl (pa_cons (pv 0) (pa_cons (pe_op op_add pe_int (pv 3)) pa_nil))) (pv 3)))
        (pss_cons (ps_asg (pe_fn GE hr rfl (pa_cons (pv 1) (pa_cons (pv 2) (pa_cons (pv 4) pa_nil)))) (pg_tupK (n := 4) K rfl (pgs_cons (pg_name (i := 5) scLaw.nd rfl (Or.inl rfl)) (pgs_cons (pg_name (i := 6) scLaw.nd rfl (Or.inl rfl)) (pgs_cons (pg_name (i := 7) scLaw.nd rfl (Or.inl rfl)) (pgs_cons (pg_name (i := 8) scLaw.nd rfl (Or.inl rfl)) pgs_nil))))))
        (pss_cons (ps_set (i := 9) scLaw.nd rfl (Or.inl rfl) (pe_fn GS hr rfl (pa_cons (pe_callTy call_list_of rfl T.lst boot_lst (pa_cons (pv 1) pa_nil)) (pa_cons (pv 5) (pa_cons (pv 6) (pa_cons (pv 7) (pa_cons (pv 8) pa_nil)))))))
        (pss_one (ps_if (PW.pt (pw_or (pt_not (pt_val (pe_callB call_isinst rfl T.isi PyProof.Rows.boot_isinstance (pa_cons (pv 9) (pa_cons (pe_bltn (v := .ty "bool") rfl T.boo PyProof.Rows.boot_bool rfl) pa_nil))))) (pw_or1 (pt_cmpR op_ne (pv 9) (pe_fn GI hr rfl (pa_cons (pv 1) (pa_cons (pv 5) (pa_cons (pv 6) (pa_cons (pv 7) (pa_cons (pv 8) pa_nil)))))) (nomark _))))) (pss_one (ps_ret pe_bl)) pss_nil))))))
      (pss_one (ps_ret pe_bl)))), ?_⟩
    refine ⟨_, rfl, a, ns, 0, rfl, hS, by omega, fun R rs rules H1 s1 eR rl sm he => ?_⟩
    refine goN ?_
    refine ⟨_, rfl, R, rs, rules, rfl, SqL.of eR, rl, sm, fun B b H2 fB s2 eB rk ek hb5 => ?_⟩
    refine goN ?_
    have s02 := s1.trans s2
    have eR2 := s2 _ _ eR
    have rl2 := rl.same s2
    have hky : ∀ z ∈ K11.hd rules, z ∈ kys b := fun z hz => by rw [ek]; exact he z hz
    have ll := Paired.length rl2
    have one := sm.one
    have most := sm.most
    obtain ⟨ru0, e0⟩ : ∃ ru0, rules[0]? = some ru0 := ⟨rules[0]'(by omega), List.getElem?_eq_getElem (by omega)⟩
    clear eR rl s1 s2 fB
    refine ⟨8, rfl, by decide, by decide, for_range (n := 8) (fun i σ H3 => ∃ (y3 y4 y5 y6 y7 y8 y9 : Option V), σ = [some (.ref a), some (.ref R), some (.ref B), y3, y4, y5, y6, y7, y8, y9] ∧ Same H2 H3) ⟨_, _, _, _, _, _, _, rfl, fun _ _ h => h⟩ ?_ ?_⟩
    · rintro i σ H3 hi ⟨y3, y4, y5, y6, y7, y8, y9, rfl, s3⟩
      refine goN ?_
      refine ⟨_, rfl, _, rfl, _, _, rfl, rfl, a, ns, 8 + i, (by show [V.ref a, V.int (8 + (0 + (i : Int)))] = _; congr 3; push_cast; omega), s3.seq (s02.seq hS), by omega, fun c => ?_⟩
      refine ⟨_, rfl, _, _, rfl, rfl, ?_⟩
      refine goN ?_
      refine ⟨_, rfl, _, rfl, _, rfl, R, B, rs, rules, b, _, rfl, SqL.of (s3 _ _ eR2), rl2.same s3, sm, s3 _ _ eB, rk, hky, hb5, fun T0 p a1 b1 v1 v2 t1 t2 word one1 other1 H4 s4 h4 hp h1 h2 z1 z2 ha hb => ?_⟩
      refine ⟨T0, _, rfl, h4, rfl, _, _, rfl, _, _, rfl, _, _, rfl, _, _, rfl, rfl, ?_⟩
      have s24 := s3.trans s4
      refine ⟨_, rfl, R, _, rfl, .inl (SqL.of (s24 _ _ eR2)), fun L hL => ?_⟩
      have k5 := same_laid hL (.lst (rs.map V.ref))
      have eL : upd H4 L (.lst (rs.map V.ref)) L = some (.lst (rs.map V.ref)) := upd_same
      generalize upd H4 L (.lst (rs.map V.ref)) = H5 at k5 eL
      have s25 := s24.trans k5
      have dd := Classical.propDecidable (PaperP rules ru0.1 t1 t2 word one1 other1)
      refine ⟨_, rfl, _, rfl, _, rfl, _, rfl, L, p, a1, b1, rs, rules, ru0, v1, v2, t1, t2, word, one1, other1, @decide _ dd, rfl, SqL.of eL, rl2.same s25, by omega, e0, k5.tup hp, TrV.keep (fun _ _ z => k5.tup z) t1 h1, TrV.keep (fun _ _ z => k5.tup z) t2 h2, by omega, by omega, k5.tup ha, k5.tup hb, decide_eq_true_iff, fun H6 s6 => ?_⟩
      refine goN ?_
      have s46 := k5.trans s6
      have s26 := s24.trans s46
      refine ⟨_, rfl, .bl _, "bool", "bool", true, rfl, .bl _, kit_self, true, rfl, ?_⟩
      refine iteF ?_
      refine ⟨_, rfl, _, rfl, _, rfl, _, rfl, _, rfl, _, rfl, R, p, a1, b1, rs, rules, ru0, v1, v2, t1, t2, word, one1, other1, @decide _ dd, rfl, SqL.of (s26 _ _ eR2), rl2.same s26, by omega, e0, s46.tup hp, TrV.keep (fun _ _ z => s46.tup z) t1 h1, TrV.keep (fun _ _ z => s46.tup z) t2 h2, by omega, by omega, s46.tup ha, s46.tup hb, decide_eq_true_iff, fun H7 s7 => ?_⟩
      refine ⟨rfl, _, rfl, ?_⟩
      rw [decide_eq_true (show V.bl (@decide _ dd) = V.bl (@decide _ dd) from rfl)]
      refine iteF ?_
      exact ⟨_, _, _, _, _, _, _, rfl, s26.trans s7⟩
    · rintro σ H3 ⟨y3, y4, y5, y6, y7, y8, y9, rfl, s3⟩
      exact q H3
end
end J9
namespace L2
open PySem
def HasD (K : PySem.W.Frag) (x : Str) (st : Stmt) : Prop := ∃ (g : Addr) (oc : Value) (od an : Option Addr) (sl : Array (Option Value)) (kV dc pm cd ct : Value), PySem.W.nsIn K mainGlobals x = some (some (.ref g)) ∧
  K.lookup g = some ⟨oc, od, .func (PySem.W.fnOf x x (defArgs st) (defBody st) (defScope st) .none kV dc pm an cd ct), sl⟩ ∧ PySem.W.codeIn K cd x = true ∧ PySem.W.keepIn K (.ref g) = true
theorem HasD.get {K : PySem.W.Frag} {h : Heap} {mg : Str → Option Value} {x : Str} {st : Stmt} (X : K.In h) (G : h.Ns mainGlobals mg) (H : HasD K x st) : ∃ g gd, Fun K x x st g gd ∧ mg x = some (.ref g) := by
  obtain ⟨g, oc, od, an, sl, kV, dc, pm, cd, ct, a, l, c, k⟩ := H
  exact ⟨g, _, fun_mk (st := st) l c k, PySem.W.mg_of X G a⟩
end L2
namespace J9
open PySem L2 M11 K11
structure Top (K : PySem.W.Frag) : Prop where
  h_heads_of : HasD K "heads_of" sHeads
  h_is_number_below : HasD K "is_number_below" sBelow
  h_is_rule_of : HasD K "is_rule_of" sRuleOf
  h_is_top_of : HasD K "is_top_of" sTop
  h_tree_stands : HasD K "tree_stands" sStand
  h_deeds_of_tree : HasD K "deeds_of_tree" sDeeds
  h_is_told : HasD K "is_told" sTold
  h_next_word : HasD K "next_word" sNextW
  h_paper_stands : HasD K "paper_stands" sPaper
  h__law_cell_at : HasD K "_law_cell_at" sCell
  h__law_part : HasD K "_law_part" sPart
  h__law_digits : HasD K "_law_digits" sDigits
  h__law_pool : HasD K "_law_pool" sPool
  h__law_words_in : HasD K "_law_words_in" sWordsIn
  h__law_free_rules : HasD K "_law_free_rules" sFree
  h__law_made_rules : HasD K "_law_made_rules" sMade
  h__law_ended : HasD K "_law_ended" sEnded
  h__law_good : HasD K "_law_good" sGood
  h__law_rules : HasD K "_law_rules" sRules
  h__law_ranks : HasD K "_law_ranks" sRanks
  h__law_tree : HasD K "_law_tree" sTree
  h__law_deeds : HasD K "_law_deeds" sLDeeds
  h__law_next : HasD K "_law_next" sLNext
  h__law_is_tree : HasD K "_law_is_tree" sIsTree
  h__law_is_paper : HasD K "_law_is_paper" sIsPaper
  h__law_parting : HasD K "_law_parting" sParting
  h__law_bent_tree : HasD K "_law_bent_tree" sBent
  h__law_case : HasD K "_law_case" sCase
  hlaw : HasD K "law" sLaw
  zlen : PySem.W.nsIn K mainGlobals "len" = some none
  zrange : PySem.W.nsIn K mainGlobals "range" = some none
  zisinstance : PySem.W.nsIn K mainGlobals "isinstance" = some none
  ztuple : PySem.W.nsIn K mainGlobals "tuple" = some none
  zlist : PySem.W.nsIn K mainGlobals "list" = some none
  zdict : PySem.W.nsIn K mainGlobals "dict" = some none
  zall : PySem.W.nsIn K mainGlobals "all" = some none
  zany : PySem.W.nsIn K mainGlobals "any" = some none
  zstr : PySem.W.nsIn K mainGlobals "str" = some none
  zint : PySem.W.nsIn K mainGlobals "int" = some none
  zbool : PySem.W.nsIn K mainGlobals "bool" = some none
  zenumerate : PySem.W.nsIn K mainGlobals "enumerate" = some none
  zsum : PySem.W.nsIn K mainGlobals "sum" = some none
  zmax : PySem.W.nsIn K mainGlobals "max" = some none
  zmin : PySem.W.nsIn K mainGlobals "min" = some none
  zreversed : PySem.W.nsIn K mainGlobals "reversed" = some none
  zzip : PySem.W.nsIn K mainGlobals "zip" = some none
theorem all_mk {l : PySem.W.OpenLaw} {w : World} {K : PySem.W.Frag} {h : Heap} {mg : Str → Option Value} {fa : Addr} (X : K.In h) (G : h.Ns mainGlobals mg) (hfa : mg "law" = some (.ref fa)) (tp : Top K) :
    ∃ fd : FuncData, (∀ (s : Shared) (v : Value), BindsTo s fd ⟨[v], []⟩ [("_law_script", v)]) ∧ ∀ base : Heap, K.In base → base.Ns mainGlobals mg → FnOk l.prog w K mg base CX0 12 fa fd ["_law_script"] (spLaw K) := by
  have T : Txt mg := ⟨PySem.W.mg_none_of X G tp.zlen, PySem.W.mg_none_of X G tp.zrange, PySem.W.mg_none_of X G tp.zisinstance, PySem.W.mg_none_of X G tp.ztuple, PySem.W.mg_none_of X G tp.zlist, PySem.W.mg_none_of X G tp.zdict, PySem.W.mg_none_of X G tp.zall, PySem.W.mg_none_of X G tp.zany, PySem.W.mg_none_of X G tp.zstr, PySem.W.mg_none_of X G tp.zint, PySem.W.mg_none_of X G tp.zbool, PySem.W.mg_none_of X G tp.zenumerate, PySem.W.mg_none_of X G tp.zsum, PySem.W.mg_none_of X G tp.zmax, PySem.W.mg_none_of X G tp.zmin, PySem.W.mg_none_of X G tp.zreversed, PySem.W.mg_none_of X G tp.zzip⟩
  obtain ⟨f_heads_of, d_heads_of, F_heads_of, m_heads_of⟩ := tp.h_heads_of.get X G
  have b_heads_of := F_heads_of.binds (ps := ["rules"]) fun _ _ _ _ _ _ us hl => match us, hl with | [_], _ => rfl
  obtain ⟨f_is_number_below, d_is_number_below, F_is_number_below, m_is_number_below⟩ := tp.h_is_number_below.get X G
  have b_is_number_below := F_is_number_below.binds (ps := ["number", "many"]) fun _ _ _ _ _ _ us hl => match us, hl with | [_, _], _ => rfl
  obtain ⟨f_is_rule_of, d_is_rule_of, F_is_rule_of, m_is_rule_of⟩ := tp.h_is_rule_of.get X G
  have b_is_rule_of := F_is_rule_of.binds (ps := ["rules", "number", "name"]) fun _ _ _ _ _ _ us hl => match us, hl with | [_, _, _], _ => rfl
  obtain ⟨f_is_top_of, d_is_top_of, F_is_top_of, m_is_top_of⟩ := tp.h_is_top_of.get X G
  have b_is_top_of := F_is_top_of.binds (ps := ["rules", "tree", "name"]) fun _ _ _ _ _ _ us hl => match us, hl with | [_, _, _], _ => rfl
  obtain ⟨f_tree_stands, d_tree_stands, F_tree_stands, m_tree_stands⟩ := tp.h_tree_stands.get X G
  have b_tree_stands := F_tree_stands.binds (ps := ["rules", "tree", "name"]) fun _ _ _ _ _ _ us hl => match us, hl with | [_, _, _], _ => rfl
  obtain ⟨f_deeds_of_tree, d_deeds_of_tree, F_deeds_of_tree, m_deeds_of_tree⟩ := tp.h_deeds_of_tree.get X G
  have b_deeds_of_tree := F_deeds_of_tree.binds (ps := ["tree"]) fun _ _ _ _ _ _ us hl => match us, hl with | [_], _ => rfl
  obtain ⟨f_is_told, d_is_told, F_is_told, m_is_told⟩ := tp.h_is_told.get X G
  have b_is_told := F_is_told.binds (ps := ["deed", "told"]) fun _ _ _ _ _ _ us hl => match us, hl with | [_, _], _ => rfl
  obtain ⟨f_next_word, d_next_word, F_next_word, m_next_word⟩ := tp.h_next_word.get X G
  have b_next_word := F_next_word.binds (ps := ["deeds", "at"]) fun _ _ _ _ _ _ us hl => match us, hl with | [_, _], _ => rfl
  obtain ⟨f_paper_stands, d_paper_stands, F_paper_stands, m_paper_stands⟩ := tp.h_paper_stands.get X G
  have b_paper_stands := F_paper_stands.binds (ps := ["rules", "paper", "word", "one", "other"]) fun _ _ _ _ _ _ us hl => match us, hl with | [_, _, _, _, _], _ => rfl
  obtain ⟨f__law_cell_at, d__law_cell_at, F__law_cell_at, m__law_cell_at⟩ := tp.h__law_cell_at.get X G
  have b__law_cell_at := F__law_cell_at.binds (ps := ["_law_script", "_law_k"]) fun _ _ _ _ _ _ us hl => match us, hl with | [_, _], _ => rfl
  obtain ⟨f__law_part, d__law_part, F__law_part, m__law_part⟩ := tp.h__law_part.get X G
  have b__law_part := F__law_part.binds (ps := ["_law_cell", "_law_k", "_law_many"]) fun _ _ _ _ _ _ us hl => match us, hl with | [_, _, _], _ => rfl
  obtain ⟨f__law_digits, d__law_digits, F__law_digits, m__law_digits⟩ := tp.h__law_digits.get X G
  have b__law_digits := F__law_digits.binds (ps := ["_law_cell", "_law_many", "_law_some"]) fun _ _ _ _ _ _ us hl => match us, hl with | [_, _, _], _ => rfl
  obtain ⟨f__law_pool, d__law_pool, F__law_pool, m__law_pool⟩ := tp.h__law_pool.get X G
  have b__law_pool := F__law_pool.binds (ps := ["_law_cell"]) fun _ _ _ _ _ _ us hl => match us, hl with | [_], _ => rfl
  obtain ⟨f__law_words_in, d__law_words_in, F__law_words_in, m__law_words_in⟩ := tp.h__law_words_in.get X G
  have b__law_words_in := F__law_words_in.binds (ps := ["_law_rules_here"]) fun _ _ _ _ _ _ us hl => match us, hl with | [_], _ => rfl
  obtain ⟨f__law_free_rules, d__law_free_rules, F__law_free_rules, m__law_free_rules⟩ := tp.h__law_free_rules.get X G
  have b__law_free_rules := F__law_free_rules.binds (ps := ["_law_script", "_law_at", "_law_names", "_law_words"]) fun _ _ _ _ _ _ us hl => match us, hl with | [_, _, _, _], _ => rfl
  obtain ⟨f__law_made_rules, d__law_made_rules, F__law_made_rules, m__law_made_rules⟩ := tp.h__law_made_rules.get X G
  have b__law_made_rules := F__law_made_rules.binds (ps := ["_law_cell", "_law_names", "_law_pool_here"]) fun _ _ _ _ _ _ us hl => match us, hl with | [_, _, _], _ => rfl
  obtain ⟨f__law_ended, d__law_ended, F__law_ended, m__law_ended⟩ := tp.h__law_ended.get X G
  have b__law_ended := F__law_ended.binds (ps := ["_law_rules_here", "_law_words"]) fun _ _ _ _ _ _ us hl => match us, hl with | [_, _], _ => rfl
  obtain ⟨f__law_good, d__law_good, F__law_good, m__law_good⟩ := tp.h__law_good.get X G
  have b__law_good := F__law_good.binds (ps := ["_law_rules_here"]) fun _ _ _ _ _ _ us hl => match us, hl with | [_], _ => rfl
  obtain ⟨f__law_rules, d__law_rules, F__law_rules, m__law_rules⟩ := tp.h__law_rules.get X G
  have b__law_rules := F__law_rules.binds (ps := ["_law_script", "_law_at"]) fun _ _ _ _ _ _ us hl => match us, hl with | [_, _], _ => rfl
  obtain ⟨f__law_ranks, d__law_ranks, F__law_ranks, m__law_ranks⟩ := tp.h__law_ranks.get X G
  have b__law_ranks := F__law_ranks.binds (ps := ["_law_rules_here"]) fun _ _ _ _ _ _ us hl => match us, hl with | [_], _ => rfl
  obtain ⟨f__law_tree, d__law_tree, F__law_tree, m__law_tree⟩ := tp.h__law_tree.get X G
  have b__law_tree := F__law_tree.binds (ps := ["_law_rules_here", "_law_best", "_law_name", "_law_cell", "_law_room"]) fun _ _ _ _ _ _ us hl => match us, hl with | [_, _, _, _, _], _ => rfl
  obtain ⟨f__law_deeds, d__law_deeds, F__law_deeds, m__law_deeds⟩ := tp.h__law_deeds.get X G
  have b__law_deeds := F__law_deeds.binds (ps := ["_law_tree_here"]) fun _ _ _ _ _ _ us hl => match us, hl with | [_], _ => rfl
  obtain ⟨f__law_next, d__law_next, F__law_next, m__law_next⟩ := tp.h__law_next.get X G
  have b__law_next := F__law_next.binds (ps := ["_law_deeds_here", "_law_at"]) fun _ _ _ _ _ _ us hl => match us, hl with | [_, _], _ => rfl
  obtain ⟨f__law_is_tree, d__law_is_tree, F__law_is_tree, m__law_is_tree⟩ := tp.h__law_is_tree.get X G
  have b__law_is_tree := F__law_is_tree.binds (ps := ["_law_rules_here", "_law_tree_here", "_law_name"]) fun _ _ _ _ _ _ us hl => match us, hl with | [_, _, _], _ => rfl
  obtain ⟨f__law_is_paper, d__law_is_paper, F__law_is_paper, m__law_is_paper⟩ := tp.h__law_is_paper.get X G
  have b__law_is_paper := F__law_is_paper.binds (ps := ["_law_rules_here", "_law_paper", "_law_word", "_law_one", "_law_other"]) fun _ _ _ _ _ _ us hl => match us, hl with | [_, _, _, _, _], _ => rfl
  obtain ⟨f__law_parting, d__law_parting, F__law_parting, m__law_parting⟩ := tp.h__law_parting.get X G
  have b__law_parting := F__law_parting.binds (ps := ["_law_first", "_law_second"]) fun _ _ _ _ _ _ us hl => match us, hl with | [_, _], _ => rfl
  obtain ⟨f__law_bent_tree, d__law_bent_tree, F__law_bent_tree, m__law_bent_tree⟩ := tp.h__law_bent_tree.get X G
  have b__law_bent_tree := F__law_bent_tree.binds (ps := ["_law_tree_here", "_law_cell"]) fun _ _ _ _ _ _ us hl => match us, hl with | [_, _], _ => rfl
  obtain ⟨f__law_case, d__law_case, F__law_case, m__law_case⟩ := tp.h__law_case.get X G
  have b__law_case := F__law_case.binds (ps := ["_law_rules_here", "_law_best", "_law_cell"]) fun _ _ _ _ _ _ us hl => match us, hl with | [_, _, _], _ => rfl
  obtain ⟨f9, d9, F9, m9⟩ := tp.hlaw.get X G
  have e := hfa.symm.trans m9
  cases e
  obtain ⟨oc, od, kV, doc, pm, an, cdv, ct, osl, eL, lk, hcd⟩ := F9.ex
  refine ⟨d9, fun s v => ?_, fun base _ _ => ?_⟩
  · rw [eL]; exact .of_eq rfl
  have c_heads_of : CalleeD l.prog w K mg base 1 "heads_of" ["rules"] (spHeads K) := ⟨f_heads_of, d_heads_of, ok_heads F_heads_of T, b_heads_of, F_heads_of.kp, m_heads_of⟩
  have c_is_number_below : CalleeD l.prog w K mg base 1 "is_number_below" ["number", "many"] spBelow := ⟨f_is_number_below, d_is_number_below, ok_below F_is_number_below T, b_is_number_below, F_is_number_below.kp, m_is_number_below⟩
  have c_is_rule_of : CalleeD l.prog w K mg base 2 "is_rule_of" ["rules", "number", "name"] (spRuleOf K) := ⟨f_is_rule_of, d_is_rule_of, ok_ruleOf F_is_rule_of T c_is_number_below, b_is_rule_of, F_is_rule_of.kp, m_is_rule_of⟩
  have c_is_top_of : CalleeD l.prog w K mg base 3 "is_top_of" ["rules", "tree", "name"] (spTop K) := ⟨f_is_top_of, d_is_top_of, ok_top F_is_top_of T c_is_rule_of, b_is_top_of, F_is_top_of.kp, m_is_top_of⟩
  have c_tree_stands : CalleeD l.prog w K mg base 4 "tree_stands" ["rules", "tree", "name"] (spStand K) := ⟨f_tree_stands, d_tree_stands, ok_stand F_tree_stands T T.zip (c_heads_of.mono (by decide)) c_is_top_of, b_tree_stands, F_tree_stands.kp, m_tree_stands⟩
  have c_deeds_of_tree : CalleeD l.prog w K mg base 1 "deeds_of_tree" ["tree"] (spDeeds K) := ⟨f_deeds_of_tree, d_deeds_of_tree, ok_deeds F_deeds_of_tree T, b_deeds_of_tree, F_deeds_of_tree.kp, m_deeds_of_tree⟩
  have c_is_told : CalleeD l.prog w K mg base 1 "is_told" ["deed", "told"] (spTold K) := ⟨f_is_told, d_is_told, ok_told F_is_told T, b_is_told, F_is_told.kp, m_is_told⟩
  have c_next_word : CalleeD l.prog w K mg base 1 "next_word" ["deeds", "at"] (spNextW K) := ⟨f_next_word, d_next_word, ok_nextW F_next_word T, b_next_word, F_next_word.kp, m_next_word⟩
  have c_paper_stands : CalleeD l.prog w K mg base 5 "paper_stands" ["rules", "paper", "word", "one", "other"] (spIsPaper K) := ⟨f_paper_stands, d_paper_stands, ok_paper F_paper_stands T c_tree_stands (c_deeds_of_tree.mono (by decide)) (c_is_told.mono (by decide)) (c_next_word.mono (by decide)), b_paper_stands, F_paper_stands.kp, m_paper_stands⟩
  have c__law_cell_at : CalleeD l.prog w K mg base 1 "_law_cell_at" ["_law_script", "_law_k"] (spCell K) := ⟨f__law_cell_at, d__law_cell_at, ok_cell F__law_cell_at T, b__law_cell_at, F__law_cell_at.kp, m__law_cell_at⟩
  have c__law_part : CalleeD l.prog w K mg base 1 "_law_part" ["_law_cell", "_law_k", "_law_many"] spPart := ⟨f__law_part, d__law_part, ok_part F__law_part T, b__law_part, F__law_part.kp, m__law_part⟩
  have c__law_digits : CalleeD l.prog w K mg base 1 "_law_digits" ["_law_cell", "_law_many", "_law_some"] spDigits := ⟨f__law_digits, d__law_digits, ok_digits F__law_digits T, b__law_digits, F__law_digits.kp, m__law_digits⟩
  have c__law_pool : CalleeD l.prog w K mg base 1 "_law_pool" ["_law_cell"] (spPool K) := ⟨f__law_pool, d__law_pool, ok_pool F__law_pool T, b__law_pool, F__law_pool.kp, m__law_pool⟩
  have c__law_words_in : CalleeD l.prog w K mg base 1 "_law_words_in" ["_law_rules_here"] (spWordsIn K) := ⟨f__law_words_in, d__law_words_in, ok_wordsIn F__law_words_in T, b__law_words_in, F__law_words_in.kp, m__law_words_in⟩
  have c__law_free_rules : CalleeD l.prog w K mg base 2 "_law_free_rules" ["_law_script", "_law_at", "_law_names", "_law_words"] (spFree K) := ⟨f__law_free_rules, d__law_free_rules, ok_free F__law_free_rules T c__law_cell_at c__law_digits, b__law_free_rules, F__law_free_rules.kp, m__law_free_rules⟩
  have c__law_made_rules : CalleeD l.prog w K mg base 2 "_law_made_rules" ["_law_cell", "_law_names", "_law_pool_here"] (spMade K) := ⟨f__law_made_rules, d__law_made_rules, ok_made F__law_made_rules T c__law_part, b__law_made_rules, F__law_made_rules.kp, m__law_made_rules⟩
  have c__law_ended : CalleeD l.prog w K mg base 1 "_law_ended" ["_law_rules_here", "_law_words"] (spEnded K) := ⟨f__law_ended, d__law_ended, ok_ended F__law_ended T, b__law_ended, F__law_ended.kp, m__law_ended⟩
  have c__law_good : CalleeD l.prog w K mg base 2 "_law_good" ["_law_rules_here"] (spGood K) := ⟨f__law_good, d__law_good, ok_good F__law_good T c__law_ended, b__law_good, F__law_good.kp, m__law_good⟩
  have c__law_rules : CalleeD l.prog w K mg base 3 "_law_rules" ["_law_script", "_law_at"] (spRules K) := ⟨f__law_rules, d__law_rules, ok_rules F__law_rules T (c__law_cell_at.mono (by decide)) (c__law_pool.mono (by decide)) c__law_free_rules c__law_good c__law_made_rules, b__law_rules, F__law_rules.kp, m__law_rules⟩
  have c__law_ranks : CalleeD l.prog w K mg base 1 "_law_ranks" ["_law_rules_here"] (spRanks K) := ⟨f__law_ranks, d__law_ranks, ok_ranks F__law_ranks T, b__law_ranks, F__law_ranks.kp, m__law_ranks⟩
  have c__law_tree : CalleeD l.prog w K mg base 1 "_law_tree" ["_law_rules_here", "_law_best", "_law_name", "_law_cell", "_law_room"] (spTree K) := ⟨f__law_tree, d__law_tree, ok_tree F__law_tree T, b__law_tree, F__law_tree.kp, m__law_tree⟩
  have c__law_deeds : CalleeD l.prog w K mg base 1 "_law_deeds" ["_law_tree_here"] (spLDeeds K) := ⟨f__law_deeds, d__law_deeds, ok_ldeeds F__law_deeds T, b__law_deeds, F__law_deeds.kp, m__law_deeds⟩
  have c__law_next : CalleeD l.prog w K mg base 1 "_law_next" ["_law_deeds_here", "_law_at"] (spNextW K) := ⟨f__law_next, d__law_next, ok_lnext F__law_next T, b__law_next, F__law_next.kp, m__law_next⟩
  have c__law_is_tree : CalleeD l.prog w K mg base 1 "_law_is_tree" ["_law_rules_here", "_law_tree_here", "_law_name"] (spIsTree K) := ⟨f__law_is_tree, d__law_is_tree, ok_isTree F__law_is_tree T, b__law_is_tree, F__law_is_tree.kp, m__law_is_tree⟩
  have c__law_is_paper : CalleeD l.prog w K mg base 2 "_law_is_paper" ["_law_rules_here", "_law_paper", "_law_word", "_law_one", "_law_other"] (spIsPaper K) := ⟨f__law_is_paper, d__law_is_paper, ok_isPaper F__law_is_paper T c__law_is_tree c__law_deeds c__law_next, b__law_is_paper, F__law_is_paper.kp, m__law_is_paper⟩
  have c__law_parting : CalleeD l.prog w K mg base 2 "_law_parting" ["_law_first", "_law_second"] (spParting K) := ⟨f__law_parting, d__law_parting, ok_parting F__law_parting T c__law_deeds c__law_next, b__law_parting, F__law_parting.kp, m__law_parting⟩
  have c__law_bent_tree : CalleeD l.prog w K mg base 10 "_law_bent_tree" ["_law_tree_here", "_law_cell"] (spBent K 10) := ⟨f__law_bent_tree, d__law_bent_tree, ok_bent F__law_bent_tree T b__law_bent_tree m__law_bent_tree 10, b__law_bent_tree, F__law_bent_tree.kp, m__law_bent_tree⟩
  have c__law_case : CalleeD l.prog w K mg base 11 "_law_case" ["_law_rules_here", "_law_best", "_law_cell"] (spCase K) := ⟨f__law_case, d__law_case, ok_case F__law_case T (c__law_tree.mono (by decide)) (c__law_parting.mono (by decide)) (c__law_words_in.mono (by decide)) c__law_bent_tree, b__law_case, F__law_case.kp, m__law_case⟩
  exact ok_law F9 T (c__law_cell_at.mono (by decide)) (c__law_rules.mono (by decide)) (c__law_ranks.mono (by decide)) c__law_case (c_paper_stands.mono (by decide)) (c__law_is_paper.mono (by decide))
theorem walk {l : PySem.W.OpenLaw} {q : Program} {loose : List Str} {XP : (Str → Option Value) → Heap → Prop} {YP : World → Heap → Prop} {d : DefRec} {K : Params → PySem.W.Frag} (hn : l.most = some 63) (hdf : d.params.defaults = [])
    (hY : ∀ (w : World) (h : Heap), YP w h → (K w.params).In h)
    (F : ∀ (w : World) (mg : Str → Option Value) (fa : Addr) (h : Heap), (K w.params).In h → h.Ns mainGlobals mg → mg d.name = some (.ref fa) →
      ∃ fd : FuncData, (∀ (s : Shared) (u : Value), BindsTo s fd ⟨[u], []⟩ [("_law_script", u)]) ∧ ∀ base : Heap, (K w.params).In base → base.Ns mainGlobals mg → FnOk l.prog w (K w.params) mg base CX0 12 fa fd ["_law_script"] (spLaw (K w.params))) :
    PySem.W.WalkO q loose XP YP l.row.toRowW d [] (fun f vs => PySem.call f vs) :=
  L2.walk_of (n := 63) (k := 12) (x := "_law_script") (CX := fun _ => CX0) (sp := fun w => spLaw (K w.params)) hn (by decide) hdf ⟨rfl, by decide, by decide⟩ hY F (fun _ _ a ns hl _ hS => ⟨a, ns, rfl, hS, hl, fun _ => rfl⟩) fun _ _ _ _ _ z => z
end J9
namespace HD
open PySem PySem.W
def runT (st : SharedT → Thread → Option (SharedT × Thread)) (ok : Thread → Bool) : Nat → SharedT → Thread → Option SharedT
  | 0, _, _ => none
  | n + 1, s, t => match through t with
    | true => some s
    | false => match ok t with
      | false => none
      | true => match st s t with
        | some (s', t') => runT st ok n s' t'
        | none => none
theorem runT_of {tb : String → Option Builtin} {p : Program} {w : World} {n₀ : Nat} {ann : Option Value} : ∀ {n : Nat} {s s' : SharedT} {t : Thread}, runT (stepT (denote tb) p w) (stepOk n₀ ann) n s t = some s' → topRun tb p w n₀ ann n s.abs t = some s'.abs
  | 0, _, _, _, h => by cases h
  | n + 1, s, s', t, h => by
    unfold runT at h
    unfold topRun
    cases he : through t with
    | true => rw [he] at h; cases h; rfl
    | false =>
      rw [he] at h
      cases hk : stepOk n₀ ann t with
      | false => rw [hk] at h; cases h
      | true =>
        rw [hk] at h
        cases hs : stepT (denote tb) p w s t with
        | none => rw [hs] at h; cases h
        | some r => obtain ⟨s₂, t₂⟩ := r; rw [hs] at h; rw [stepT_spec hs]; exact runT_of h
def ofL : List Obj → Nat → BT → BT
  | [], _, t => t
  | o :: r, i, t => ofL r (i + 1) (t.ins i o)
noncomputable def bootT (P : Params) : BT := ofL (boot_heap P).objs.toList 0 .nil
theorem bootT_abs (P : Params) : absHeap (bootT P) 11 {} = boot_heap P := by kernel_rfl
def forceO {β : Type} : Obj → (Obj → β) → β
  | ⟨c, d, t, s⟩, k => k ⟨c, d, t, s⟩
def forceLO {β : Type} : List Obj → (List Obj → β) → β
  | [], k => k []
  | x :: r, k => forceO x fun y => forceLO r fun ys => k (y :: ys)
theorem forceLO_eq {β : Type} : ∀ (l : List Obj) (k : List Obj → β), forceLO l k = k l
  | [], _ => rfl
  | ⟨c, d, t, s⟩ :: r, k => by
    show forceLO r (fun ys => k (⟨c, d, t, s⟩ :: ys)) = _
    rw [forceLO_eq r]
def looks (p q : Program) (loose : List Str) (Xt : Shared → Bool) {α : Type} (Yf : Shared → α) (g0 : Bool) (h₀ : Heap) (s : Shared) :=
  ((staticsOk (importedModules p.main.body) h₀ s.heap && namesBound p s.heap && gensDone s && laidKept h₀ s.heap), openSeen q loose (importedModules p.main.body) Xt g0 s, Yf s)
def seenT {β : Type} (f : Shared → β) (s : SharedT) : β := forceLO (s.tree.list s.n) fun l => f ⟨⟨l.toArray, s.life⟩, s.gens, s.drawn, s.toks, s.os⟩
theorem seenT_eq {β : Type} (f : Shared → β) (s : SharedT) : seenT f s = f s.abs := forceLO_eq _ _
theorem leftT {p q : Program} {loose : List Str} {Xt : Shared → Bool} {α : Type} {Yf : Shared → α} {Ya : World → α} {N : Nat} {g0 : Bool} {ann : Option Value} {M : Nat}
    (open_ : ∀ w : World, (fencedOpening treeTable p w N).map (fun s => (s.heap, s.gens, s.drawn, s.toks)) = some (boot_heap w.params, Array.mk [], boot_drawn, boot_toks))
    (size : ∀ w : World, ((boot_heap w.params).isNs mainGlobals && (Array.mk [] : Array GenState).size == 0, (boot_heap w.params).objs.size, (boot_heap w.params).nsMap mainGlobals "__annotations__") = (true, 11, ann))
    (run : ∀ (w : World) (os : OsState), (runT (stepT (denote treeTable) p w) (stepOk 11 ann) M ⟨bootT w.params, 11, {}, Array.mk [], boot_drawn, boot_toks, os⟩ (topStub p)).map (seenT (looks p q loose Xt Yf g0 (boot_heap w.params))) = some (true, openGood q loose, Ya w))
    (le : Nat.ble M N = true) : LeftO p q loose Xt Yf Ya N g0 := fun w => by
  obtain ⟨⟨h, gs, d, k, os⟩, e, e'⟩ := Option.map_eq_some_iff.mp (open_ w)
  obtain ⟨rfl, rfl, rfl, rfl⟩ : h = boot_heap w.params ∧ gs = Array.mk [] ∧ d = boot_drawn ∧ k = boot_toks := by simpa using e'
  obtain ⟨z1, z2, z3⟩ : _ ∧ _ ∧ _ := by simpa only [Prod.mk.injEq] using size w
  obtain ⟨s', r0, l0⟩ := Option.map_eq_some_iff.mp (run w os)
  rw [seenT_eq] at l0
  obtain ⟨l1, l2, l3⟩ : _ ∧ _ ∧ _ := by simpa only [looks, Prod.mk.injEq] using l0
  have r := runT_of r0
  have ea : SharedT.abs ⟨bootT w.params, 11, {}, Array.mk [], boot_drawn, boot_toks, os⟩ = ⟨boot_heap w.params, Array.mk [], boot_drawn, boot_toks, os⟩ := by
    unfold SharedT.abs
    rw [bootT_abs]
  rw [ea] at r
  have r := topRun_mono (N - M) _ _ _ _ r
  rw [show M + (N - M) = N by have := Nat.le_of_ble_eq_true le; omega] at r
  have t : topFrom treeTable p w N ⟨boot_heap w.params, Array.mk [], boot_drawn, boot_toks, os⟩ = some s'.abs := by
    unfold topFrom
    dsimp only
    rw [z1, z2, z3, r]
    show (match staticsOk (importedModules p.main.body) (boot_heap w.params) s'.abs.heap && namesBound p s'.abs.heap && gensDone s'.abs && laidKept (boot_heap w.params) s'.abs.heap with | true => _ | false => _) = _
    rw [l1]
  unfold openEnds
  rw [e]
  show (topFrom treeTable p w N _).map _ = _
  rw [t]
  exact congrArg some (Prod.ext l2 l3)
end HD
set_option maxHeartbeats 0
namespace HD
open PySem PySem.W L2
def dE (P : Params) (x : Str) (t : Tok) (v : Value) : DictEntry := ⟨PyData.keyHash P x, .str x t, v⟩
def top (p : Program) (i : Nat) : Stmt := p.main.body.getD i (.Pass ⟨0, 0, 0, 0⟩)
def posOf (s : Stmt) : Pos := match s with
  | .FunctionDef _ _ _ _ _ _ _ _ _ p => p
  | _ => ⟨0, 0, 0, 0⟩
noncomputable def K' (p : Program) (P : Params) : Frag := [
  (2, ⟨.none, none, .dict #[] 0, #[]⟩),
  (3, ⟨.type "dict", none, .dict #[dE P "__name__" 165 (.str "law_wright_k49_papers_checked" 261), dE P "__doc__" 166 (.none), dE P "__package__" 167 (.none), dE P "__loader__" 168 (.builtin "__main__.__loader__#opaque"), dE P "__spec__" 169 (.none), dE P "__annotations__" 170 (.ref 6), dE P "__builtins__" 171 (.ref 4), dE P "__file__" 173 (.str "/claim/cut.py" 172), dE P "__cached__" 174 (.none), dE P "heads_of" 194 (.ref 19), dE P "is_rule_of" 203 (.ref 26), dE P "is_number_below" 211 (.ref 33), dE P "tree_stands" 219 (.ref 38), dE P "is_top_of" 228 (.ref 45), dE P "deeds_of_tree" 240 (.ref 52), dE P "paper_stands" 246 (.ref 57), dE P "is_told" 254 (.ref 64), dE P "next_word" 260 (.ref 69), dE P "_law_cell_at" 270 (.ref 76), dE P "_law_part" 279 (.ref 83), dE P "_law_digits" 291 (.ref 90), dE P "_law_pool" 297 (.ref 95), dE P "_law_words_in" 303 (.ref 100), dE P "_law_free_rules" 317 (.ref 107), dE P "_law_made_rules" 323 (.ref 112), dE P "_law_ended" 329 (.ref 117), dE P "_law_good" 335 (.ref 122), dE P "_law_rules" 347 (.ref 129), dE P "_law_ranks" 353 (.ref 134), dE P "_law_tree" 359 (.ref 139), dE P "_law_deeds" 370 (.ref 146), dE P "_law_next" 379 (.ref 153), dE P "_law_is_tree" 385 (.ref 158), dE P "_law_is_paper" 401 (.ref 165), dE P "_law_parting" 412 (.ref 172), dE P "_law_bent_tree" 418 (.ref 177), dE P "_law_case" 434 (.ref 184), dE P "law" 450 (.ref 191)] 38, #[]⟩),
  (18, ⟨.type "code", none, .fields #[.str "heads_of" 189, .str "heads_of" 190, .str "/claim/cut.py" 191, .int (2) 0, .int (1) 0, .int (0) 0, .int (0) 0, .int (3) 0, .ref 15, .bool true, .int (181) 0, .ref 16, .none, .none, .none, .ref 17, .int (192) 0, .int (2) 0, .str "/claim/cut.py" 193], #[]⟩),
  (19, ⟨.type "function", none, .func (fnOf "heads_of" "heads_of" (defArgs (top p 1)) (defBody (top p 1)) (defScope (top p 1)) (.none) (.none) (.none) (.str "wright.rules" 187) (none) (.ref 18) (.none)), #[]⟩),
  (25, ⟨.type "code", none, .fields #[.str "is_rule_of" 195, .str "is_rule_of" 196, .str "/claim/cut.py" 197, .int (4) 0, .int (3) 0, .int (0) 0, .int (0) 0, .int (3) 0, .ref 20, .bool true, .int (181) 0, .ref 21, .none, .ref 22, .ref 23, .ref 24, .int (201) 0, .int (4) 0, .str "/claim/cut.py" 202], #[]⟩),
  (26, ⟨.type "function", none, .func (fnOf "is_rule_of" "is_rule_of" (defArgs (top p 2)) (defBody (top p 2)) (defScope (top p 2)) (.none) (.none) (.none) (.str "wright.rules" 187) (none) (.ref 25) (.none)), #[]⟩),
  (32, ⟨.type "code", none, .fields #[.str "is_number_below" 204, .str "is_number_below" 205, .str "/claim/cut.py" 206, .int (6) 0, .int (2) 0, .int (0) 0, .int (0) 0, .int (3) 0, .ref 27, .bool true, .int (181) 0, .ref 28, .none, .ref 29, .ref 30, .ref 31, .int (209) 0, .int (6) 0, .str "/claim/cut.py" 210], #[]⟩),
  (33, ⟨.type "function", none, .func (fnOf "is_number_below" "is_number_below" (defArgs (top p 3)) (defBody (top p 3)) (defScope (top p 3)) (.none) (.none) (.none) (.str "wright.rules" 187) (none) (.ref 32) (.none)), #[]⟩),
  (37, ⟨.type "code", none, .fields #[.str "tree_stands" 214, .str "tree_stands" 215, .str "/claim/cut.py" 216, .int (9) 0, .int (3) 0, .int (0) 0, .int (0) 0, .int (3) 0, .ref 34, .bool true, .int (181) 0, .ref 35, .none, .none, .none, .ref 36, .int (217) 0, .int (9) 0, .str "/claim/cut.py" 218], #[]⟩),
  (38, ⟨.type "function", none, .func (fnOf "tree_stands" "tree_stands" (defArgs (top p 5)) (defBody (top p 5)) (defScope (top p 5)) (.none) (.none) (.none) (.str "wright.trees" 212) (none) (.ref 37) (.none)), #[]⟩),
  (44, ⟨.type "code", none, .fields #[.str "is_top_of" 220, .str "is_top_of" 221, .str "/claim/cut.py" 222, .int (23) 0, .int (3) 0, .int (0) 0, .int (0) 0, .int (3) 0, .ref 39, .bool true, .int (181) 0, .ref 40, .none, .ref 41, .ref 42, .ref 43, .int (226) 0, .int (23) 0, .str "/claim/cut.py" 227], #[]⟩),
  (45, ⟨.type "function", none, .func (fnOf "is_top_of" "is_top_of" (defArgs (top p 6)) (defBody (top p 6)) (defScope (top p 6)) (.none) (.none) (.none) (.str "wright.trees" 212) (none) (.ref 44) (.none)), #[]⟩),
  (51, ⟨.type "code", none, .fields #[.str "deeds_of_tree" 231, .str "deeds_of_tree" 232, .str "/claim/cut.py" 233, .int (28) 0, .int (1) 0, .int (0) 0, .int (0) 0, .int (3) 0, .ref 46, .bool true, .int (181) 0, .ref 47, .none, .ref 48, .ref 49, .ref 50, .int (238) 0, .int (28) 0, .str "/claim/cut.py" 239], #[]⟩),
  (52, ⟨.type "function", none, .func (fnOf "deeds_of_tree" "deeds_of_tree" (defArgs (top p 8)) (defBody (top p 8)) (defScope (top p 8)) (.none) (.none) (.none) (.str "wright.clash_papers" 229) (none) (.ref 51) (.none)), #[]⟩),
  (56, ⟨.type "code", none, .fields #[.str "paper_stands" 241, .str "paper_stands" 242, .str "/claim/cut.py" 243, .int (39) 0, .int (5) 0, .int (0) 0, .int (0) 0, .int (3) 0, .ref 53, .bool true, .int (181) 0, .ref 54, .none, .none, .none, .ref 55, .int (244) 0, .int (39) 0, .str "/claim/cut.py" 245], #[]⟩),
  (57, ⟨.type "function", none, .func (fnOf "paper_stands" "paper_stands" (defArgs (top p 9)) (defBody (top p 9)) (defScope (top p 9)) (.none) (.none) (.none) (.str "wright.clash_papers" 229) (none) (.ref 56) (.none)), #[]⟩),
  (63, ⟨.type "code", none, .fields #[.str "is_told" 247, .str "is_told" 248, .str "/claim/cut.py" 249, .int (48) 0, .int (2) 0, .int (0) 0, .int (0) 0, .int (3) 0, .ref 58, .bool true, .int (181) 0, .ref 59, .none, .ref 60, .ref 61, .ref 62, .int (252) 0, .int (48) 0, .str "/claim/cut.py" 253], #[]⟩),
  (64, ⟨.type "function", none, .func (fnOf "is_told" "is_told" (defArgs (top p 10)) (defBody (top p 10)) (defScope (top p 10)) (.none) (.none) (.none) (.str "wright.clash_papers" 229) (none) (.ref 63) (.none)), #[]⟩),
  (68, ⟨.type "code", none, .fields #[.str "next_word" 255, .str "next_word" 256, .str "/claim/cut.py" 257, .int (50) 0, .int (2) 0, .int (0) 0, .int (0) 0, .int (3) 0, .ref 65, .bool true, .int (181) 0, .ref 66, .none, .none, .none, .ref 67, .int (258) 0, .int (50) 0, .str "/claim/cut.py" 259], #[]⟩),
  (69, ⟨.type "function", none, .func (fnOf "next_word" "next_word" (defArgs (top p 11)) (defBody (top p 11)) (defScope (top p 11)) (.none) (.none) (.none) (.str "wright.clash_papers" 229) (none) (.ref 68) (.none)), #[]⟩),
  (75, ⟨.type "code", none, .fields #[.str "_law_cell_at" 263, .str "_law_cell_at" 264, .str "/claim/cut.py" 265, .int (54) 0, .int (2) 0, .int (0) 0, .int (0) 0, .int (3) 0, .ref 70, .bool true, .int (181) 0, .ref 71, .none, .ref 72, .ref 73, .ref 74, .int (268) 0, .int (54) 0, .str "/claim/cut.py" 269], #[]⟩),
  (76, ⟨.type "function", none, .func (fnOf "_law_cell_at" "_law_cell_at" (defArgs (top p 13)) (defBody (top p 13)) (defScope (top p 13)) (.none) (.none) (.none) (.str "law_wright_k49_papers_checked" 261) (none) (.ref 75) (.none)), #[]⟩),
  (82, ⟨.type "code", none, .fields #[.str "_law_part" 271, .str "_law_part" 272, .str "/claim/cut.py" 273, .int (58) 0, .int (3) 0, .int (0) 0, .int (0) 0, .int (3) 0, .ref 77, .bool true, .int (181) 0, .ref 78, .none, .ref 79, .ref 80, .ref 81, .int (277) 0, .int (58) 0, .str "/claim/cut.py" 278], #[]⟩),
  (83, ⟨.type "function", none, .func (fnOf "_law_part" "_law_part" (defArgs (top p 14)) (defBody (top p 14)) (defScope (top p 14)) (.none) (.none) (.none) (.str "law_wright_k49_papers_checked" 261) (none) (.ref 82) (.none)), #[]⟩),
  (89, ⟨.type "code", none, .fields #[.str "_law_digits" 280, .str "_law_digits" 281, .str "/claim/cut.py" 282, .int (60) 0, .int (3) 0, .int (0) 0, .int (0) 0, .int (3) 0, .ref 84, .bool true, .int (181) 0, .ref 85, .none, .ref 86, .ref 87, .ref 88, .int (289) 0, .int (60) 0, .str "/claim/cut.py" 290], #[]⟩),
  (90, ⟨.type "function", none, .func (fnOf "_law_digits" "_law_digits" (defArgs (top p 15)) (defBody (top p 15)) (defScope (top p 15)) (.none) (.none) (.none) (.str "law_wright_k49_papers_checked" 261) (none) (.ref 89) (.none)), #[]⟩),
  (94, ⟨.type "code", none, .fields #[.str "_law_pool" 292, .str "_law_pool" 293, .str "/claim/cut.py" 294, .int (71) 0, .int (1) 0, .int (0) 0, .int (0) 0, .int (3) 0, .ref 91, .bool true, .int (181) 0, .ref 92, .none, .none, .none, .ref 93, .int (295) 0, .int (71) 0, .str "/claim/cut.py" 296], #[]⟩),
  (95, ⟨.type "function", none, .func (fnOf "_law_pool" "_law_pool" (defArgs (top p 16)) (defBody (top p 16)) (defScope (top p 16)) (.none) (.none) (.none) (.str "law_wright_k49_papers_checked" 261) (none) (.ref 94) (.none)), #[]⟩),
  (99, ⟨.type "code", none, .fields #[.str "_law_words_in" 298, .str "_law_words_in" 299, .str "/claim/cut.py" 300, .int (75) 0, .int (1) 0, .int (0) 0, .int (0) 0, .int (3) 0, .ref 96, .bool true, .int (181) 0, .ref 97, .none, .none, .none, .ref 98, .int (301) 0, .int (75) 0, .str "/claim/cut.py" 302], #[]⟩),
  (100, ⟨.type "function", none, .func (fnOf "_law_words_in" "_law_words_in" (defArgs (top p 17)) (defBody (top p 17)) (defScope (top p 17)) (.none) (.none) (.none) (.str "law_wright_k49_papers_checked" 261) (none) (.ref 99) (.none)), #[]⟩),
  (106, ⟨.type "code", none, .fields #[.str "_law_free_rules" 304, .str "_law_free_rules" 305, .str "/claim/cut.py" 306, .int (83) 0, .int (4) 0, .int (0) 0, .int (0) 0, .int (3) 0, .ref 101, .bool true, .int (181) 0, .ref 102, .none, .ref 103, .ref 104, .ref 105, .int (315) 0, .int (83) 0, .str "/claim/cut.py" 316], #[]⟩),
  (107, ⟨.type "function", none, .func (fnOf "_law_free_rules" "_law_free_rules" (defArgs (top p 18)) (defBody (top p 18)) (defScope (top p 18)) (.none) (.none) (.none) (.str "law_wright_k49_papers_checked" 261) (none) (.ref 106) (.none)), #[]⟩),
  (111, ⟨.type "code", none, .fields #[.str "_law_made_rules" 318, .str "_law_made_rules" 319, .str "/claim/cut.py" 320, .int (90) 0, .int (3) 0, .int (0) 0, .int (0) 0, .int (3) 0, .ref 108, .bool true, .int (181) 0, .ref 109, .none, .none, .none, .ref 110, .int (321) 0, .int (90) 0, .str "/claim/cut.py" 322], #[]⟩),
  (112, ⟨.type "function", none, .func (fnOf "_law_made_rules" "_law_made_rules" (defArgs (top p 19)) (defBody (top p 19)) (defScope (top p 19)) (.none) (.none) (.none) (.str "law_wright_k49_papers_checked" 261) (none) (.ref 111) (.none)), #[]⟩),
  (116, ⟨.type "code", none, .fields #[.str "_law_ended" 324, .str "_law_ended" 325, .str "/claim/cut.py" 326, .int (108) 0, .int (2) 0, .int (0) 0, .int (0) 0, .int (3) 0, .ref 113, .bool true, .int (181) 0, .ref 114, .none, .none, .none, .ref 115, .int (327) 0, .int (108) 0, .str "/claim/cut.py" 328], #[]⟩),
  (117, ⟨.type "function", none, .func (fnOf "_law_ended" "_law_ended" (defArgs (top p 20)) (defBody (top p 20)) (defScope (top p 20)) (.none) (.none) (.none) (.str "law_wright_k49_papers_checked" 261) (none) (.ref 116) (.none)), #[]⟩),
  (121, ⟨.type "code", none, .fields #[.str "_law_good" 330, .str "_law_good" 331, .str "/claim/cut.py" 332, .int (117) 0, .int (1) 0, .int (0) 0, .int (0) 0, .int (3) 0, .ref 118, .bool true, .int (181) 0, .ref 119, .none, .none, .none, .ref 120, .int (333) 0, .int (117) 0, .str "/claim/cut.py" 334], #[]⟩),
  (122, ⟨.type "function", none, .func (fnOf "_law_good" "_law_good" (defArgs (top p 21)) (defBody (top p 21)) (defScope (top p 21)) (.none) (.none) (.none) (.str "law_wright_k49_papers_checked" 261) (none) (.ref 121) (.none)), #[]⟩),
  (128, ⟨.type "code", none, .fields #[.str "_law_rules" 336, .str "_law_rules" 337, .str "/claim/cut.py" 338, .int (139) 0, .int (2) 0, .int (0) 0, .int (0) 0, .int (3) 0, .ref 123, .bool true, .int (181) 0, .ref 124, .none, .ref 125, .ref 126, .ref 127, .int (345) 0, .int (139) 0, .str "/claim/cut.py" 346], #[]⟩),
  (129, ⟨.type "function", none, .func (fnOf "_law_rules" "_law_rules" (defArgs (top p 22)) (defBody (top p 22)) (defScope (top p 22)) (.none) (.none) (.none) (.str "law_wright_k49_papers_checked" 261) (none) (.ref 128) (.none)), #[]⟩),
  (133, ⟨.type "code", none, .fields #[.str "_law_ranks" 348, .str "_law_ranks" 349, .str "/claim/cut.py" 350, .int (147) 0, .int (1) 0, .int (0) 0, .int (0) 0, .int (3) 0, .ref 130, .bool true, .int (181) 0, .ref 131, .none, .none, .none, .ref 132, .int (351) 0, .int (147) 0, .str "/claim/cut.py" 352], #[]⟩),
  (134, ⟨.type "function", none, .func (fnOf "_law_ranks" "_law_ranks" (defArgs (top p 23)) (defBody (top p 23)) (defScope (top p 23)) (.none) (.none) (.none) (.str "law_wright_k49_papers_checked" 261) (none) (.ref 133) (.none)), #[]⟩),
  (138, ⟨.type "code", none, .fields #[.str "_law_tree" 354, .str "_law_tree" 355, .str "/claim/cut.py" 356, .int (157) 0, .int (5) 0, .int (0) 0, .int (0) 0, .int (3) 0, .ref 135, .bool true, .int (181) 0, .ref 136, .none, .none, .none, .ref 137, .int (357) 0, .int (157) 0, .str "/claim/cut.py" 358], #[]⟩),
  (139, ⟨.type "function", none, .func (fnOf "_law_tree" "_law_tree" (defArgs (top p 24)) (defBody (top p 24)) (defScope (top p 24)) (.none) (.none) (.none) (.str "law_wright_k49_papers_checked" 261) (none) (.ref 138) (.none)), #[]⟩),
  (145, ⟨.type "code", none, .fields #[.str "_law_deeds" 360, .str "_law_deeds" 361, .str "/claim/cut.py" 362, .int (180) 0, .int (1) 0, .int (0) 0, .int (0) 0, .int (3) 0, .ref 140, .bool true, .int (181) 0, .ref 141, .none, .ref 142, .ref 143, .ref 144, .int (368) 0, .int (180) 0, .str "/claim/cut.py" 369], #[]⟩),
  (146, ⟨.type "function", none, .func (fnOf "_law_deeds" "_law_deeds" (defArgs (top p 25)) (defBody (top p 25)) (defScope (top p 25)) (.none) (.none) (.none) (.str "law_wright_k49_papers_checked" 261) (none) (.ref 145) (.none)), #[]⟩),
  (152, ⟨.type "code", none, .fields #[.str "_law_next" 371, .str "_law_next" 372, .str "/claim/cut.py" 373, .int (194) 0, .int (2) 0, .int (0) 0, .int (0) 0, .int (3) 0, .ref 147, .bool true, .int (181) 0, .ref 148, .none, .ref 149, .ref 150, .ref 151, .int (377) 0, .int (194) 0, .str "/claim/cut.py" 378], #[]⟩),
  (153, ⟨.type "function", none, .func (fnOf "_law_next" "_law_next" (defArgs (top p 26)) (defBody (top p 26)) (defScope (top p 26)) (.none) (.none) (.none) (.str "law_wright_k49_papers_checked" 261) (none) (.ref 152) (.none)), #[]⟩),
  (157, ⟨.type "code", none, .fields #[.str "_law_is_tree" 380, .str "_law_is_tree" 381, .str "/claim/cut.py" 382, .int (199) 0, .int (3) 0, .int (0) 0, .int (0) 0, .int (3) 0, .ref 154, .bool true, .int (181) 0, .ref 155, .none, .none, .none, .ref 156, .int (383) 0, .int (199) 0, .str "/claim/cut.py" 384], #[]⟩),
  (158, ⟨.type "function", none, .func (fnOf "_law_is_tree" "_law_is_tree" (defArgs (top p 27)) (defBody (top p 27)) (defScope (top p 27)) (.none) (.none) (.none) (.str "law_wright_k49_papers_checked" 261) (none) (.ref 157) (.none)), #[]⟩),
  (164, ⟨.type "code", none, .fields #[.str "_law_is_paper" 386, .str "_law_is_paper" 387, .str "/claim/cut.py" 388, .int (215) 0, .int (5) 0, .int (0) 0, .int (0) 0, .int (3) 0, .ref 159, .bool true, .int (181) 0, .ref 160, .none, .ref 161, .ref 162, .ref 163, .int (399) 0, .int (215) 0, .str "/claim/cut.py" 400], #[]⟩),
  (165, ⟨.type "function", none, .func (fnOf "_law_is_paper" "_law_is_paper" (defArgs (top p 28)) (defBody (top p 28)) (defScope (top p 28)) (.none) (.none) (.none) (.str "law_wright_k49_papers_checked" 261) (none) (.ref 164) (.none)), #[]⟩),
  (171, ⟨.type "code", none, .fields #[.str "_law_parting" 402, .str "_law_parting" 403, .str "/claim/cut.py" 404, .int (227) 0, .int (2) 0, .int (0) 0, .int (0) 0, .int (3) 0, .ref 166, .bool true, .int (181) 0, .ref 167, .none, .ref 168, .ref 169, .ref 170, .int (410) 0, .int (227) 0, .str "/claim/cut.py" 411], #[]⟩),
  (172, ⟨.type "function", none, .func (fnOf "_law_parting" "_law_parting" (defArgs (top p 29)) (defBody (top p 29)) (defScope (top p 29)) (.none) (.none) (.none) (.str "law_wright_k49_papers_checked" 261) (none) (.ref 171) (.none)), #[]⟩),
  (176, ⟨.type "code", none, .fields #[.str "_law_bent_tree" 413, .str "_law_bent_tree" 414, .str "/claim/cut.py" 415, .int (234) 0, .int (2) 0, .int (0) 0, .int (0) 0, .int (3) 0, .ref 173, .bool true, .int (181) 0, .ref 174, .none, .none, .none, .ref 175, .int (416) 0, .int (234) 0, .str "/claim/cut.py" 417], #[]⟩),
  (177, ⟨.type "function", none, .func (fnOf "_law_bent_tree" "_law_bent_tree" (defArgs (top p 30)) (defBody (top p 30)) (defScope (top p 30)) (.none) (.none) (.none) (.str "law_wright_k49_papers_checked" 261) (none) (.ref 176) (.none)), #[]⟩),
  (183, ⟨.type "code", none, .fields #[.str "_law_case" 419, .str "_law_case" 420, .str "/claim/cut.py" 421, .int (247) 0, .int (3) 0, .int (0) 0, .int (0) 0, .int (3) 0, .ref 178, .bool true, .int (181) 0, .ref 179, .none, .ref 180, .ref 181, .ref 182, .int (432) 0, .int (247) 0, .str "/claim/cut.py" 433], #[]⟩),
  (184, ⟨.type "function", none, .func (fnOf "_law_case" "_law_case" (defArgs (top p 31)) (defBody (top p 31)) (defScope (top p 31)) (.none) (.none) (.none) (.str "law_wright_k49_papers_checked" 261) (none) (.ref 183) (.none)), #[]⟩),
  (190, ⟨.type "code", none, .fields #[.str "law" 435, .str "law" 436, .str "/claim/cut.py" 437, .int (268) 0, .int (1) 0, .int (0) 0, .int (0) 0, .int (3) 0, .ref 185, .bool true, .int (181) 0, .ref 186, .none, .ref 187, .ref 188, .ref 189, .int (448) 0, .int (268) 0, .str "/claim/cut.py" 449], #[]⟩),
  (191, ⟨.type "function", none, .func (fnOf "law" "law" (defArgs (top p 32)) (defBody (top p 32)) (defScope (top p 32)) (.none) (.none) (.none) (.str "law_wright_k49_papers_checked" 261) (none) (.ref 190) (.none)), #[]⟩)]
def as : List Addr := [2, 3, 18, 19, 25, 26, 32, 33, 37, 38, 44, 45, 51, 52, 56, 57, 63, 64, 68, 69, 75, 76, 82, 83, 89, 90, 94, 95, 99, 100, 106, 107, 111, 112, 116, 117, 121, 122, 128, 129, 133, 134, 138, 139, 145, 146, 152, 153, 157, 158, 164, 165, 171, 172, 176, 177, 183, 184, 190, 191]
def q' (p : Program) : Program := view p [1, 2, 3, 5, 6, 8, 9, 10, 11, 13, 14, 15, 16, 17, 18, 19, 20, 21, 22, 23, 24, 25, 26, 27, 28, 29, 30, 31, 32]
abbrev loose : List Str := []
abbrev steps : Nat := 927
abbrev bound : Nat := 2834
abbrev law : OpenLaw := PySem.Challenge.rw_wright_k49_papers_checked
noncomputable abbrev K (P : Params) : Frag := K' PySem.Challenge.pw_wright_k49_papers_checked P
theorem as_eq (P : Params) : as = (K P).map (·.1) := by kernel_rfl
noncomputable abbrev hook : Hook := kHook K as as_eq
theorem pre (h : law.row.wellSaid = true → law.row.Holds) : law.Holds := by
  o_law
  exact h (by assumption)
abbrev Xt : Shared → Bool := fun s => xlAt (q' PySem.Challenge.pw_wright_k49_papers_checked) [] s && recOk (RowW.records (OpenRow.toRowW (OpenLaw.row PySem.Challenge.rw_wright_k49_papers_checked))) s
theorem run (w : World) (os : OsState) : (runT (stepT (denote treeTable) PySem.Challenge.pw_wright_k49_papers_checked w) (stepOk 11 (some (.ref 6))) steps ⟨bootT w.params, 11, {}, Array.mk [], boot_drawn, boot_toks, os⟩ (topStub PySem.Challenge.pw_wright_k49_papers_checked)).map
    (seenT (looks PySem.Challenge.pw_wright_k49_papers_checked (q' PySem.Challenge.pw_wright_k49_papers_checked) loose Xt (Hook.obs hook) true (boot_heap w.params))) = some (true, openGood (q' PySem.Challenge.pw_wright_k49_papers_checked) loose, Hook.val hook w) := by
  rw [PySem.W.Fast.te10156331382660048174, PySem.W.Fast.te11892475500146522536, PySem.W.Fast.te14364793385576792824, PySem.W.Fast.te6613529449190102663, PySem.W.Fast.te16786872196350714950]
  kernel_rfl
theorem size (w : World) : ((boot_heap w.params).isNs mainGlobals && (Array.mk [] : Array GenState).size == 0, (boot_heap w.params).objs.size, (boot_heap w.params).nsMap mainGlobals "__annotations__") = (true, 11, some (.ref 6)) := by kernel_rfl
theorem open_ : ∀ w : World, (fencedOpening treeTable PySem.Challenge.pw_wright_k49_papers_checked w bound).map (fun s => (s.heap, s.gens, s.drawn, s.toks)) = some (boot_heap w.params, Array.mk [], boot_drawn, boot_toks) :=
  boot_open (by kernel_rfl) (by decide +kernel) (fun s => by kernel_rfl)
theorem left : LeftO (OpenRow.toRowW law.row).prog (q' PySem.Challenge.pw_wright_k49_papers_checked) loose Xt (Hook.obs hook) (Hook.val hook) bound := leftT open_ size run (by decide +kernel)
def lawRec : DefRec := { name := "law", params := defArgs (top PySem.Challenge.pw_wright_k49_papers_checked 32), body := defBody (top PySem.Challenge.pw_wright_k49_papers_checked 32), scope := defScope (top PySem.Challenge.pw_wright_k49_papers_checked 32), pos := posOf (top PySem.Challenge.pw_wright_k49_papers_checked 32) }
theorem ok1 : defOf (q' PySem.Challenge.pw_wright_k49_papers_checked) law.row.name = some (lawRec, []) := by kernel_rfl
theorem ok2 : law.row.prog.theDef law.row.name = some (lawRec.params, lawRec.body, lawRec.scope) := by kernel_rfl
theorem ok3 : kwWritten? lawRec.params.kwonlyargs lawRec.params.kw_defaults = some [] := by kernel_rfl
theorem ok4 : (chainsOk (q' PySem.Challenge.pw_wright_k49_papers_checked) && opensWell law.row.prog && (frees law.row.toRowW && law.row.within.isEmpty)) = true := by kernel_rfl
theorem ok5 : lawRec.params.defaults = [] := by kernel_rfl
theorem hold (h : WalkO (q' PySem.Challenge.pw_wright_k49_papers_checked) loose (XL (q' PySem.Challenge.pw_wright_k49_papers_checked) []) (Hook.says hook) law.row.toRowW lawRec [] fun f vs => PySem.call f vs) (hw : law.row.toRowW.promised) : law.Holds :=
  pre fun said => holds_open (q := q' PySem.Challenge.pw_wright_k49_papers_checked) (loose := loose) (Xt := Xt) (XP := XL (q' PySem.Challenge.pw_wright_k49_papers_checked) []) (Yf := Hook.obs hook) (Ya := Hook.val hook) (YP := Hook.says hook) (N := bound) left (Hook.of hook) (Hook.keeps hook) (fun s e => xl_of s (Bool.and_eq_true_iff.mp e).1) XL.keeps ok1 ok2 ok3 (fun s e => recFacts_of (Bool.and_eq_true_iff.mp e).2) rfl said ok4 ⟨rfl, rfl, rfl, rfl, rfl, by decide +kernel⟩ hw h
end HD
namespace HD
open PySem PySem.W
theorem tops (P : Params) : J9.Top (K P) := ⟨⟨19, .type "function", none, none, #[], .none, .none, .str "wright.rules" 187, .ref 18, .none, by kernel_rfl, by kernel_rfl, by kernel_rfl, by kernel_rfl⟩,
  ⟨33, .type "function", none, none, #[], .none, .none, .str "wright.rules" 187, .ref 32, .none, by kernel_rfl, by kernel_rfl, by kernel_rfl, by kernel_rfl⟩,
  ⟨26, .type "function", none, none, #[], .none, .none, .str "wright.rules" 187, .ref 25, .none, by kernel_rfl, by kernel_rfl, by kernel_rfl, by kernel_rfl⟩,
  ⟨45, .type "function", none, none, #[], .none, .none, .str "wright.trees" 212, .ref 44, .none, by kernel_rfl, by kernel_rfl, by kernel_rfl, by kernel_rfl⟩,
  ⟨38, .type "function", none, none, #[], .none, .none, .str "wright.trees" 212, .ref 37, .none, by kernel_rfl, by kernel_rfl, by kernel_rfl, by kernel_rfl⟩,
  ⟨52, .type "function", none, none, #[], .none, .none, .str "wright.clash_papers" 229, .ref 51, .none, by kernel_rfl, by kernel_rfl, by kernel_rfl, by kernel_rfl⟩,
  ⟨64, .type "function", none, none, #[], .none, .none, .str "wright.clash_papers" 229, .ref 63, .none, by kernel_rfl, by kernel_rfl, by kernel_rfl, by kernel_rfl⟩,
  ⟨69, .type "function", none, none, #[], .none, .none, .str "wright.clash_papers" 229, .ref 68, .none, by kernel_rfl, by kernel_rfl, by kernel_rfl, by kernel_rfl⟩,
  ⟨57, .type "function", none, none, #[], .none, .none, .str "wright.clash_papers" 229, .ref 56, .none, by kernel_rfl, by kernel_rfl, by kernel_rfl, by kernel_rfl⟩,
  ⟨76, .type "function", none, none, #[], .none, .none, .str "law_wright_k49_papers_checked" 261, .ref 75, .none, by kernel_rfl, by kernel_rfl, by kernel_rfl, by kernel_rfl⟩,
  ⟨83, .type "function", none, none, #[], .none, .none, .str "law_wright_k49_papers_checked" 261, .ref 82, .none, by kernel_rfl, by kernel_rfl, by kernel_rfl, by kernel_rfl⟩,
  ⟨90, .type "function", none, none, #[], .none, .none, .str "law_wright_k49_papers_checked" 261, .ref 89, .none, by kernel_rfl, by kernel_rfl, by kernel_rfl, by kernel_rfl⟩,
  ⟨95, .type "function", none, none, #[], .none, .none, .str "law_wright_k49_papers_checked" 261, .ref 94, .none, by kernel_rfl, by kernel_rfl, by kernel_rfl, by kernel_rfl⟩,
  ⟨100, .type "function", none, none, #[], .none, .none, .str "law_wright_k49_papers_checked" 261, .ref 99, .none, by kernel_rfl, by kernel_rfl, by kernel_rfl, by kernel_rfl⟩,
  ⟨107, .type "function", none, none, #[], .none, .none, .str "law_wright_k49_papers_checked" 261, .ref 106, .none, by kernel_rfl, by kernel_rfl, by kernel_rfl, by kernel_rfl⟩,
  ⟨112, .type "function", none, none, #[], .none, .none, .str "law_wright_k49_papers_checked" 261, .ref 111, .none, by kernel_rfl, by kernel_rfl, by kernel_rfl, by kernel_rfl⟩,
  ⟨117, .type "function", none, none, #[], .none, .none, .str "law_wright_k49_papers_checked" 261, .ref 116, .none, by kernel_rfl, by kernel_rfl, by kernel_rfl, by kernel_rfl⟩,
  ⟨122, .type "function", none, none, #[], .none, .none, .str "law_wright_k49_papers_checked" 261, .ref 121, .none, by kernel_rfl, by kernel_rfl, by kernel_rfl, by kernel_rfl⟩,
  ⟨129, .type "function", none, none, #[], .none, .none, .str "law_wright_k49_papers_checked" 261, .ref 128, .none, by kernel_rfl, by kernel_rfl, by kernel_rfl, by kernel_rfl⟩,
  ⟨134, .type "function", none, none, #[], .none, .none, .str "law_wright_k49_papers_checked" 261, .ref 133, .none, by kernel_rfl, by kernel_rfl, by kernel_rfl, by kernel_rfl⟩,
  ⟨139, .type "function", none, none, #[], .none, .none, .str "law_wright_k49_papers_checked" 261, .ref 138, .none, by kernel_rfl, by kernel_rfl, by kernel_rfl, by kernel_rfl⟩,
  ⟨146, .type "function", none, none, #[], .none, .none, .str "law_wright_k49_papers_checked" 261, .ref 145, .none, by kernel_rfl, by kernel_rfl, by kernel_rfl, by kernel_rfl⟩,
  ⟨153, .type "function", none, none, #[], .none, .none, .str "law_wright_k49_papers_checked" 261, .ref 152, .none, by kernel_rfl, by kernel_rfl, by kernel_rfl, by kernel_rfl⟩,
  ⟨158, .type "function", none, none, #[], .none, .none, .str "law_wright_k49_papers_checked" 261, .ref 157, .none, by kernel_rfl, by kernel_rfl, by kernel_rfl, by kernel_rfl⟩,
  ⟨165, .type "function", none, none, #[], .none, .none, .str "law_wright_k49_papers_checked" 261, .ref 164, .none, by kernel_rfl, by kernel_rfl, by kernel_rfl, by kernel_rfl⟩,
  ⟨172, .type "function", none, none, #[], .none, .none, .str "law_wright_k49_papers_checked" 261, .ref 171, .none, by kernel_rfl, by kernel_rfl, by kernel_rfl, by kernel_rfl⟩,
  ⟨177, .type "function", none, none, #[], .none, .none, .str "law_wright_k49_papers_checked" 261, .ref 176, .none, by kernel_rfl, by kernel_rfl, by kernel_rfl, by kernel_rfl⟩,
  ⟨184, .type "function", none, none, #[], .none, .none, .str "law_wright_k49_papers_checked" 261, .ref 183, .none, by kernel_rfl, by kernel_rfl, by kernel_rfl, by kernel_rfl⟩,
  ⟨191, .type "function", none, none, #[], .none, .none, .str "law_wright_k49_papers_checked" 261, .ref 190, .none, by kernel_rfl, by kernel_rfl, by kernel_rfl, by kernel_rfl⟩,
  by kernel_rfl,
  by kernel_rfl,
  by kernel_rfl,
  by kernel_rfl,
  by kernel_rfl,
  by kernel_rfl,
  by kernel_rfl,
  by kernel_rfl,
  by kernel_rfl,
  by kernel_rfl,
  by kernel_rfl,
  by kernel_rfl,
  by kernel_rfl,
  by kernel_rfl,
  by kernel_rfl,
  by kernel_rfl,
  by kernel_rfl⟩
end HD
theorem PySem.Challenge.cw_wright_k49_papers_checked_holds : PySem.Challenge.rw_wright_k49_papers_checked.Holds := by
  refine HD.hold ?_ ?hw
  case hw => w_witness2
  refine J9.walk (l := PySem.Challenge.rw_wright_k49_papers_checked) (K := HD.K) rfl HD.ok5 (fun w h Y => PySem.W.kIn_of Y) ?F
  intro w mg fa h KX G hmg
  exact J9.all_mk KX G hmg (HD.tops w.params)
